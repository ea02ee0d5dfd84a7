import PyProof.Rows.All
import Wide.All
import OpenK.AllK
import Wide.FinOn
import KE.KDictList
import KE.KDictOf
import KE.KItemsList
import KE.KRevSl
import KE.KSortTup
import KE.LcSums
import Lean
import PyProof.AttrMissSeq
import PyProof.AutoSeq1
import PyProof.DictRoadsH
import PyProof.DictWalks
import PyProof.EnumStmt
import PyProof.EqAt
import PyProof.EqKinds
import PyProof.ExcInit
import PyProof.FactsAll.tuple
import PyProof.FactsAll.zip_1
import PyProof.ListMulRoad
import PyProof.ListOps
import PyProof.ListRange
import PyProof.NeKinds
import PyProof.ReprRoads
import PyProof.Rows.SumGenD
import PyProof.SeqRoads2
import PyProof.StrWalks
import PyProof.SumWalk
import PyProof.TupleCall
import PyProof.TupleOfGen
import PyProof.WalksMore
import PyProof.ZipIter
import PySem.Challenge.RW_wantway_k93_many_cells_that_end
set_option Elab.async false
set_option linter.all false
set_option maxRecDepth 100000
set_option maxHeartbeats 8000000
set_option tactic.hygienic false
section
local macro_rules|`(tactic|exists $es,*)=>`(tactic|refine ⟨$es,*, ?_⟩)
theorem Y{α:Sort u}{a:α}:a=a:=rfl
abbrev vx:=@List.getElem?_append_right
abbrev vy:=@List.length_singleton
abbrev vz:=@List.getElem?_append_left
abbrev jf:=@List.eq_nil_of_length_eq_zero
abbrev jg:=@List.dropLast_concat_getLast
abbrev jh:=@List.mem_append_left
abbrev ji:=@List.nodup_append
abbrev jj:=@Nat.lt_succ_self
abbrev jk:=@List.map_map
abbrev jm:=@List.getD_eq_getElem?_getD
abbrev jn:=@List.mem_iff_getElem?
abbrev jo:=@PySem.wpAny_setField_rec
abbrev jp:=@List.mem_of_find?_eq_some
abbrev jq:=@List.lookup_cons
abbrev jr:=@List.length_dropLast
abbrev js:=@List.length_range
abbrev jt:=@Nat.lt_irrefl
abbrev ju:=@PySem.W.mg_none_of
abbrev jx:=@Nat.sub_self
abbrev jy:=@Nat.le_add_right
abbrev jz:=@PySem.wpAny_truthy_bool
abbrev jA:=@PySem.wpAny_call_entry
abbrev jB:=@List.find?_cons
abbrev jC:=@PySem.wpAny_seqItems
abbrev jD:=@List.pairwise_iff_getElem
abbrev jE:=@Nat.min_eq_left
abbrev jF:=@Nat.succ_le_succ
abbrev jG:=@PyProof.Rows.callWith_type1
abbrev jH:=@List.mem_range
abbrev jI:=@PySem.Heap.size_push
abbrev jJ:=@List.mem_iff_getElem
abbrev jK:=@List.flatMap_cons
abbrev jL:=@List.append_nil
abbrev jM:=@Nat.ne_of_gt
abbrev jN:=@Nat.succ_mul
abbrev jO:=@Int.emod_lt_of_pos
abbrev jP:=@List.map_singleton
abbrev jQ:=@List.range_succ
abbrev jR:=@List.take_sublist
abbrev jS:=@Nat.lt_or_ge
abbrev jT:=@PySem.mem_of_lookup
abbrev jU:=@PySem.F.slot_zip_next
abbrev jV:=@List.replicate_succ
abbrev jW:=@List.mem_map_of_mem
abbrev jX:=@PySem.wpAny_newObj_type
abbrev jY:=@Nat.le_max_right
abbrev jZ:=@PySem.wpAny_standAt
abbrev j0:=@Bool.false_eq_true
abbrev j3:=@Bool.eq_iff_iff
abbrev j5:=@List.nodup_cons
abbrev j6:=@Nat.le_max_left
abbrev j7:=@Int.emod_nonneg
abbrev j8:=@PySem.wpAny_passesOwn
abbrev j9:=@List.map_nil
abbrev qa:=@Nat.le_of_not_lt
abbrev qb:=@List.getElem_map
abbrev qc:=@List.getElem?_range
abbrev qd:=@List.map_congr_left
abbrev qe:=@PySem.wpAny_rule
abbrev qf:=@List.forIn_cons
abbrev qg:=@List.foldl_cons
abbrev qh:=@PySem.W.kia_one
abbrev qi:=@Nat.lt_of_le_of_lt
abbrev qj:=@Nat.sub_le
abbrev qk:=@List.zip_cons_cons
abbrev qm:=@List.getElem?_replicate
abbrev qr:=@Int.toNat_natCast
abbrev qv:=@Option.isSome_map
abbrev qw:=@List.nodup_nil
abbrev qx:=@List.append_assoc
abbrev qy:=@List.foldl_append
abbrev qz:=@Bool.not_eq_true'
abbrev qA:=@Nat.mul_le_mul
abbrev qB:=@PySem.wpAny_specialOf
abbrev qC:=@PySem.wpAny_Call_Name_kw
abbrev qD:=@PySem.tupleKind_room_in1
abbrev qF:=@List.getElem?_eq_none
abbrev qG:=@List.length_drop
abbrev qH:=@List.not_mem_nil
abbrev qI:=@List.any_cons
abbrev qJ:=@List.map_take
abbrev qK:=@PySem.wpAny_pyIter_list
abbrev qL:=@Nat.mul_le_mul_right
abbrev qM:=@Array.length_toList
abbrev qN:=@Nat.add_le_add_left
abbrev qO:=@PySem.F.slot_enumerate_next
abbrev qP:=@PySem.wpAny_isInstance
abbrev qQ:=@Nat.add_comm
abbrev qR:=@PySem.wpAny_attempt
abbrev qS:=@List.find?_eq_none
abbrev qT:=@Array.forIn_toList
abbrev qU:=@List.getElem?_eq_none_iff
abbrev qV:=@Nat.le_succ
abbrev qW:=@Nat.le_succ_of_le
abbrev qX:=@List.pairwise_map
abbrev qY:=@Nat.lt_trichotomy
abbrev qZ:=@Option.isSome_iff_exists
abbrev kh:=@PySem.F.args_tuple_add_2
abbrev kq:=@PySem.wpAny_typeOf
abbrev ky:=@Nat.add_assoc
abbrev kz:=@PySem.F.entry_tuple_add
abbrev kB:=@List.any_eq_true
abbrev kC:=@Nat.not_lt_of_lt
abbrev kD:=@List.flatMap_nil
abbrev kE:=@List.getLast_mem
abbrev kF:=@Nat.le_of_eq
abbrev kH:=@PySem.F.slot_tuple_add
abbrev kI:=@Nat.lt_trans
abbrev kJ:=@Nat.mod_lt
abbrev kL:=@Option.map_some
abbrev kM:=@List.length_nil
abbrev kO:=@PySem.F.args_zip_next_1
abbrev kP:=@Int.natCast_mul
abbrev kQ:=@PySem.F.slot_dict_get
abbrev kS:=@PySem.plainId_quiet
abbrev kT:=@List.take_append_drop
abbrev kU:=@List.getElem?_set_ne
abbrev kW:=@PySem.F.entry_zip_next
abbrev kX:=@List.forIn_nil
abbrev kY:=@List.mem_of_mem_drop
abbrev kZ:=@List.replicate_succ'
abbrev pe:=@List.take_zero
abbrev ph:=@List.dropLast_subset
abbrev pi:=@List.filterMap_cons
abbrev pj:=@PySem.codeAny_mono
abbrev px:=@PySem.W.callWith_K
abbrev pB:=@PySem.wpAny_execs_nil
abbrev pC:=@List.all_cons
abbrev pD:=@PySem.am_miss_of_fast
abbrev pE:=@PySem.codeAny_builtin
abbrev pF:=@Bool.not_true
abbrev pG:=@PySem.wpAny_notOrdered_dict
abbrev pH:=@Option.isNone_none
abbrev pI:=@List.getElem?_take
abbrev pJ:=@PySem.sizeLine_eq
abbrev pK:=@List.any_eq_false
abbrev pL:=@PySem.wpAny_updateSeq_pair
abbrev pM:=@Bool.eq_false_iff
abbrev pN:=@PySem.F.kt_typeCall_dict_1
abbrev pO:=@List.ext_getElem?
abbrev pP:=@Nat.le_of_lt_succ
abbrev pQ:=@PyProof.Rows.slot_tuple_getitem
abbrev pR:=@List.take_length
abbrev pS:=@List.mem_nil_iff
abbrev pT:=@List.getElem_mem
abbrev ZA:=@List.length_map
abbrev ZD:=@List.getElem?_eq_getElem
abbrev ZE:=@PySem.Heap.get?_push_of_some
abbrev ZF:=@List.getElem?_eq_some_iff
abbrev ZG:=@Nat.le_refl
abbrev ZH:=@List.getElem?_map
abbrev ZJ:=@List.mem_of_getElem?
abbrev ZK:=@List.map_append
abbrev ZL:=@List.length_append
abbrev ZM:=@List.mem_cons_of_mem
abbrev ZN:=@List.length_take
abbrev ZO:=@List.size_toArray
abbrev ZP:=@PySem.Heap.lt_size
abbrev ZQ:=@List.mem_singleton
abbrev ZT:=@Option.some.inj
abbrev ZU:=@List.mem_append_right
abbrev ZV:=@List.map_cons
abbrev ZW:=@List.mem_map
abbrev ZX:=@List.mem_append
abbrev ZY:=@PySem.Heap.get?_push_size
abbrev ZZ:=@Bool.and_eq_true
abbrev Za:=@List.mem_cons_self
abbrev Zb:=@Nat.le_trans
abbrev Zc:=@Nat.zero_le
abbrev Zd:=@List.mem_cons
abbrev Ze:=@Nat.ne_of_lt
abbrev Zf:=@List.length_cons
abbrev Zg:=@List.take_of_length_le
abbrev Zh:=@Nat.le_of_lt
abbrev Zi:=@Bool.false_ne_true
abbrev Zj:=@Option.map_eq_some_iff
abbrev Zk:=@List.mem_of_mem_take
abbrev Zl:=@PySem.wpAny_bind
abbrev Zm:=@PySem.wpAny_pure
abbrev Zn:=@PySem.wpAny_mono
abbrev Zo:=@PySem.wpAny_field
abbrev Zp:=@if_pos
abbrev Zq:=@if_neg
abbrev Zr:=@absurd
abbrev Zs:=@Ne.symm
abbrev Zt:=@of_decide_eq_true
abbrev Zu:=@PySem.boot_len
abbrev Zv:=@PySem.PassesOwn.never
abbrev Zw:=@Nat.not_lt_zero
abbrev Zx:=@Nat.lt_of_lt_of_le
abbrev Zy:=@decide_eq_false
abbrev Zz:=@PySem.F.plainAttrs_list
abbrev Z0:=@PySem.F.slot_list_append
abbrev Z1:=@PySem.F.type_list_append
local macro_rules|`(tactic|omega)=>`(tactic|lia)
namespace L2
open PySem PySem.Spec PyProof.Rows
def sl(n:Nat)(h:n<=sizeLine:=by decide):n<=sizeLine:=h
abbrev Key:=Sum Int Str
abbrev xv:=List Expr
abbrev xt:=List (List Int)
abbrev xr:=Str->Nat
abbrev xc:=Array Value
abbrev xb:=Option Addr
abbrev xa:=List Addr
abbrev pZ:=List Int
abbrev pY:=Option Int
abbrev pX:=List Str
abbrev pW:=List Value
abbrev pV:=Value->Shared->Prop
abbrev pU:=List (Addr×Obj)
def V1:Key->Value->Bool
 |.inl k,v=>Value.isInt k v
 |.inr x,v=>Value.isStrOf x v
def zf(w:World):Key->Int
 |.inl k=>hashInt k
 |.inr x=>hashStr w x
theorem VP:∀{k:Key}{v:Value},V1 k v=true->(∃i t,k=Sum.inl i/\v=Value.int i t)\/(∃x t,k=Sum.inr x/\v=Value.str x t)
 |.inl i,v,h=>by
  obtain⟨t,e⟩:=Value.isInt_shape (k:=i) (v:=v) h;exact .inl ⟨i,t,Y,e⟩
 |.inr x,v,h=>by
  obtain⟨t,e⟩:=Value.isStrOf_shape (x:=x) (v:=v) h;exact .inr ⟨x,t,Y,e⟩
def RJ(i:Int)(t:Tok):V1 (.inl i) (.int i t)=true:=by simp[V1,Value.isInt]
def Wu(x:Str)(t:Tok):V1 (.inr x) (.str x t)=true:=by simp[V1,Value.isStrOf]
def Ah(a b:Int):decide ((Sum.inl a:Key)=Sum.inl b)=(a==b):=by
 by_cases e:a=b
 .subst e;simp
 .have h:¬(Sum.inl a:Key)=Sum.inl b:=λq=>e<|Sum.inl.inj q
  rw[Zy h];exact(beq_eq_false_iff_ne.mpr e).symm
def Ad(a b:Str):decide ((Sum.inr a:Key)=Sum.inr b)=decide (a=b):=by
 by_cases e:a=b
 .subst e;simp
 .have h:¬(Sum.inr a:Key)=Sum.inr b:=λq=>e<|Sum.inr.inj q
  rw[Zy h,Zy e]
def Ag(a:Int)(b:Str):decide ((Sum.inl a:Key)=Sum.inr b)=false:=Zy λq=>nomatch q
def Ae(a:Str)(b:Int):decide ((Sum.inr a:Key)=Sum.inl b)=false:=Zy λq=>nomatch q
def VA(prog:Program)(w:World):PySem.KeyKind prog w Key where
 is:=V1
 hash:=zf w
 inj:=λv a b M G=>by
  rcases VP M with⟨i,t,rfl,rfl⟩|⟨x,t,rfl,rfl⟩
  .rcases VP G with⟨j,u,rfl,e⟩|⟨y,u,rfl,e⟩
   .injection e with Z _;rw[Z]
   .exact nomatch e
  .rcases VP G with⟨j,u,rfl,e⟩|⟨y,u,rfl,e⟩
   .exact nomatch e
   .injection e with Z _;rw[Z]
 byValue:=λk v h=>by
  rcases VP h with⟨i,t,rfl,rfl⟩|⟨x,t,rfl,rfl⟩ <;> rfl
 pyHash:=λJ h=>by
  rcases VP J with⟨i,t,rfl,rfl⟩|⟨x,t,rfl,rfl⟩
  .exact wpAny_pyHash_int h
  .exact wpAny_pyHash_str h
 eqBool:=λL J h=>by
  rcases VP L with⟨i,t,rfl,rfl⟩|⟨x,t,rfl,rfl⟩
  .rcases VP J with⟨j,u,rfl,rfl⟩|⟨y,u,rfl,rfl⟩
   .rw [Ah]at h;exact wpAny_eqBool_int h
   .rw [Ag]at h;exact SeqAt.EqAt.int_str i t y u _ _ _ _ h
  .rcases VP J with⟨j,u,rfl,rfl⟩|⟨y,u,rfl,rfl⟩
   .rw [Ae]at h;exact SeqAt.EqAt.str_int x t j u _ _ _ _ h
   .rw [Ad]at h;exact wpAny_eqBool_str h
 «strs»:=λk x t v h=>by
  rcases VP h with⟨i,u,rfl,e⟩|⟨y,u,rfl,e⟩
  .exact nomatch e
  .injection e with Z _
   subst Z;cases v <;> rfl
def NT(Z:Program)(w:World)(i:Int)(t:Tok):(VA Z w).is (.inl i) (.int i t)=true:=RJ i t
def NS(Z:Program)(w:World)(x:Str)(t:Tok):(VA Z w).is (.inr x) (.str x t)=true:=Wu x t
inductive V where
 |non|bl (b:Bool)|int (i:Int)|str (x:Str)|byt (b:Array UInt8)|flt (b:UInt64)|ref (a:Addr)|ty (n:String)
 deriving DecidableEq
abbrev xm:=Option V
abbrev xg:=List V
abbrev xf:=List (Key×V)
def RelV:V->Value->Prop
 |.non,u=>u=Value.none
 |.bl b,u=>u=Value.bool b
 |.int i,u=>∃t,u=Value.int i t
 |.str x,u=>∃t,u=Value.str x t
 |.byt b,u=>∃t,u=Value.bytes b t
 |.flt b,u=>∃t,u=Value.float b t
 |.ref a,u=>u=Value.ref a
 |.ty n,u=>u=Value.type n
abbrev Vals:List V->List Value->Prop:=Paired RelV
def Vals.length(r:Vals Z J):Z.length=J.length:=Paired.length r
theorem Vals.get:∀{Z:xg}{J:pW}{i:Nat}{x:V},Vals Z J->Z[i]?=some x->∃u,J[i]?=some u/\RelV x u
 |_,_,_,_,.nil,e=>by simp at e
 |_,_,0,_,.cons r _,e=>by simp at e;subst e;exact⟨_,Y,r⟩
 |_,_,i+1,x,.cons _ t,e=>by
  obtain⟨u,L,G⟩:=Vals.get (i:=i) (x:=x) t (by simpa using e);exact⟨u,by simpa using L,G⟩
theorem Vals.set(r:RelV x u):∀{Z:xg}{J:pW}(i:Nat),Vals Z J->Vals (Z.set i x) (J.set i u)
 |_,_,_,.nil=>.nil
 |_,_,0,.cons _ t=>.cons r t
 |_,_,i+1,.cons q t=>.cons q<|Vals.set r i t
theorem Vals.append:∀{J Z:xg}{L G:pW},Vals J L->Vals Z G->Vals (J++ Z) (L++ G)
 |_,_,_,_,.nil,s=>s
 |_,_,_,_,.cons r t,s=>.cons r<|Vals.append t s
theorem Vals.take:∀{Z:xg}{J:pW}(n:Nat),Vals Z J->Vals (Z.take n) (J.take n)
 |_,_,0,_=>.nil
 |_,_,_+1,.nil=>.nil
 |_,_,n+1,.cons r t=>.cons r<|Vals.take n t
theorem Vals.drop:∀{Z:xg}{J:pW}(n:Nat),Vals Z J->Vals (Z.drop n) (J.drop n)
 |_,_,0,r=>r
 |_,_,_+1,.nil=>.nil
 |_,_,n+1,.cons _ t=>Vals.drop n t
def Ud:Option V->Option Value->Prop
 |some v,some u=>RelV v u
 |none,none=>True
 |_,_=>False
def KV{κ:Type}:List (κ×V)->List (κ×Value)->Prop:=Paired λ(p:κ×V)(q:κ×Value)=>p.1=q.1/\RelV p.2 q.2
def kV:Key->V
 |.inl i=>.int i
 |.inr x=>.str x
inductive HO where
 /-- a list -/
 |lst (xs:List V)
 /-- a tuple (never changes) -/
 |tup (xs:List V)
 /-- a dict whose keys are ints and texts;one whose keys are tuples of ints and texts (the empty one is both) -/
 |dK (kvs:List (Key×V))|dT (kvs:List (List Key×V))
 /-- a set of ints:its members,its size -/
 |set (S:Int->Bool) (n:Nat)
 /-- an instance of the class at C,its dict at dx,its attributes -/
 |ins (C dx:Addr) (fs:List (Str×V))
 /-- the dict of the instance at x -/
 |own (x:Addr)
 /-- the dict of an exception -/
 |xd (fs:List (Str×V))
 /-- a bound method,f of x -/
 |met (f x:Addr)
 /-- a range object lo,lo+1,.. below hi -/
 |rng (lo hi:Int)
 /-- a thing that is known to the object (the script;a dict while a loop walks it):read,never written while it is so -/
 |frz (o:Obj) (u:HO)
 /-- a code object's table -/
 |tbl (ps:Array Value)
 /-- any other thing,by what is true of its one object (a def of one's own:SetO a S n:=HO.ext λh=>..) -/
 |ext (φ:Heap->Prop)
abbrev Hp:=Addr->Option HO
def upd(H:Hp)(a:Addr)(o:HO):Hp:=λb=>if b=a then some o else H b
def Yf:upd H a o a=some o:=by unfold upd;rw[Zp rfl]
def Yg(h:b≠a):upd H a o b=H b:=by unfold upd;rw[Zq h]
def Jl{H:Hp}(h:H a=some o)(Z:H b=some u)(d:o≠u):a≠b:=by
 intro e;subst e;rw[h]at Z;exact d<|ZT Z
def Yb{H:Hp}(h:H a=some o)(Z:H b=none):a≠b:=by
 intro e;subst e;rw[h]at Z;cases Z
def GL(h:Heap)(a:Addr)(items:xc):Prop:=∃o,h.get? a=some o/\o.dict=none/\o.cls=.type "tuple" /\∃n,o.data=.seq items n
def GL.is(x:GL h a items):IsTup h a items:=let⟨o,G,_,J,Z⟩:=x;⟨o,G,J,Z⟩
def GL.keeps(x:GL h a items)(J:∀b o,h.get? b=some o->G.get? b=some o):GL G a items:=let⟨o,Z,r⟩:=x;⟨o,J a o Z,r⟩
def GL.new(h:Heap)(items:xc):GL (h.push {cls:=.type "tuple",data:=.seq items}) h.objs.size items:=⟨_,ZY _ rfl,rfl,rfl,_,rfl⟩
section
variable(P:Program)(w:World)
def VQ(H:Hp)(h:Heap)(a:Addr):HO->Prop
 |.lst xs=>xs.length<=sizeLine/\∃(its:pW)(n:Nat),Vals xs its/\h.get? a=some {cls:=.type "list",data:=.seq its.toArray n}
 |.tup xs=>xs.length<=sizeLine/\∃its:pW,Vals xs its/\GL h a its.toArray
 |.dK kvs=>kvs.length<=sizeLine/\(a==sysModules)=false/\∃vs,KV kvs vs/\h.DictOf (VA P w) a vs
 |.dT kvs=>kvs.length<=sizeLine/\(a==sysModules)=false/\∃xs:List (List Key×Addr×Value),
   Paired (λ(p:List Key×V)(q:List Key×Addr×Value)=>p.1=q.1/\H q.2.1=some (.tup<|p.1.map kV)/\RelV p.2 q.2.2) kvs xs/\
   ∃o es ep,h.get? a=some o/\o.ExactDict/\o.data=.dict es ep/\es.toList=xs.map (entryOfKey<|tupleKind<|VA P w)/\(xs.map (·.1)).Nodup
 |.set S n=>h.SetOf (intKind P w) a S n
 |.ins C dx fs=>H dx=some (.own a)/\fs.length<=1000/\dx≠a/\h.get? a=some (W.instObj C dx)/\
   ∃mA,h.Ns1 dx mA/\(∀f,Ud (fs.lookup f)<|mA f)/\PySem.Within mA (fs.map (·.1))
 |.own _=>∃o,h.get? a=some o
 |.xd fs=>∃mA,h.Ns1 a mA/\∀f,Ud (fs.lookup f)<|mA f
 |.rng lo hi=>∃t u v,h.get? a=some {cls:=.type "range",data:=.fields #[.int lo t,.int hi u,.int 1 v]}
 |.frz o u=>h.get? a=some o/\VQ H h a u
 |.tbl ps=>h.get? a=some {cls:=.none,data:=.fields ps}
 |.met f x=>h.get? a=some (W.methodObj (.ref f)<|.ref x)
 |.ext φ=>φ h/\(∃o,h.get? a=some o)/\∀h1 h2:Heap,φ h1->(∀o,h1.get? a=some o->h2.get? a=some o)->φ h2
def HOk(H:Hp)(h:Heap):Prop:=∀a o,H a=some o->VQ P w H h a o
end
section
def VQ.lt(x:VQ P w H h a o):a<h.objs.size:=by
 cases o with
 |lst J=>obtain⟨_,_,_,_,e⟩:=x;exact ZP e
 |tup J=>obtain⟨_,_,_,p⟩:=x;exact p.is.lt
 |dK Z=>obtain⟨_,_,_,_,o,_,_,e,_⟩:=x;exact ZP e
 |dT Z=>obtain⟨_,_,_,_,o,_,_,e,_⟩:=x;exact ZP e
 |set S n=>obtain⟨o,_,_,_,e,_⟩:=x;exact ZP e
 |ins C R G=>obtain⟨_,_,_,e,_⟩:=x;exact ZP e
 |own y=>obtain⟨_,e⟩:=x;exact ZP e
 |xd G=>obtain⟨_,⟨_,_,_,e,_⟩,_⟩:=x;exact ZP e
 |rng N O=>obtain⟨_,_,_,e⟩:=x;exact ZP e
 |frz M u=>obtain⟨e,_⟩:=x;exact ZP e
 |tbl L=>exact ZP (show h.get? a=some _ from x)
 |met f y=>exact ZP (show h.get? a=some _ from x)
 |ext φ=>obtain⟨_,⟨_,e⟩,_⟩:=x;exact ZP e
theorem Paired.mapP:∀{J:List α}{Z:List β},Paired F J Z->(∀a b,F a b->G a b)->Paired G J Z
 |_,_,.nil,_=>.nil
 |_,_,.cons r t,f=>.cons (f _ _ r)<|Paired.mapP t f
def VQ.stay(x:VQ P w H h a o)(k:∀b u,(b=a\/H b=some (.own a))->h.get? b=some u->T.get? b=some u)(I:∀b,H b=some (.own a)->D b=some (.own a))(A:∀b M,H b=some (.tup M)->D b=some (.tup M)):VQ P w D T a o:=by
 induction o with
 |lst M=>obtain⟨z,L,n,r,e⟩:=x;exact⟨z,L,n,r,k _ _ (.inl Y) e⟩
 |tup M=>obtain⟨z,L,r,Z,e,c⟩:=x;exact⟨z,L,r,Z,k _ _ (.inl Y) e,c⟩
 |dK R=>obtain⟨z,y,E,r,Z,J,G,e,c⟩:=x;exact⟨z,y,E,r,Z,J,G,k _ _ (.inl Y) e,c⟩
 |dT R=>
  obtain⟨z,y,M,r,Z,J,G,e,c⟩:=x;exact⟨z,y,M,Paired.mapP r λp q z=>⟨z.1,A _ _ z.2.1,z.2.2⟩,Z,J,G,k _ _ (.inl Y) e,c⟩
 |set S n=>obtain⟨Z,J,G,t,e,c⟩:=x;exact⟨Z,J,G,t,k _ _ (.inl Y) e,c⟩
 |ins C m U=>
  obtain⟨d,z,F,e,O,⟨N,J,G,X,c⟩,r⟩:=x;exact⟨I _ d,z,F,k _ _ (.inl Y) e,O,⟨N,J,G,k _ _ (.inr d) X,c⟩,r⟩
 |own y=>obtain⟨Z,e⟩:=x;exact⟨Z,k _ _ (.inl Y) e⟩
 |xd U=>obtain⟨O,⟨N,J,G,e,c⟩,r⟩:=x;exact⟨O,⟨N,J,G,k _ _ (.inl Y) e,c⟩,r⟩
 |rng Q j=>obtain⟨t,u,v,e⟩:=x;exact⟨t,u,v,k _ _ (.inl Y) e⟩
 |frz Z u ih=>obtain⟨e,q⟩:=x;exact⟨k _ _ (.inl Y) e,ih q⟩
 |tbl B=>
  have e:h.get? a=some {cls:=.none,data:=.fields B}:=x;show T.get? a=some {cls:=.none,data:=.fields B};exact k a _ (.inl Y) e
 |met f y=>
  have e:h.get? a=some (W.methodObj (.ref f)<|.ref y):=x;show T.get? a=some (W.methodObj (.ref f)<|.ref y);exact k a _ (.inl Y) e
 |ext φ=>obtain⟨p,⟨o,e⟩,st⟩:=x;exact⟨st _ _ p λo q=>k _ _ (.inl Y) q,⟨o,k _ _ (.inl Y) e⟩,st⟩
def HOk.lt(x:HOk P w H h)(e:H a=some o):a<h.objs.size:=(x a o e).lt
def HOk.fresh(x:HOk P w H h)(e:h.objs.size<=a):H a=none:=by
 cases q:H a with
 |none=>rfl
 |some u=>exact Zr (Zx (x.lt q) e)<|jt _
def HOk.kept(x:HOk P w H h)(k:∀b u,h.get? b=some u->Z.get? b=some u):HOk P w H Z:=λa o e=>
 (x a o e).stay (λb u _ q=>k b u q) (λ_ q=>q) λ_ _ q=>q
def HOk.laid(x:HOk P w H h)(k:∀b u,h.get? b=some u->h'.get? b=some u)(J:h.objs.size<=a)(new:VQ P w (upd H a o) h' a o):HOk P w (upd H a o) h':=λb u e=>by
 have Z:=x.fresh J
 by_cases hb:b=a
 .subst hb;rw[Yf]at e;cases e;exact new
 .rw [Yg hb]at e
  exact(x b u e).stay (λc v _ q=>k c v q) (λc q=>by rw[Yg (Yb q Z)];exact q) λc G q=>by rw[Yg (Yb q Z)];exact q
end
def Rd(H:Hp)(a:Addr)(u:HO):Prop:=H a=some u \/ ∃o,H a=some (.frz o u)
def Rd.ok(r:Rd H a u)(x:HOk P w H h):VQ P w H h a u:=by
 rcases r with r|⟨o,r⟩
 .exact x a u r
 .obtain ⟨_,q⟩:=x a _ r
  exact q
def Mut:Option HO->Prop
 |some (.lst _)=>True
 |some (.dK _)=>True
 |some (.dT _)=>True
 |some (.set _ _)=>True
 |some (.ins _ _ _)=>True
 |some (.ext _)=>True
 |_=>False
section
def HOk.write(T:HOk P w H h)(L:Mut (H x))(R:e=x\/H e=some (.own x))(k:∀b u,b≠e->h.get? b=some u->O.get? b=some u)(N:∃u,O.get? e=some u)(new:VQ P w (upd H x o') O x o'):HOk P w (upd H x o') O:=λb u q=>by
 have Z:∀c y,H c=some (.own y)->c≠x:=λc y r z=>by subst z;rw[r]at L;exact L
 have J:∀c G,H c=some (.tup G)->c≠x:=λc G r z=>by subst z;rw[r]at L;exact L
 by_cases hb:b=x
 .subst hb;rw[Yf]at q;cases q;exact new
 .rw [Yg hb]at q
  by_cases hbe:b=e
  .have q':H b=some (.own x):=by
    rcases R with z|z
    .exact Zr (hbe.trans z) hb
    .rw [hbe];exact z
   rw[q]at q';cases q';obtain⟨v,B⟩:=N;exact⟨v,by rw[hbe];exact B⟩
  .refine (T b u q).stay (λc v M r=>k c v ?_ r) (λc r=>by rw[Yg (Z c b r)];exact r) λc G r=>by rw[Yg (J c G r)];exact r
   rcases M with rfl|M
   .exact hbe
   .rintro rfl
    rcases R with z|z
    .exact Z c b M z
    .rw [M]at z;cases z;exact hb Y
end
structure Un(fs ex:List Addr)(H H':Hp)(h h':Heap):Prop where
 keep:∀b o,h.get? b=some o->H b=none->b∉fs->b∉ex->h'.get? b=some o
 slot:∀b o,h.get? b=some o->H b=none->b∈fs->b∉ex->∃sl,h'.get? b=some {o with slots:=sl}
 free:∀b o,h.get? b=some o->H b=none->b∉ex->H' b=none
 there:∀b o,h.get? b=some o->b∉ex->∃o',h'.get? b=some o'
 tups:∀b xs,H b=some (.tup xs)->H' b=some (.tup xs)
 frzs:∀b o u,H b=some (.frz o u)->H' b=some (.frz o u)
 tbls:∀b ps,H b=some (.tbl ps)->∃more,H' b=some (.tbl (ps++ more))
section
variable{fs fs' ex ex':xa}{H H1 H2:Hp}{h h1 h2 h':Heap}{a x e:Addr}{o:HO}
def Un.any(u:Un fs ex H H1 h h1)(q:h.get? b=some ob)(n:H b=none)(J:b∉ex):∃sl,h1.get? b=some {ob with slots:=sl}:=by
 by_cases hb:b∈fs
 .exact u.slot b ob q n hb J
 .exact ⟨ob.slots,u.keep b ob q n hb J⟩
def Un.kept(k:∀b u,h.get? b=some u->h'.get? b=some u):Un fs ex H H h h':=
 ⟨λb Z q _ _ _=>k b Z q,λb Z q _ _ _=>⟨Z.slots,k b Z q⟩,λ_ _ _ n _=>n,λb Z q _=>⟨Z,k b Z q⟩,λ_ _ q=>q,λ_ _ _ q=>q,λ_ J q=>⟨#[],by rw[q];simp⟩⟩
def Un.refl:Un fs ex H H h h:=Un.kept λ_ _ q=>q
def Un.laid(k:∀b u,h.get? b=some u->h'.get? b=some u)(G:h.objs.size<=a)(Z:H a=none):Un fs ex H (upd H a o) h h' where
 keep:=λb u q _ _ _=>k b u q
 slot:=λb u q _ _ _=>⟨u.slots,k b u q⟩
 free:=λb u q n _=>by rw[Yg (Ze<|Zx (ZP q) G)];exact n
 there:=λb u q _=>⟨u,k b u q⟩
 tups:=λb J q=>by rw[Yg (Yb q Z)];exact q
 frzs:=λb u J q=>by rw[Yg (Yb q Z)];exact q
 tbls:=λb L q=>⟨#[],by rw[Yg (Yb q Z),q];simp⟩
def Un.write(Z:Mut (H x))(R:e=x\/H e=some (.own x))(k:∀b u,b≠e->h.get? b=some u->h'.get? b=some u)(G:∃u,h'.get? e=some u):Un fs ex H (upd H x o) h h':=by
 have L:∀b,H b=none->b≠x:=λb n z=>by subst z;rw[n]at Z;exact Z
 have M:∀b,H b=none->b≠e:=λb n z=>by
  subst z;rcases R with r|r
  .exact L b n r
  .rw [n]at r;cases r
 have J:∀b u,H b=some u->¬Mut (some u)->b≠x:=λb u q O z=>by subst z;rw[q]at Z;exact O Z
 refine⟨λb u q n _ _=>k b u (M b n) q,λb u q n _ _=>⟨u.slots,k b u (M b n) q⟩,λb u q n _=>by rw[Yg (L b n)];exact n,λb u q _=>?_,
  λb N q=>by rw[Yg (J b _ q λz=>z)];exact q,λb u N q=>by rw[Yg (J b _ q λz=>z)];exact q,λb T q=>⟨#[],by rw[Yg (J b _ q λz=>z),q];simp⟩⟩
 by_cases hbe:b=e
 .subst hbe;exact G
 .exact ⟨u,k b u hbe q⟩
end
def trk(h:Heap)(H:Hp):xa:=(List.range h.objs.size).filter λa=>(H a).isSome
def Mf(h:Heap)(H:Hp):Heap:=W.hideAll h<|trk h H
def FX(h:Heap)(H:Hp):(Mf h H).objs.size=h.objs.size:=W.hideAll_size _ _
def LV(e:h.get? b=some o)(n:H b=none):(Mf h H).get? b=some o:=
 W.hideAll_get _ e λZ=>by
  have q:(H b).isSome=true:=(List.mem_filter.mp Z).2;rw[n]at q;simp at q
def Pt(e:(Mf h H).get? b=some o):h.get? b=some o/\H b=none:=by
 have Z:h.get? b=some o:=W.of_hideAll (trk h H) e;exists Z
 cases q:H b with
 |none=>rfl
 |some x=>
  have J:b∈trk h H:=List.mem_filter.mpr ⟨jH.mpr<|ZP Z,by simp[q]⟩;have z:(Mf h H).get? b=none:=W.hideAll_none (trk h H) J;rw[z]at e;cases e
structure Mod(K:W.Frag)(mg:Str->Option Value)(base:Heap):Prop where
 kin:K.In base
 glob:base.Ns mainGlobals mg
 blt:∃mb,base.Ns builtinsNs mb/\∀x:Str,x≠"__name__" ->mb x=bootBuiltins x
 nolimit:base.NoLimit
structure Cx where
 prog:Program
 w:World
 K:W.Frag
 mg:Str->Option Value
 base:Heap
 A:Around
 N:List Str
 s₀:Shared
 H₀:Hp
 env:Env
 outer:List Env
 stack:List Env
 ex:List Addr
 fn:Str->Bool
 calm:Bool
 pn:List (Addr×Obj)
 xe:Value->Shared->Prop
def frs(l:List Env):xa:=l.filterMap (·.frame)
abbrev Cx.fs(X:Cx):xa:=frs X.outer
def Vis(sc:Scope)(x:Str):Prop:=sc.names.lookup x=some .local\/sc.names.lookup x=some .cell\/sc.names.lookup x=some .free
def Loc(sc:Scope)(x:Str):Prop:=sc.names.lookup x=some .local\/sc.names.lookup x=some .cell
def Look(env:Env)(h:Heap)(m:Str->Option Value)(x:Str)(u:Value):Prop:=
 (env.kindOf x=some .local/\m x=some u)\/((env.kindOf x=some .cell\/env.kindOf x=some .free)/\∃c,env.cells.lookup x=some c/\h.IsCell c (some u))
structure Cx.Ok(X:Cx):Prop where
 mod:Mod X.K X.mg X.base
 kind:X.env.scope.kind=.function
 glob:X.env.globals=mainGlobals
 blt:X.env.builtins=builtinsNs
 above:X.s₀.heap.objs.size<=X.env.locals
 inj:∀x y c,X.env.cells.lookup x=some c->X.env.cells.lookup y=some c->x=y
 has:∀x,(X.env.kindOf x=some .cell\/X.env.kindOf x=some .free)->∃c,X.env.cells.lookup x=some c
 cab:∀x c,X.fn x=true->X.env.cells.lookup x=some c->X.s₀.heap.objs.size<=c
 hd:X.calm=true->X.A.handled=none
 frames:X.A.frames=some X.stack
 stk:X.stack=X.outer\/(X.stack=X.env::X.outer/\X.env.frame=some X.env.locals)
 exf:∀b∈X.ex,b≠X.env.locals/\∀x c,X.env.cells.lookup x=some c->c≠b
 bs:∀b o,X.base.get? b=some o->X.s₀.heap.get? b=some o/\X.H₀ b=none
 bsz:X.base.objs.size<=X.s₀.heap.objs.size
 noex:∀b o,X.base.get? b=some o->b∉X.ex
 exfs:∀b∈X.ex,b∉X.fs
 funs:X.s₀.heap.FunFrames X.base X.outer
 frf:∀b∈X.fs,X.H₀ b=none
structure Inv(X:Cx)(pins:List (Addr×Obj))(U:List (Option V))(H:Hp)(s:Shared):Prop where
 ok:X.Ok
 os:s.os=X.s₀.os
 bare:AllBare s.gens
 base:Un X.fs X.ex X.H₀ H X.s₀.heap s.heap
 loc:∃m,s.heap.Ns X.env.locals m/\∀(i:Nat)(x:Str)(v:V),X.N[i]?=some x->U[i]?=some (some v)->Vis X.env.scope x->∃u,RelV v u/\Look X.env s.heap m x u
 cell:∀x c,X.env.cells.lookup x=some c->∃v,s.heap.IsCell c v
 free:H X.env.locals=none
 freeC:∀x c,X.env.cells.lookup x=some c->H c=none
 pin:∀p∈X.pn++ pins,s.heap.get? p.1=some p.2/\H p.1=none/\p.1≠X.env.locals/\p.1∉X.fs/\∀v,p.2.data≠.cell v
 hok:HOk X.prog X.w H s.heap
 len:U.length=X.N.length
section
variable{X:Cx}
def Cx.Ok.nofr(Z:X.Ok)(e:X.base.get? b=some o):b∉X.fs:=λJ=>by
 have:=(Z.funs.mem J).1;rw[e]at this;cases this
def Inv.bs(I:Inv X Z U H s):∀b o,X.base.get? b=some o->s.heap.get? b=some o/\H b=none:=λb o e=>
 ⟨I.base.keep b o (I.ok.bs b o e).1 (I.ok.bs b o e).2 (I.ok.nofr e)<|I.ok.noex b o e,I.base.free b o (I.ok.bs b o e).1 (I.ok.bs b o e).2<|I.ok.noex b o e⟩
def Inv.bk(I:Inv X Z U H s):∀b o,X.base.get? b=some o->s.heap.get? b=some o:=λb o e=>(I.bs b o e).1
def Inv.mod(I:Inv X Z U H s):Mod X.K X.mg X.base:=I.ok.mod
def Inv.kIn(I:Inv X Z U H s):X.K.In s.heap:=I.ok.mod.kin.keeps I.bk
def Inv.lt(I:Inv X Z U H s):X.env.locals<s.heap.objs.size:=let⟨_,J,_⟩:=I.loc;J.lt
def Inv.sz(I:Inv X Z U H s):X.s₀.heap.objs.size<=s.heap.objs.size:=Zb I.ok.above<|Zh I.lt
def Inv.nofs(I:Inv X Z U H s)(h:s.heap.objs.size<=a):a∉X.fs:=λG=>by
 obtain⟨_,o,J,_⟩:=I.ok.funs.mem G;exact Zr (Zx (ZP J)<|Zb I.sz h)<|jt _
def Inv.cne(I:Inv X G U H s):∀x c,X.env.cells.lookup x=some c->c≠X.env.locals:=λx c e z=>by
 obtain⟨v,o,L,hd⟩:=I.cell x c e;obtain⟨m,⟨M,N,O,Z,J,_⟩,_⟩:=I.loc;rw[z,Z]at L;cases L;rw[J]at hd;cases hd
def Inv.funs(I:Inv X N U H s):s.heap.FunFrames X.base X.outer:=by
 have M:∀(l:List Env),(∀b∈frs l,b∈X.fs)->X.s₀.heap.FunFrames X.base l->s.heap.FunFrames X.base l:=by
  intro l
  induction l with
  |nil=>intro _ _;trivial
  |cons F r ih=>
   intro O D;obtain⟨E,⟨L,o,Z,B,T,hd⟩,R⟩:=D;have G:L∈X.fs:=O L (by unfold frs;rw[pi,Z];exact Za);obtain⟨sl,e⟩:=I.base.slot L o T (I.ok.frf L G) G λz=>I.ok.exfs L z G;exact⟨E,⟨L,_,Z,B,e,hd⟩,ih (λb J=>O b (by unfold frs;rw[pi,Z];exact ZM _ J)) R⟩
 exact M X.outer (λ_ J=>J) I.ok.funs
def Inv.stack(I:Inv X Z U H s):s.heap.FunFrames X.base X.stack:=by
 rcases I.ok.stk with e|⟨e,G⟩
 .rw [e];exact I.funs
 .rw [e]
  obtain⟨m,J,_⟩:=I.loc;refine .cons (by rw[I.ok.kind];decide) G J ?_ I.funs;exact Heap.get?_none_of_le<|Zb I.ok.bsz I.ok.above
def Inv.stkSub(I:Inv X J U H s):∀b∈frs X.stack,b∈X.env.locals::X.fs:=λb Z=>by
 rcases I.ok.stk with e|⟨e,G⟩
 .rw [e]at Z;exact ZM _ Z
 .rw [e]at Z
  unfold frs at Z;rw[pi,G]at Z;exact Z
def Inv.stkFree(I:Inv X J U H s):∀b∈frs X.stack,H b=none:=λb Z=>by
 rcases Zd.mp (I.stkSub b Z)with e|Z
 .rw [e];exact I.free
 .obtain ⟨_,o,ho,_⟩:=I.ok.funs.mem Z
  exact I.base.free b o ho (I.ok.frf b Z) λz=>I.ok.exfs b z Z
def Inv.step{ch:xa}(I:Inv X O U H s)(G:∀b∈ch,(b∈X.ex\/X.s₀.heap.objs.size<=b)/\b≠X.env.locals/\(∀x c,X.env.cells.lookup x=some c->c≠b)/\∀p∈X.pn++ O,p.1≠b)(keep:∀b o,b≠X.env.locals->b∉X.fs->b∉ch->s.heap.get? b=some o->H b=none->h'.get? b=some o)(slot:∀b o,b≠X.env.locals->b∈X.fs->b∉ch->s.heap.get? b=some o->H b=none->∃sl,h'.get? b=some {o with slots:=sl})(free:∀b o,b∉ch->s.heap.get? b=some o->H b=none->H' b=none)(there:∀b o,b∉ch->s.heap.get? b=some o->∃E,h'.get? b=some E)(B:∀b N,H b=some (.tup N)->H' b=some (.tup N))(A:∀b o u,H b=some (.frz o u)->H' b=some (.frz o u))(D:∀b C,H b=some (.tbl C)->∃more,H' b=some (.tbl<|C++ more))(t:∀m,s.heap.Ns X.env.locals m->h'.Ns X.env.locals m)(j:HOk X.prog X.w H' h')(f:AllBare g'):
  Inv X O U H' {s with heap:=h',gens:=g',drawn:=d',toks:=t'}:=by
 have F:∀b o,X.s₀.heap.get? b=some o->b≠X.env.locals:=λb o e=>Ze<|Zx (ZP e) I.ok.above
 have L:∀b o,X.s₀.heap.get? b=some o->b∉X.ex->b∉ch:=λb o e Z R=>by
  rcases(G b R).1 with z|z
  .exact Z z
  .exact Zr (Zx (ZP e) z) (jt _)
 have cellK:∀x c,X.env.cells.lookup x=some c->∀v,s.heap.IsCell c v->h'.IsCell c v:=λx c e v ⟨o,T,hd⟩=>by
  have J:c∉ch:=λz=>(G c z).2.2.1 x c e rfl
  by_cases hc:c∈X.fs
  .obtain ⟨sl,q⟩:=slot c o (I.cne x c e) hc J T<|I.freeC x c e
   exact⟨_,q,hd⟩
  .exact ⟨o,keep c o (I.cne x c e) hc J T<|I.freeC x c e,hd⟩
 refine⟨I.ok,I.os,f,⟨λb o e n R Z=>?_,λb o e n R Z=>?_,λb o e n Z=>?_,λb o e Z=>?_,λb N e=>B b N<|I.base.tups b N e,λb o N e=>A b o N<|I.base.frzs b o N e,λb C e=>?_⟩,?_,λx c e=>?_,?_,λx c e=>?_,λp y=>?_,j,I.len⟩
 .exact keep b o (F b o e) R (L b o e Z) (I.base.keep b o e n R Z) (I.base.free b o e n Z)
 .obtain ⟨sl,M⟩:=I.base.slot b o e n R Z
  obtain⟨Q,S⟩:=slot b _ (F b o e) R (L b o e Z) M<|I.base.free b o e n Z;exact⟨Q,S⟩
 .obtain ⟨E,M⟩:=I.base.there b o e Z
  exact free b E (L b o e Z) M<|I.base.free b o e n Z
 .obtain ⟨E,M⟩:=I.base.there b o e Z
  exact there b E (L b o e Z) M
 .obtain ⟨m1,M⟩:=I.base.tbls b C e
  obtain⟨g,S⟩:=D b _ M;exact⟨m1++ g,by rw[S,Array.append_assoc]⟩
 .obtain ⟨m,hn,hl⟩:=I.loc
  refine⟨m,t m hn,λi x v M S w=>?_⟩;obtain⟨u,r,l⟩:=hl i x v M S w;exists u,r;rcases l with l|⟨k,c,e,z⟩
  .exact .inl l
  .exact .inr ⟨k,c,e,cellK x c e _ z⟩
 .obtain ⟨v,z⟩:=I.cell x c e
  exact⟨v,cellK x c e v z⟩
 .obtain ⟨m,⟨o,_,_,T,_⟩,_⟩:=I.loc
  exact free _ o (λz=>(G _ z).2.1 Y) T I.free
 .obtain ⟨v,o,T,hd⟩:=I.cell x c e
  exact free c o (λz=>(G c z).2.2.1 x c e Y) T<|I.freeC x c e
 .obtain ⟨e,n,ne,nf,d⟩:=I.pin p y
  have J:p.1∉ch:=λz=>(G p.1 z).2.2.2 p y rfl;exact⟨keep p.1 p.2 ne nf J e n,free p.1 p.2 J e n,ne,nf,d⟩
def Inv.un(I:Inv X Z U H s)(u:Un X.fs [] H H' s.heap h')(G:HOk X.prog X.w H' h'):Inv X Z U H' {s with heap:=h',toks:=t'}:=by
 obtain⟨m,⟨o,F,A,O,r⟩,_⟩:=id I.loc;obtain⟨sl,B⟩:=u.any O I.free<|by simp
 exact I.step (g':=s.gens) (d':=s.drawn) (ch:=[]) (λ_ z=>nomatch z) (λb o _ L _ e n=>u.keep b o e n L<|by simp) (λb o _ L _ e n=>u.slot b o e n L<|by simp) (λb o _ e n=>u.free b o e n<|by simp) (λb o _ e=>u.there b o e<|by simp) u.tups u.frzs u.tbls (λE T=>by
  obtain⟨D,M,N,J,R⟩:=T;rw[O]at J;cases J;exact⟨_,M,N,B,R⟩) G I.bare
def Inv.call(I:Inv X Z U H s)(u:Un (frs X.stack) ch H B s.heap h')(M:HOk X.prog X.w B h')(F:AllBare g')(L:∀b∈ch,(b∈X.ex\/X.s₀.heap.objs.size<=b)/\b≠X.env.locals/\(∀x c,X.env.cells.lookup x=some c->c≠b)/\∀p∈X.pn++ Z,p.1≠b):
  Inv X Z U B {s with heap:=h',gens:=g',drawn:=d',toks:=t'}:=by
 obtain⟨m,⟨o,P,Q,T,r⟩,_⟩:=id I.loc;obtain⟨sl,N⟩:=u.any T I.free λz=>(L _ z).2.1 rfl
 exact I.step (ch:=ch) L (λb o N A J e n=>u.keep b o e n (λz=>(Zd.mp<|I.stkSub b z).elim N A) J) (λb o _ _ J e n=>u.any e n J) (λb o J e n=>u.free b o e n J) (λb o J e=>u.there b o e J) u.tups u.frzs u.tbls (λC E=>by
  obtain⟨S,O,R,G,D⟩:=E;rw[T]at G;cases G;exact⟨_,O,R,N,D⟩) M F
def Inv.turned(I:Inv X Z U H s)(k:∀b o,b≠it->s.heap.get? b=some o->D.get? b=some o)(M:H it=none)(L:it≠X.env.locals)(B:it∈X.ex\/X.s₀.heap.objs.size<=it)(T:∀x c,X.env.cells.lookup x=some c->c≠it)(R:∀p∈X.pn++ Z,p.1≠it):Inv X Z U H {s with heap:=D,toks:=t'}:=by
 have G:∀b u,H b=some u->b≠it:=λb u e z=>by rw[z,M]at e;cases e
 refine I.step (g':=s.gens) (d':=s.drawn) (ch:=[it]) (λb O=>?_) (λb o _ _ J e _=>k b o (λz=>J<|by simp[z]) e) (λb o _ _ J e _=>⟨o.slots,k b o (λz=>J<|by simp[z]) e⟩) (λ_ _ _ _ n=>n)
  (λb o J e=>⟨o,k b o (λz=>J<|by simp[z]) e⟩) (λ_ _ e=>e) (λ_ _ _ e=>e) (λb E e=>⟨#[],by rw[e];simp⟩) (λm N=>?_) (λb u e=>?_) I.bare
 .have e:b=it:=by simpa using O
  subst e;exact⟨B,L,T,R⟩
 .obtain ⟨o,es,ep,ho,r⟩:=N
  exact⟨o,es,ep,k _ o (Zs L) ho,r⟩
 .refine (I.hok b u e).stay (λc v J q=>k c v ?_ q) (λ_ q=>q) λ_ _ q=>q
  rcases J with z|z
  .rw [z];exact G b u e
  .exact G c _ z
def Inv.tok(I:Inv X Z U H s)(t:Nat):Inv X Z U H {s with toks:=t}:=I.un (h':=s.heap) (t':=t) Un.refl I.hok
def Inv.kept(I:Inv X Z U H s)(k:∀b u,s.heap.get? b=some u->J.get? b=some u):Inv X Z U H {s with heap:=J,toks:=t'}:=I.un (Un.kept k)<|I.hok.kept k
def Inv.laid(I:Inv X Z U H s)(k:∀b u,s.heap.get? b=some u->h'.get? b=some u)(J:s.heap.objs.size<=a)(new:VQ X.prog X.w (upd H a o) h' a o):
  Inv X Z U (upd H a o) {s with heap:=h',toks:=t'}:=I.un (Un.laid k J<|I.hok.fresh J)<|I.hok.laid k J new
def Inv.write(I:Inv X Z U H s)(L:Mut (H x))(M:e=x\/H e=some (.own x))(k:∀b u,b≠e->s.heap.get? b=some u->G.get? b=some u)(J:∃u,G.get? e=some u)(new:VQ X.prog X.w (upd H x o) G x o):Inv X Z U (upd H x o) {s with heap:=G,toks:=N}:=I.un (Un.write L M k J)<|I.hok.write L M k J new
def Inv.weak(I:Inv X Z U H s)(L:U'.length=U.length)(w:∀(i:Nat) v,U'[i]?=some (some v)->U[i]?=some (some v)):Inv X Z U' H s:=
 ⟨I.ok,I.os,I.bare,I.base,let⟨m,G,J⟩:=I.loc;⟨m,G,λi x v O N M=>J i x v O (w i v N) M⟩,I.cell,I.free,I.freeC,I.pin,I.hok,L.trans I.len⟩
def Inv.pins_of(I:Inv X Z U H s)(h:∀p∈pins',s.heap.get? p.1=some p.2/\H p.1=none/\p.1≠X.env.locals/\p.1∉X.fs/\∀v,p.2.data≠.cell v):Inv X pins' U H s:=
 ⟨I.ok,I.os,I.bare,I.base,I.loc,I.cell,I.free,I.freeC,λp J=>(ZX.mp J).elim (λz=>I.pin p<|jh _ z)<|h p,I.hok,I.len⟩
def NQ{N:pX}(Z:N.Nodup){i j:Nat}(a:N[i]?=some x)(b:N[j]?=some x):i=j:=by
 obtain⟨M,G⟩:=ZF.mp a;obtain⟨L,J⟩:=ZF.mp b;exact(List.getElem_inj Z).mp<|G.trans J.symm
def RB(I:Inv X S U H s)(hN:X.N.Nodup)(t:X.N[i]?=some x)(L:Loc X.env.scope x)(r:RelV v u)(h:∀s',Inv X S (U.set i<|some v) H s'->(∃a,Heap.SameBut a s.heap s'.heap/\(a=X.env.locals\/X.env.cells.lookup x=some a))->Q () s')(hf:X.fn x=true\/X.env.scope.names.lookup x=some .local:=by first|exact .inl Y|exact .inr Y|assumption):wpAny M A (storeName X.env x u) Q E s:=by
 obtain⟨m,hn,hl⟩:=id I.loc;have g:(X.env.scope.kind==.class || (X.env.scope.kind==.module && X.env.locals !=X.env.globals))=false:=by rw[I.ok.kind];rfl
 have T:i<U.length:=by rw[I.len];exact(ZF.mp t).1
 have D:=I.cne
 have tracked:∀{a:Addr}{F:Heap},(∃o,s.heap.get? a=some o/\H a=none)->Heap.SameBut a s.heap F->HOk X.prog X.w H F:=λ{a F} ha Z b ob e=>by
  obtain⟨_,_,N⟩:=ha;refine(I.hok b ob e).stay (λc w G q=>(Z.2 c ?_).trans q) (λ_ q=>q) λ_ _ q=>q;rintro rfl;rcases G with rfl|G
  .rw [N]at e;cases e
  .rw [N]at G;cases G
 rcases L with R|R
 .refine wpAny_storeName_local R hn (λF G1 Z=>?_) g
  obtain⟨oL,_,_,J2,_⟩:=id hn;refine h _ ⟨I.ok,I.os,I.bare,⟨λb o e n B L=>?_,λb o e n B L=>?_,I.base.free,λb o e L=>?_,I.base.tups,I.base.frzs,I.base.tbls⟩,⟨_,G1,λj y v' J O e3=>?_⟩,λy c e=>?_,I.free,I.freeC,λp hp=>?_,tracked ⟨oL,J2,I.free⟩ Z,by simpa using I.len⟩ ⟨_,Z,.inl Y⟩
  .exact (Z.2 b<|Ze<|Zx (ZP e) I.ok.above).trans (I.base.keep b o e n B L)
  .obtain ⟨sl,J⟩:=I.base.slot b o e n B L
   exact⟨sl,(Z.2 b<|Ze<|Zx (ZP e) I.ok.above).trans J⟩
  .obtain ⟨o',J⟩:=I.base.there b o e L
   exact⟨o',(Z.2 b<|Ze<|Zx (ZP e) I.ok.above).trans J⟩
  .by_cases hj:j=i
   .subst hj
    rw[t]at J;cases J;rw[List.getElem?_set_self T]at O;cases O;exact⟨u,r,.inl ⟨R,by simp⟩⟩
   .rw [kU (Zs hj)]at O
    obtain⟨u',r',q⟩:=hl j y v' J O e3;exists u',r';rcases q with⟨k,e⟩|⟨k,c,e,z⟩
    .refine .inl ⟨k,?_⟩
     have:y≠x:=λe=>hj<|NQ hN J<|e ▸ t;simp[this,e]
    .exact .inr ⟨k,c,e,z.sameBut Z<|D y c e⟩
  .obtain ⟨w,z⟩:=I.cell y c e
   exact⟨w,z.sameBut Z<|D y c e⟩
  .obtain ⟨e,n,ne,nf,d⟩:=I.pin p hp
   exact⟨(Z.2 p.1 ne).trans e,n,ne,nf,d⟩
 .have hfn:X.fn x=true:=by
   rcases hf with z|z
   .exact z
   .rw [z]at R;cases R
  obtain⟨c,G⟩:=I.ok.has x<|.inl R;obtain⟨w,z⟩:=I.cell x c G;refine wpAny_storeName_cell I.ok.kind R G z λF f Z=>?_;obtain⟨oc,P,C⟩:=id z;refine h {s with heap:=F} ⟨I.ok,I.os,I.bare,⟨λb o e n B L=>?_,λb o e n B L=>?_,I.base.free,λb o e L=>?_,I.base.tups,I.base.frzs,I.base.tbls⟩,⟨m,hn.sameBut Z<|Zs<|D x c G,λj y v' J O e3=>?_⟩,λy l e=>?_,I.free,I.freeC,λp hp=>?_,tracked ⟨oc,P,I.freeC x c G⟩ Z,by simpa using I.len⟩ ⟨c,Z,.inr G⟩
  .exact (Z.2 b<|Ze<|Zx (ZP e)<|I.ok.cab x c hfn G).trans (I.base.keep b o e n B L)
  .obtain ⟨sl,J⟩:=I.base.slot b o e n B L
   exact⟨sl,(Z.2 b<|Ze<|Zx (ZP e)<|I.ok.cab x c hfn G).trans J⟩
  .obtain ⟨o',J⟩:=I.base.there b o e L
   exact⟨o',(Z.2 b<|Ze<|Zx (ZP e)<|I.ok.cab x c hfn G).trans J⟩
  .by_cases hj:j=i
   .subst hj
    rw[t]at J;cases J;rw[List.getElem?_set_self T]at O;cases O;exact⟨u,r,.inr ⟨.inl R,c,G,f⟩⟩
   .rw [kU (Zs hj)]at O
    obtain⟨u',r',q⟩:=hl j y v' J O e3;exists u',r';rcases q with q|⟨k,l,e,z'⟩
    .exact .inl q
    .refine .inr ⟨k,l,e,z'.sameBut Z ?_⟩
     rintro rfl;exact hj<|NQ hN J<|I.ok.inj _ _ _ e G ▸ t
  .by_cases hcc:l=c
   .subst hcc;exact⟨_,f⟩
   .obtain ⟨w2,z2⟩:=I.cell y l e
    exact⟨w2,z2.sameBut Z hcc⟩
  .obtain ⟨e,n,ne,nf,d⟩:=I.pin p hp
   refine⟨(Z.2 p.1 ?_).trans e,n,ne,nf,d⟩;intro q;rw[q,P]at e;have q':oc=p.2:=ZT e;exact d w (by rw[<-q'];exact C)
def Gk(I:Inv X Z U H s)(O:X.N.Nodup)(L:X.N[i]?=some x)(G:Loc X.env.scope x)(r:RelV v u)(h:∀J,Inv X Z (U.set i<|some v) H J->Q () J)(N:X.fn x=true\/X.env.scope.names.lookup x=some .local:=by first|exact .inl Y|exact .inr Y|assumption):wpAny M A (storeName X.env x u) Q E s:=
 RB I O L G r (λJ R _=>h J R) N
def Inv.call'(I:Inv X Z U H s)(O:J.os=s.os)(u:Un (frs X.stack) ch H M s.heap J.heap)(G:HOk X.prog X.w M J.heap)(R:AllBare J.gens)(L:∀b∈ch,(b∈X.ex\/X.s₀.heap.objs.size<=b)/\b≠X.env.locals/\(∀x c,X.env.cells.lookup x=some c->c≠b)/\∀p∈X.pn++ Z,p.1≠b):Inv X Z U M J:=by
 obtain⟨T,g',d',t',N⟩:=J;have e:N=s.os:=O;subst e;exact I.call (g':=g') (t':=t') (d':=d') u G R L
end
abbrev XK:=Value->Option Addr->Hp->Prop
abbrev St:=List (xm)
abbrev xj:=St->Hp->Prop
abbrev xi:=Nat->St->Hp->Prop
abbrev VK:=V->Hp->Prop
abbrev TE:=St->Hp->VK->Prop
abbrev TT:=St->Hp->(Bool->Hp->Prop)->Prop
abbrev TA:=St->Hp->(List V->Hp->Prop)->Prop
structure Ends where
 nx:St->Hp->Prop
 rt:VK
 bk:St->Hp->Prop:=λ_ _=>False
 ct:St->Hp->Prop:=λ_ _=>False
abbrev TS:=Ends->St->Hp->Prop
def EP(X:Cx)(pins:pU)(U:St)(Q:VK)(u:Value)(s':Shared):Prop:=∃v Z,Inv X pins U Z s'/\RelV v u/\Q v Z
def TP(X:Cx)(pins:pU)(U:St)(Q:Bool->Hp->Prop)(b:Bool)(s':Shared):Prop:=∃Z,Inv X pins U Z s'/\Q b Z
def AP(X:Cx)(pins:pU)(U:St)(Q:List V->Hp->Prop)(us:pW)(s':Shared):Prop:=∃Z J,Inv X pins U J s'/\Vals Z us/\Q Z J
def SP(X:Cx)(pins:pU)(D:Ends)(f:Flow)(s':Shared):Prop:=
 match f with
 |.next=>∃U' H',Inv X pins U' H' s'/\D.nx U' H'
 |.brk=>∃U' H',Inv X pins U' H' s'/\D.bk U' H'
 |.cont=>∃U' H',Inv X pins U' H' s'/\D.ct U' H'
 |.ret u=>∃v U' H',Inv X pins U' H' s'/\RelV v u/\D.rt v H'
def PE(X:Cx)(e:Expr)(t:TE):Prop:=
 ∀(Z:pU)(s:Shared)(U:St)(H:Hp)(Q:VK),Inv X Z U H s->t U H Q->wpAny (model X.prog X.w) X.A (eval e X.env) (EP X Z U Q) X.xe s
def PT(X:Cx)(e:Expr)(t:TT):Prop:=
 ∀(Z:pU)(s:Shared)(U:St)(H:Hp)(Q:Bool->Hp->Prop),Inv X Z U H s->t U H Q->wpAny (model X.prog X.w) X.A (isTrue e X.env<|eval e X.env) (TP X Z U Q) X.xe s
def PW(X:Cx)(e:Expr)(t:TT):Prop:=
 ∀(whole:Sem Value)(Z:pU)(s:Shared)(U:St)(H:Hp)(Q:Bool->Hp->Prop),Inv X Z U H s->t U H Q->wpAny (model X.prog X.w) X.A (isTrue e X.env whole) (TP X Z U Q) X.xe s
def PW.pt(h:PW X e t):PT X e t:=h _
def PA(X:Cx)(es:xv)(t:TA):Prop:=
 ∀(J:Pos)(Z:pU)(s:Shared)(U:St)(H:Hp)(Q:List V->Hp->Prop),Inv X Z U H s->t U H Q->wpAny (model X.prog X.w) X.A (spliced<|backTo J<|starEach es X.env) (AP X Z U Q) X.xe s
def PS(X:Cx)(st:Stmt)(t:TS):Prop:=
 ∀(Z:pU)(s:Shared)(U:St)(H:Hp)(D:Ends),Inv X Z U H s->t D U H->wpAny (model X.prog X.w) X.A (exec st X.env) (SP X Z D) X.xe s
def PSs(X:Cx)(st:List Stmt)(t:TS):Prop:=
 ∀(Z:pU)(s:Shared)(U:St)(H:Hp)(D:Ends),Inv X Z U H s->t D U H->wpAny (model X.prog X.w) X.A (execs st X.env) (SP X Z D) X.xe s
def thn(h:wpAny M A t Q E s)(Z:∀a s,Q a s->Q' a s):wpAny M A t Q' E s:=Zn h Z λ_ _ x=>x
end L2
namespace L2
open PySem PySem.Spec PyProof.Rows
section
variable{X:Cx}
def Fy(o:Option (xm))(P:V->Prop):Prop:=match o with
 |some (some v)=>P v
 |_=>False
def Fy.old(h:Fy o P):∃v,o=some (some v)/\P v:=by
 match o,h with
 |some (some v),h=>exact⟨v,Y,h⟩
def XB(x:V)(P:Int->Prop):Prop:=match x with
 |.int c=>P c
 |_=>False
def XB.old(h:XB x P):∃c,x=.int c/\P c:=by
 cases x <;> first|exact⟨_,Y,h⟩|exact h.elim
def JA(x:V)(P:Addr->Prop):Prop:=match x with
 |.ref c=>P c
 |_=>False
def JA.old(h:JA x P):∃c,x=.ref c/\P c:=by
 cases x <;> first|exact⟨_,Y,h⟩|exact h.elim
def IM(i:Nat):TE:=λU H Q=>Fy U[i]? λv=>Q v H
def tC(v:V):TE:=λ_ H Q=>Q v H
def AC(D:X.N[i]?=some x)(O:Vis X.env.scope x)(hd:(x==("__debug__":Str))=false:=by decide)(M:(x==("__classdict__":Str))=false:=by decide):PE X (.Name x pos) (IM i):=by
 intro L s U H Q I h;replace h:=Fy.old h;obtain⟨v,e,h⟩:=h;obtain⟨m,R,B⟩:=I.loc;obtain⟨u,r,l⟩:=B i x v D e O;have G:EP X L U Q u s:=⟨v,H,I,r,h⟩;rcases l with⟨J,T⟩|⟨J,c,N,Z⟩
 .exact wpAny_Name (wpAny_loadName_local I.ok.kind J R T G) hd
 .rcases J with J|J
  .exact wpAny_Name (wpAny_loadName_cell I.ok.kind J N Z G) hd
  .exact wpAny_Name (wpAny_loadName_free I.ok.kind J N Z G M) hd
def Ya:PE X (.Constant (.int i) j pos) (tC<|.int i):=λ_ _ _ H _ I h=>wpAny_Constant_int ⟨.int i,H,I.tok _,⟨_,rfl⟩,h⟩
def XX:PE X (.Constant (.bool b) j pos) (tC<|.bl b):=λ_ _ _ H _ I h=>Constant_bool ⟨.bl b,H,I,rfl,h⟩
def Vo:PE X (.Constant .none j pos) (tC .non):=λ_ _ _ H _ I h=>Constant_none ⟨.non,H,I,rfl,h⟩
def Yp:PE X (.Constant (.str x) j pos) (tC<|.str x):=λ_ _ _ H _ I h=>Calls.Constant_str ⟨.str x,H,I.tok _,⟨_,rfl⟩,h⟩
def Gl(X:Cx)(x:Str):Prop:=X.env.kindOf x=some .globalImplicit
def Ga(I:Inv X Z U H s)(G:Gl X x)(J:X.mg x=some u)(h:Q u s)(hd:(x==("__debug__":Str))=false:=by decide):wpAny (model X.prog X.w) X.A (eval (.Name x pos) X.env) Q E s:=
 Calls.Name_function_global I.ok.kind G (Calls.loadGlobal_global (by rw[I.ok.glob];exact I.mod.glob.keeps I.bk) J h) hd
def U9(I:Inv X Z U H s)(M:Gl X x)(L:X.mg x=none)(J:bootBuiltins x=some u)(h:Q u s)(G:x≠"__name__":=by decide)(hd:(x==("__debug__":Str))=false:=by decide):wpAny (model X.prog X.w) X.A (eval (.Name x pos) X.env) Q E s:=by
 obtain⟨R,O,N⟩:=I.mod.blt;exact Calls.Name_function_global I.ok.kind M (Calls.loadGlobal_builtin (by rw[I.ok.glob];exact I.mod.glob.keeps I.bk) L (by rw[I.ok.blt];exact O.keeps I.bk) ((N x G).trans J) h) hd
def Ji(J:Gl X x)(Z:X.mg x=some u)(r:RelV v u)(hd:(x==("__debug__":Str))=false:=by decide):PE X (.Name x pos) (tC v):=
 λ_ _ _ H _ I h=>Ga I J Z ⟨v,H,I,r,h⟩ hd
def PX(L:Gl X x)(G:X.mg x=none)(Z:bootBuiltins x=some u)(r:RelV v u)(J:x≠"__name__":=by decide)(hd:(x==("__debug__":Str))=false:=by decide):PE X (.Name x pos) (tC v):=
 λ_ _ _ H _ I h=>U9 I L G Z ⟨v,H,I,r,h⟩ J hd
variable{a b:Expr}{ta tb:TE}{pos:Pos}
def PC(X:Cx)(op:CmpOp)(a b:Expr)(t:TE):Prop:=
 ∀(Z:pU)(s:Shared)(U:St)(H:Hp)(Q:VK),Inv X Z U H s->t U H Q->
  wpAny (model X.prog X.w) X.A (eval a X.env) (λv G=>wpAny (model X.prog X.w) X.A (eval b X.env) (λu J=>wpAny (model X.prog X.w) X.A (compareOp op v u) (EP X Z U Q) X.xe J) X.xe G) X.xe s
def tB(t:TE):TT:=λU H Q=>t U H λx Z=>∃c,x=.bl c/\Q c Z
def Uk(h:PC X op a b t)(J:behindInMarks op b=false:=by first|exact nobehind _ (by decide) (by decide)|rfl):PT X (.Compare a [op] [b] pos) (tB t):=by
 intro Z s U H Q I M;refine wpAny_isTrue_Compare1 (thn (h Z s U H _ I M) λv D J=>thn J λu B N=>thn N λc T ⟨x,R,O,G,L⟩=>?_) J;obtain⟨d,rfl,q⟩:=L;cases G;exact jz ⟨R,O,q⟩
def JB(h:PE X e t)(M:∀whole,isTrue e X.env whole=(do let v <-whole;standAt e.pos;holding [v] (truthy v)):=by intro _;rfl):PT X e (tB t):=by
 intro Z s U H Q I L;refine isTrue_plain (thn (h Z s U H _ I L) λv R ⟨x,O,N,J,G⟩=>?_)<|M _;obtain⟨d,rfl,q⟩:=G;cases J;exact jz ⟨O,N,q⟩
variable{rest:xv}
def ym(t u:TT):TT:=λU H Q=>t U H λc Z=>if c=true then u U Z Q else Q false Z
def tOr(t u:TT):TT:=λU H Q=>t U H λc Z=>if c=true then Q true Z else u U Z Q
def yg(t:TT):TT:=λU H Q=>t U H λc Z=>Q (!c) Z
def MS(J:PT X a tA):PW X (.BoolOp .And [a] pos) tA:=by
 intro G Z s U H Q I h;refine isTrue_and<|thn (J Z s U H Q I h) λc L e=>?_
 cases c with
 |true=>exact isTrue_and_nil e
 |false=>exact e
def UG(J:PT X a tA):PW X (.BoolOp .Or [a] pos) tA:=by
 intro G Z s U H Q I h;refine isTrue_or<|thn (J Z s U H Q I h) λc L e=>?_
 cases c with
 |false=>exact isTrue_or_nil e
 |true=>exact e
def Bs(R:PT X a tA)(O:PW X (.BoolOp .And (b::rest) pos) tB'):PW X (.BoolOp .And (a::b::rest) pos) (ym tA tB'):=by
 intro M Z s U H Q I h;refine isTrue_and<|thn (R Z s U H _ I h) λc N ⟨L,G,J⟩=>?_
 cases c with
 |true=>exact O M Z N U L Q G J
 |false=>exact⟨L,G,J⟩
def UZ(R:PT X a tA)(O:PW X (.BoolOp .Or (b::rest) pos) tB'):PW X (.BoolOp .Or (a::b::rest) pos) (tOr tA tB'):=by
 intro M Z s U H Q I h;refine isTrue_or<|thn (R Z s U H _ I h) λc N ⟨L,G,J⟩=>?_
 cases c with
 |true=>exact⟨L,G,J⟩
 |false=>exact O M Z N U L Q G J
def Jg(J:PT X a tA):PT X (.UnaryOp .Not a pos) (yg tA):=by
 intro Z s U H Q I h;exact isTrue_not<|J Z s U H (λc G=>Q (!c) G) I h
def Cc(ta tb:TE):TE:=λU H Q=>ta U H λx Z=>∃c,x=.bl c/\if c=true then tb U Z Q else Q (.bl false) Z
def yf(ta tb:TE):TE:=λU H Q=>ta U H λx Z=>∃c,x=.bl c/\if c=true then Q (.bl true) Z else tb U Z Q
def Xj(h:PE X a t):PE X (.BoolOp op [a] pos) t:=λZ s U H Q I J=>BoolOp_one<|h Z s U H Q I J
def Wg(R:PE X a ta)(O:PE X (.BoolOp .And (b::rest) pos) tb):PE X (.BoolOp .And (a::b::rest) pos) (Cc ta tb):=by
 intro Z s U H Q I h;refine BoolOp_and<|thn (R Z s U H _ I h) λv M ⟨x,L,G,N,J⟩=>?_;obtain⟨c,rfl,J⟩:=J;cases N;refine jz ?_
 cases c with
 |true=>exact O Z M U L Q G J
 |false=>exact⟨.bl false,L,G,Y,J⟩
def Cz(R:PE X a ta)(O:PE X (.BoolOp .Or (b::rest) pos) tb):PE X (.BoolOp .Or (a::b::rest) pos) (yf ta tb):=by
 intro Z s U H Q I h;refine BoolOp_or<|thn (R Z s U H _ I h) λv M ⟨x,L,G,N,J⟩=>?_;obtain⟨c,rfl,J⟩:=J;cases N;refine jz ?_
 cases c with
 |false=>exact O Z M U L Q G J
 |true=>exact⟨.bl true,L,G,Y,J⟩
end
end L2
namespace L2
open PySem PySem.Spec PyProof.Rows
def SqL(K:W.Frag)(H:Hp)(a:Addr)(xs:xg):Prop:=
 Rd H a (.lst xs) \/
  ∃(o:Obj)(Z:xc)(n:Nat),K.lookup a=some o/\o.cls=.type "list" /\o.dict=none/\o.data=.seq Z n/\Z.size<=sizeLine/\Vals xs Z.toList
def SqT(K:W.Frag)(H:Hp)(a:Addr)(xs:xg):Prop:=
 Rd H a (.tup xs) \/
  ∃(o:Obj)(Z:xc)(n:Nat),K.lookup a=some o/\o.cls=.type "tuple" /\o.data=.seq Z n/\Z.size<=sizeLine/\Vals xs Z.toList
def vq:Value->Option V
 |.none=>some .non
 |.bool b=>some<|.bl b
 |.int i _=>some<|.int i
 |.str x _=>some<|.str x
 |.bytes b _=>some<|.byt b
 |.float b _=>some<|.flt b
 |.ref a=>some<|.ref a
 |.type n=>some<|.ty n
 |_=>none
def RelV.abs(r:RelV x u):vq u=some x:=by
 cases x with
 |non=>cases r;rfl
 |bl _=>cases r;rfl
 |int _=>obtain⟨t,rfl⟩:=r;rfl
 |str _=>obtain⟨t,rfl⟩:=r;rfl
 |byt _=>obtain⟨t,rfl⟩:=r;rfl
 |flt _=>obtain⟨t,rfl⟩:=r;rfl
 |ref _=>cases r;rfl
 |ty _=>cases r;rfl
def RelV.inj(r:RelV x u)(q:RelV y u):x=y:=ZT<|r.abs.symm.trans q.abs
theorem Vals.inj:∀{J Z:xg}{G:pW},Vals J G->Vals Z G->J=Z
 |_,_,_,.nil,.nil=>rfl
 |_,_,_,.cons r t,.cons r' t'=>by rw[r.inj r',Vals.inj t t']
section
def SqL.of{K:W.Frag}(h:H a=some (.lst Z)):SqL K H a Z:=.inl<|.inl h
abbrev Z3:=@SqL.of
def SqT.of{K:W.Frag}(h:H a=some (.tup Z)):SqT K H a Z:=.inl<|.inl h
abbrev Z2:=@SqT.of
def Inv.list(I:Inv X G U H s)(h:SqL X.K H a J):∃Z:pW,Vals J Z/\PlainL s.heap a Z.toArray/\J.length<=sizeLine:=by
 rcases h with h|⟨o,Z,n,M,N,hd,L,O,r⟩
 .obtain ⟨z,Z,n,r,e⟩:=h.ok I.hok
  exact⟨Z,r,⟨_,n,e,Y,Y,Y⟩,z⟩
 .refine ⟨Z.toList,r,⟨o,n,I.kIn a o M,N,hd,by simpa using L⟩,?_⟩
  have e:=r.length;simp only[qM]at e;omega
def Inv.tuple(I:Inv X G U H s)(h:SqT X.K H a J):∃Z:pW,Vals J Z/\IsTup s.heap a Z.toArray/\J.length<=sizeLine:=by
 rcases h with h|⟨o,Z,n,M,N,L,O,r⟩
 .obtain ⟨z,Z,r,p⟩:=h.ok I.hok
  exact⟨Z,r,p.is,z⟩
 .refine ⟨Z.toList,r,⟨o,I.kIn a o M,N,n,by simpa using L⟩,?_⟩
  have e:=r.length;simp only[qM]at e;omega
def Inv.list_inj(I:Inv X G U H s)(h:SqL X.K H a O)(T:SqL X.K H a N):O=N:=by
 obtain⟨J,r,⟨o,n,e,_,_,d⟩,_⟩:=I.list h;obtain⟨Z,R,⟨D,E,L,_,_,M⟩,_⟩:=I.list T;rw[e]at L;cases L;rw[d]at M;injection M with B _;have:J=Z:=by simpa using congrArg Array.toList B
 subst this;exact r.inj R
def Inv.tuple_inj(I:Inv X G U H s)(h:SqT X.K H a O)(T:SqT X.K H a N):O=N:=by
 obtain⟨J,r,⟨o,e,_,n,d⟩,_⟩:=I.tuple h;obtain⟨Z,R,⟨D,L,_,E,M⟩,_⟩:=I.tuple T;rw[e]at L;cases L;rw[d]at M;injection M with B _;have:J=Z:=by simpa using congrArg Array.toList B
 subst this;exact r.inj R
end
abbrev Cx.wish(X:Cx)(E:pV):Cx:={X with xe:=E}
abbrev Cx.nox(X:Cx):Cx:=X.wish λ_ _=>False
def Cx.Ok.wish{X:Cx}(Z:X.Ok)(E:pV):(X.wish E).Ok:=
 ⟨Z.mod,Z.kind,Z.glob,Z.blt,Z.above,Z.inj,Z.has,Z.cab,Z.hd,Z.frames,Z.stk,Z.exf,Z.bs,Z.bsz,Z.noex,Z.exfs,Z.funs,Z.frf⟩
def Cx.Ok.unwish{X:Cx}(Z:(X.wish E).Ok):X.Ok:=
 ⟨Z.mod,Z.kind,Z.glob,Z.blt,Z.above,Z.inj,Z.has,Z.cab,Z.hd,Z.frames,Z.stk,Z.exf,Z.bs,Z.bsz,Z.noex,Z.exfs,Z.funs,Z.frf⟩
section
def Inv.wish(I:Inv X Z U H s)(E:pV):Inv (X.wish E) Z U H s:=⟨I.ok.wish E,I.os,I.bare,I.base,I.loc,I.cell,I.free,I.freeC,I.pin,I.hok,I.len⟩
def Inv.unwish(I:Inv (X.wish E) Z U H s):Inv X Z U H s:=⟨I.ok.unwish,I.os,I.bare,I.base,I.loc,I.cell,I.free,I.freeC,I.pin,I.hok,I.len⟩
def SP.unwish(h:SP (X.wish E) G D f L):SP X G D f L:=by
 cases f with
 |next=>obtain⟨Z,J,I,q⟩:=h;exact⟨Z,J,I.unwish,q⟩
 |brk=>obtain⟨Z,J,I,q⟩:=h;exact⟨Z,J,I.unwish,q⟩
 |cont=>obtain⟨Z,J,I,q⟩:=h;exact⟨Z,J,I.unwish,q⟩
 |ret u=>obtain⟨v,Z,J,I,r,q⟩:=h;exact⟨v,Z,J,I.unwish,r,q⟩
def PSs.nox{st:List Stmt}(h:PSs X.nox st t):PSs X st t:=λZ s U H D I J=>
 Zn (h Z s U H D (I.wish _) J) (λ_ _ q=>q.unwish) λ_ _ z=>False.elim z
end
section
variable{st:Stmt}{rest:List Stmt}{t u:TS}{te:TE}
def CT:TS:=λD U H=>D.nx U H
def Yn(t u:TS):TS:=λD U H=>t {D with nx:=u D} U H
def Yo:PSs X [] CT:=λ_ _ U H _ I h=>pB ⟨U,H,I,h⟩
def YY(L:PS X st t)(G:PSs X rest u):PSs X (st::rest) (Yn t u):=by
 intro Z s U H D I h;refine wpAny_execs_cons<|thn (L Z s U H {D with nx:=u D} I h) λf J q=>?_
 cases f with
 |next=>
  obtain⟨M,O,N,q⟩:=q;exact G Z J M O D N q
 |ret v=>exact q
 |brk=>exact q
 |cont=>exact q
def YZ(J:PS X st t):PSs X [st] t:=by
 intro Z s U H D I h;refine wpAny_execs_cons<|thn (J Z s U H D I h) λf G q=>?_
 cases f with
 |next=>exact pB q
 |ret v=>exact q
 |brk=>exact q
 |cont=>exact q
def Inv.quiet(I:Inv X Z U H s):interactive X.env=false:=by simp[interactive,I.ok.kind]
def CZ(te:TE):TS:=λD U H=>te U H λ_ Z=>D.nx U Z
def VR(L:PE X e te)(G:swapsWith e none pos.line X.env=pure false:=by rfl):PS X (.Expr e pos) (CZ te):=by
 intro Z s U H D I h;exact wpAny_Expr_any (thn (L Z s U H _ I h) λv O ⟨x,N,M,R,J⟩=>⟨U,N,M,J⟩) I.quiet G
def ye(te:TE):TS:=λD U H=>te U H D.rt
def Yj(L:PE X e te):PS X (.Return (some e) pos) (ye te):=by
 intro Z s U H D I h;exact wpAny_Return_some<|thn (L Z s U H _ I h) λv O ⟨x,N,M,J,G⟩=>⟨x,U,N,M,J,G⟩
def CQ:TS:=λD _ H=>D.rt .non H
def PJ:PS X (.Return none pos) CQ:=λ_ _ U H _ I h=>wpAny_Return_none ⟨.non,U,H,I,rfl,h⟩
def VH(c:TT)(t u:TS):TS:=λD U H=>c U H λb Z=>if b=true then t D U Z else u D U Z
def Y4(N:PT X c tc)(R:PSs X a t)(O:PSs X b u):PS X (.If c a b pos) (VH tc t u):=by
 intro Z s U H D I h;refine wpAny_If<|thn (N Z s U H _ I h) λd J ⟨M,L,G⟩=>?_
 cases d with
 |true=>exact R Z J U M D L G
 |false=>exact O Z J U M D L G
def SF:TS:=λ_ _ _=>False
def J9:PSs X sts SF:=λ_ _ _ _ _ _ h=>h.elim
end
abbrev TG:=V->St->Hp->(xj)->Prop
abbrev TGs:=List V->St->Hp->(xj)->Prop
def PG(X:Cx)(target:Expr)(t:TG):Prop:=
 ∀(Z:pU)(s:Shared)(U:St)(H:Hp)(v:V)(u:Value)(Q:xj),Inv X Z U H s->RelV v u->t v U H Q->
  wpAny (model X.prog X.w) X.A (assign target X.env u) (λ_ L=>∃J G,Inv X Z J G L/\Q J G) X.xe s
def PGs(X:Cx)(ts:xv)(t:TGs):Prop:=
 ∀(Z:pU)(s:Shared)(U:St)(H:Hp)(J:xg)(G:pW)(Q:xj),Inv X Z U H s->Vals J G->t J U H Q->
  wpAny (model X.prog X.w) X.A (assignInOrder ((assignEach ts X.env).map (·.2)) G) (λ_ N=>∃L M,Inv X Z L M N/\Q L M) X.xe s
abbrev yM:=V->V->V->Hp->(Hp->Prop)->Prop
def yZ(X:Cx)(t:yM):Prop:=
 ∀(Z:pU)(s:Shared)(U:St)(H:Hp)(o i v:V)(J G u:Value)(Q:Hp->Prop),Inv X Z U H s->RelV o J->RelV i G->RelV v u->t o i v H Q->
  wpAny (model X.prog X.w) X.A (setItem J G u) (λ_ M=>∃L,Inv X Z U L M/\Q L) X.xe s
abbrev TIp:=V->V->Hp->VK->Prop
def PIp(X:Cx)(op:Operator)(t:TIp):Prop:=
 ∀(Z:pU)(s:Shared)(U:St)(H:Hp)(x y:V)(v u:Value)(Q:VK),Inv X Z U H s->RelV x v->RelV y u->t x y H Q->
  wpAny (model X.prog X.w) X.A (inplaceOp op v u) (EP X Z U Q) X.xe s
section
variable{X:Cx}
def V2(i:Nat):TG:=λv U H Q=>Q (U.set i<|some v) H
def Yl(i:Nat)(M:X.N.Nodup)(G:X.N[i]?=some x:=by exact Y)(J:Loc X.env.scope x:=by exact Or.inl Y)(L:X.fn x=true\/X.env.scope.names.lookup x=some .local:=by first|exact .inl Y|exact .inr Y|assumption):PG X (.Name x pos) (V2 i):=by
 intro Z s U H v u Q I r h;exact wpAny_assign_Name<|Gk I M G J r (λO N=>⟨_,H,N,h⟩) L
def TY:TGs:=λvs U H Q=>match vs with
 |[]=>Q U H
 |_=>False
def TY.old(h:TY Z U H Q):Z=[]/\Q U H:=by
 match Z,h with
 |[],h=>exact⟨Y,h⟩
def Jo(t:TG)(u:TGs):TGs:=λvs U H Q=>match vs with
 |v::r=>t v U H λU' H'=>u r U' H' Q
 |_=>False
def Jo.old(h:Jo t u Z U H Q):∃v r,Z=v::r/\t v U H λJ G=>u r J G Q:=by
 match Z,h with
 |v::r,h=>exact⟨v,r,Y,h⟩
def VJ:PGs X [] TY:=by
 intro Z s U H J G Q I r h;replace h:=TY.old h;obtain⟨e,h⟩:=h;subst e;cases r;exact assignInOrder_nil ⟨U,H,I,h⟩
def Yk(R:PG X e t)(O:PGs X J u)(N:(assignEach (e::J) X.env).map (·.2)=assign e X.env::(assignEach J X.env).map (·.2):=by rfl):PGs X (e::J) (Jo t u):=by
 intro Z s U H E A Q I r h;replace h:=Jo.old h;obtain⟨v,F,T,h⟩:=h;subst T
 cases r with
 |cons r L=>
  rw[N];refine assignInOrder_cons<|thn (R Z s U H _ _ _ I r h) λ_ G ⟨σ1,D,B,M⟩=>?_;exact O Z G σ1 D _ _ Q B L M
def Nf(K:W.Frag)(n:Nat)(t:TGs):TG:=λv U H Q=>JA v λa=>∃Z,SqT K H a Z/\Z.length=n/\t Z U H Q
def VU(F:X.calm=true)(h:PGs X L t)(D:(assignEach L X.env).length=n:=by rfl)(G:(assignEach L X.env).findIdx? (·.1)=none:=by rfl):PG X (.Tuple L k pos) (Nf X.K n t):=by
 intro Z s U H v u Q I r J;replace J:=JA.old J;obtain⟨a,S,N,B,E,J⟩:=J;subst S;cases r;obtain⟨O,M,T,P⟩:=I.tuple B;refine assign_Tuple_tuple (I.ok.hd F) T (by simp[D,<-E,M.length]) G λA R=>?_;have C:Inv X Z U H {s with heap:=A}:=I.kept (t':=s.toks) λb o e=>R b o (Ze<|ZP e) e;exact h Z _ U H N _ Q C (by simpa using M) J
def vc(to ti:TE)(t:yM):TG:=λv U H Q=>to U H λo G=>ti U G λi J=>t o i v J λZ=>Q U Z
def MT(E:PE X o to)(F:PE X i ti)(D:yZ X t)(A:∀v,assign (.Subscript o i pos) X.env v=(do
   let J <-holding [v] (eval o X.env)
   let G <-holding [v,J] (eval i X.env)
   standAt pos
   holding [v,J,G] (setItem J G v)
   release [v,J,G] []):=by intro _;rfl):PG X (.Subscript o i pos) (vc to ti t):=by
 intro Z s U H v u Q I r h;rw[A];refine Zl<|wpAny_holding<|thn (E Z s U H _ I h) λJ M ⟨x,q,P,O,B⟩=>?_;refine Zl<|wpAny_holding<|thn (F Z M U q _ P B) λG L ⟨y,z,C,N,T⟩=>?_;refine Zl<|jZ<|Zl<|wpAny_holding<|thn (D Z L U z x y v J G u _ C O N r T) λ_ m ⟨j,S,R⟩=>?_;exact wpAny_release ⟨U,j,S,R⟩
def E5(te:TE)(g:TG):TS:=λD U H=>te U H λx Z=>g x U Z D.nx
def Jh(R:PE X e te)(O:PG X tg g)(N:swapsWithSole [tg] e pos.line X.env=pure false:=by rfl)(M:swappedStores [tg] e X.env=pure none:=by rfl)(T:(assignEach [tg] X.env).map (·.2)=[assign tg X.env]:=by rfl):PS X (.Assign [tg] e pos) (E5 te g):=by
 intro Z s U H D I h;refine wpAny_Assign_stores (thn (R Z s U H _ I h) λv J ⟨x,E,B,G,L⟩=>?_) N M;rw[T];exact thn (O Z J U E x v _ B G L) λ_ F q=>q
def Y0(i:Nat)(R:X.N.Nodup)(O:PE X e te)(M:X.N[i]?=some x:=by exact Y)(hx:Loc X.env.scope x:=by exact Or.inl Y)(L:swapsWith e (some<|.Name x pos') pos.line X.env=pure false:=by rfl)(N:X.fn x=true\/X.env.scope.names.lookup x=some .local:=by first|exact .inl Y|exact .inr Y|assumption):
  PS X (.Assign [.Name x pos'] e pos) (E5 te<|V2 i):=by
 intro Z s U H D I h;refine wpAny_Assign_Name (thn (O Z s U H _ I h) λv A ⟨y,E,B,J,G⟩=>?_) L;exact Gk B R M hx J (λF T=>⟨_,E,T,G⟩) N
def yk(i:Nat)(te:TE)(ti:TIp):TS:=λD U H=>∃x,U[i]?=some (some x)/\te U H λy J=>ti x y J λz Z=>D.nx (U.set i<|some z) Z
def KO(g:X.N.Nodup)(R:X.N[i]?=some x)(O:Loc X.env.scope x)(q:PE X e te)(S:PIp X op ti)(j:X.fn x=true\/X.env.scope.names.lookup x=some .local:=by first|exact .inl Y|exact .inr Y|assumption):
  PS X (.AugAssign (.Name x pos') op e pos) (yk i te ti):=by
 intro Z s U H D I h;obtain⟨v,p,h⟩:=h;obtain⟨m,C,Q⟩:=I.loc;have N:Vis X.env.scope x:=by rcases O with k|k;exact .inl k;exact .inr<|.inl k
 obtain⟨u,r,l⟩:=Q i x v R p N;refine wpAny_AugAssign_Name ?_
 have go:wpAny (model X.prog X.w) X.A (eval e X.env) (λw M=>wpAny (model X.prog X.w) X.A (inplaceOp op u w) (λr L=>wpAny (model X.prog X.w) X.A (storeName X.env x r) (λ_=>SP X Z D .next) X.xe L) X.xe M) X.xe s:=by
  refine thn (q Z s U H _ I h) λw T ⟨y,n,b,E,A⟩=>?_;refine thn (S Z T U n v y u w _ b r E A) λz s2 ⟨a,o,f,B,F⟩=>?_;exact Gk f g R O B (λs3 d=>⟨_,o,d,F⟩) j
 rcases l with⟨J,P⟩|⟨J,c,t,G⟩
 .exact wpAny_loadName_local I.ok.kind J C P go
 .rcases J with J|J
  .exact wpAny_loadName_cell I.ok.kind J t G go
  .rcases O with k|k
   .have:X.env.scope.names.lookup x=some .free:=J
    rw[k]at this;cases this
   .have:X.env.scope.names.lookup x=some .free:=J
    rw[k]at this;cases this
end
section
def N9(c:TT)(tb:TS):TS:=λD U H=>∃W:xi,(∃m,W m U H)/\∀m U H,W m U H->
 c U H λb G=>if b=true then ∃N:xj,(∀J L,N J L->∃Z,Z<m/\W Z J L)/\tb {D with nx:=N,ct:=N,bk:=D.nx} U G else D.nx U G
def NJ(E:PassesOwn (model X.prog X.w) X.A X.env X.xe)(g:PT X c tc)(k:PSs X body tb):PS X (.While c body [] pos) (N9 tc tb):=by
 intro Z s U H D I h;obtain⟨W,⟨m,y⟩,turn⟩:=h;refine wpAny_While<|codeAny_whileLoop (λn t=>∃A Q,Inv X Z A Q t/\W n A Q) ?_ m ⟨U,H,I,y⟩;rintro n q ⟨σ1,P,p,j⟩;refine j8 E<|thn (g Z q σ1 P _ p<|turn n σ1 P j) λb z ⟨C,S,L⟩=>?_
 cases b with
 |true=>
  obtain⟨N,F,L⟩:=L;rw[Zp rfl];refine j8 E<|thn (k Z z σ1 C _ S L) λf d G=>?_
  cases f with
  |next=>
   obtain⟨σ3,J,B,O⟩:=G;obtain⟨R,T,M⟩:=F σ3 J O;exact⟨R,T,σ3,J,B,M⟩
  |cont=>
   obtain⟨σ3,J,B,O⟩:=G;obtain⟨R,T,M⟩:=F σ3 J O;exact⟨R,T,σ3,J,B,M⟩
  |brk=>exact G
  |ret v=>exact G
 |false=>
  rw[Zq Zi];exact pB ⟨σ1,C,S,L⟩
end
structure It where
 go:Nat->Hp->Prop
 yld:Nat->Hp->V->Hp->Prop
 stop:Nat->Hp->Prop
def UN(X:Cx)(pins:pU)(H:Hp)(b:Addr):Prop:=
 H b=none/\b≠X.env.locals/\b∉X.fs/\(b∈X.ex\/X.s₀.heap.objs.size<=b)/\(∀x c,X.env.cells.lookup x=some c->c≠b)/\∀p∈X.pn++ pins,p.1≠b
def Inv.fpOk(I:Inv X Z U H s)(J:s.heap.objs.size<=b)(L:M b=none):UN X Z M b:=by
 refine⟨L,jM<|Zx I.lt J,I.nofs J,.inr<|Zb I.sz J,λx c e z=>?_,λp G z=>?_⟩
 .obtain ⟨v,q⟩:=I.cell x c e
  exact Zr (Zx q.lt (by rw[z];exact J))<|jt _
 .exact Zr (Zx (ZP (I.pin p G).1) (by rw[z];exact J)) (jt _)
structure Turn(P:Program)(w:World)(K:W.Frag)(tg:Expr)(J:It)(fp:List Addr)(it:Addr)(tn:Nat->Heap->Prop):Prop where
 mem:it∈fp
 obj:∀i h,tn i h->∀b∈fp,∃o,h.get? b=some o/\∀v,o.data≠.cell v
 keep:∀i h h',tn i h->(∀b∈fp,∀o,h.get? b=some o->h'.get? b=some o)->tn i h'
 item:∀(X:Cx),X.prog=P->X.w=w->X.K=K->X.calm=true->∀(i:Nat)(pins:List (Addr×Obj))(s:Shared)(U:St)(H:Hp)(E:Value->Shared->Prop),Inv X pins U H s->(∀b∈fp,UN X pins H b)->tn i s.heap->J.go i H->
  wpAny (model P w) X.A (pyNext (.ref it)) (λr s1=>∃u,r=some u/\
   wpAny (model P w) X.A (letOwnedTupleGo tg (.ref it) u) (λ_ s2=>∃x H',Inv X pins U H' s2/\RelV x u/\J.yld i H x H'/\tn (i+1) s2.heap/\∀b∈fp,H' b=none) E s1) E s
 done:∀(X:Cx),X.prog=P->X.w=w->X.K=K->X.calm=true->∀(i:Nat)(pins:List (Addr×Obj))(s:Shared)(U:St)(H:Hp)(E:Value->Shared->Prop),Inv X pins U H s->(∀b∈fp,UN X pins H b)->tn i s.heap->J.stop i H->
  wpAny (model P w) X.A (pyNext (.ref it)) (λr s1=>r=none/\Inv X pins U H s1) E s
 self:∀(A:Around)(i:Nat)(s:Shared)(Q:Value->Shared->Prop)(E:Value->Shared->Prop),tn i s.heap->Q (.ref it) s->wpAny (model P w) A (pyIter (.ref it)) Q E s
abbrev TI:=St->Hp->(It->Hp->Prop)->Prop
def PIE(X:Cx)(pins:pU)(U:St)(tg:Expr)(R:It->Hp->Prop)(itv:Value)(s2:Shared):Prop:=
 ∃(L:Addr)(M:xa)(G:Nat->Heap->Prop)(J:It)(Z:Hp),itv=.ref L/\Inv X pins U Z s2/\Turn X.prog X.w X.K tg J M L G/\G 0 s2.heap/\(∀b∈M,UN X pins Z b)/\R J Z
def PI(X:Cx)(tg iter:Expr)(wi:TI):Prop:=
 ∀(Z:pU)(s:Shared)(U:St)(H:Hp)(R:It->Hp->Prop),Inv X Z U H s->wi U H R->
  wpAny (model X.prog X.w) X.A (eval iter X.env) (λv J=>wpAny (model X.prog X.w) X.A (pyIter v) (PIE X Z U tg R) X.xe J) X.xe s
def Lm(L:s.heap.get? G=some o)(O:o.cls=.type n)(hd:o.data=.fields J)(N:["enumerate","zip","dict_itemiterator","dict_reverseitemiterator","odict_iterator","itertools.zip_longest","itertools.pairwise"].contains n=false)(Z:Q () s):wpAny M A (letOwnedTupleGo tg (.ref G) u) Q E s:=by
  unfold letOwnedTupleGo;cases tg <;> first
    |exact Zm Z
    | (cases u <;> first
        |exact Zm Z
        | (refine Zl<|wpAny_load L ?_
           rw[O,hd];show wpAny M A (if(["enumerate","zip","dict_itemiterator","dict_reverseitemiterator","odict_iterator","itertools.zip_longest","itertools.pairwise"].contains n && J[0]?==some (rawInt _))=true then _ else _) Q E s;rw[Zq (by intro h;rw[N,Bool.false_and]at h;cases h)];exact Zm Z))
def Itl(K:W.Frag)(a:Addr):It:=
 ⟨λi H=>∃Z x,SqL K H a Z/\Z[i]?=some x,λi H x J=>J=H/\∀Z,SqL K H a Z->Z[i]?=some x,λi H=>∃Z,SqL K H a Z/\Z.length<=i⟩
def Itt(K:W.Frag)(a:Addr):It:=
 ⟨λi H=>∃Z x,SqT K H a Z/\Z[i]?=some x,λi H x J=>J=H/\∀Z,SqT K H a Z->Z[i]?=some x,λi H=>∃Z,SqT K H a Z/\Z.length<=i⟩
def Itr(lo:Int)(n:Nat):It:=⟨λi _=>i<n,λi H x Z=>Z=H/\x=.int (lo+i),λi _=>n<=i⟩
def E3{P:Program}{w:World}{K:W.Frag}{g:Expr}(a J:Addr):Turn P w K g (Itl K a) [J] J (λi h=>h.IsListIter J a i) where
 mem:=by simp
 obj:=λi h st b G=>by
  have e:b=J:=by simpa using G
  subst e;obtain⟨o,e,c,d⟩:=st;exact⟨o,e,λv z=>by rw[d]at z;cases z⟩
 keep:=λi h O st k=>st.at λo e=>k J (by simp) o e
 item:=by
  intro X A D S t i Z s U H E I N st F;subst A D S;obtain⟨m,x,M,B⟩:=F;obtain⟨T,R,p,l⟩:=I.list M;obtain⟨u,hu,r⟩:=R.get B;obtain⟨q,y,f2,j,Q,C⟩:=N J (by simp);refine wpAny_pyNext_list_item st p.isList (x:=u) (by simpa using hu) λO L f=>?_;have I1:Inv X Z U H {s with heap:=O}:=I.turned (t':=s.toks) (λb o G e=>(f.2 b G).trans e) q y j Q C;obtain⟨o,e,c,d⟩:=id L;exact⟨u,Y,Lm (s:={s with heap:=O}) e c d (by decide) ⟨x,H,I1,r,⟨Y,λys n=>by rw[I.list_inj n M];exact B⟩,L,λb G=>(N b G).1⟩⟩
 done:=by
  intro X A D S t i Z s U H E I N st F;subst A D S;obtain⟨m,M,B⟩:=F;obtain⟨T,R,p,l⟩:=I.list M;obtain⟨q,y,f2,j,Q,C⟩:=N J (by simp);have hl:=R.length;exact wpAny_pyNext_list_end (I.ok.hd t) st p.isList (by simp;omega) λO eb=>⟨Y,I.turned (t':=s.toks) (λb o G e=>eb b o G e) q y j Q C⟩
 self:=λ_ _ _ _ _ st h=>wpAny_pyIter_listiter st h
def N4{P:Program}{w:World}{K:W.Frag}{g:Expr}(a G:Addr):Turn P w K g (Itt K a) [G] G (λi h=>h.IsTupleIter G a i) where
 mem:=by simp
 obj:=λi h st b L=>by
  have e:b=G:=by simpa using L
  subst e;obtain⟨o,e,c,d⟩:=st;exact⟨o,e,λv z=>by rw[d]at z;cases z⟩
 keep:=λi h R st k=>st.at λo e=>k G (by simp) o e
 item:=by
  intro X A D S t i Z s U H E I O st F;subst A D S;obtain⟨m,x,N,B⟩:=F;obtain⟨J,T,p,l⟩:=I.tuple N;obtain⟨u,hu,r⟩:=T.get B;obtain⟨q,y,f2,j,Q,C⟩:=O G (by simp);refine wpAny_pyNext_tuple_item st (show s.heap.IsTuple a J.toArray from p) (x:=u) (by simpa using hu) λR M f=>?_;have I1:Inv X Z U H {s with heap:=R}:=I.turned (t':=s.toks) (λb o L e=>(f.2 b L).trans e) q y j Q C;obtain⟨o,e,c,d⟩:=id M;exact⟨u,Y,Lm (s:={s with heap:=R}) e c d (by decide) ⟨x,H,I1,r,⟨Y,λys n=>by rw[I.tuple_inj n N];exact B⟩,M,λb L=>(O b L).1⟩⟩
 done:=by
  intro X A D S t i Z s U H E I O st F;subst A D S;obtain⟨m,N,B⟩:=F;obtain⟨J,T,p,l⟩:=I.tuple N;obtain⟨q,y,f2,j,Q,C⟩:=O G (by simp);have hl:=T.length;exact wpAny_pyNext_tuple_end (I.ok.hd t) st (show s.heap.IsTuple a J.toArray from p) (by simp;omega) λR eb=>⟨Y,I.turned (t':=s.toks) (λb o L e=>eb b o L e) q y j Q C⟩
 self:=λ_ _ _ _ _ st h=>wpAny_pyIter_tupleiter st h
def N5{P:Program}{w:World}{K:PySem.W.Frag}{m:Expr}(J:Addr)(M:Int)(n:Nat):Turn P w K m (Itr M n) [J] J (λi h=>IsRangeIter h J (M+(i:Nat)*1) ((n:Int)-(i:Nat)) 1) where
 mem:=by simp
 obj:=λi h st b G=>by
  have e:b=J:=by simpa using G
  subst e
  exact⟨_,st,λv z=>by
   have q:Data.fields _=Data.cell v:=z;cases q⟩
 keep:=λi h O st k=>k J (by simp) _ st
 item:=by
  intro X D R F B i Z s U H E I N st T;subst D R F;obtain⟨j,Q,c,C,S,A⟩:=N J (by simp);have W:=Walks.range (prog:=X.prog) (w:=X.w) (I.ok.hd B) J M 1 n;refine W.item i s _ _ T st λv O y p L g=>?_;obtain⟨t,rfl⟩:=p;have f:Inv X Z U H {s with heap:=O,toks:=y}:=I.turned (λb o G e=>g b o (by simpa using G) e) j Q C S A;refine⟨_,Y,Lm (s:={s with heap:=O,toks:=y}) (n:="range_iterator") L Y Y (by decide) ⟨.int<|M+i,H,f,⟨t,?_⟩,⟨rfl,rfl⟩,L,λb G=>(N b G).1⟩⟩;rw[Int.mul_one]
 done:=by
  intro X D R F B i Z s U H E I N st T;subst D R F;obtain⟨j,Q,c,C,S,A⟩:=N J (by simp);exact wpAny_pyNext_range_end (I.ok.hd B) st (by have:n<=i:=T;omega) λO d=>⟨Y,I.turned (t':=s.toks) (λb o G e=>d b o G e) j Q C S A⟩
 self:=λ_ _ _ _ _ st h=>wpAny_pyIter_rangeiter st h
end L2
namespace L2
open PySem PySem.Spec PyProof.Rows
section
def Qv(K:W.Frag)(tl:TE):TI:=λU H R=>tl U H λx Z=>JA x λa=>(∃J,SqL K Z a J)/\R (Itl K a) Z
def vS(K:W.Frag)(tl:TE):TI:=λU H R=>tl U H λx Z=>JA x λa=>(∃J,SqT K Z a J)/\R (Itt K a) Z
def UQ(T:PE X l tl):PI X tg l (Qv X.K tl):=by
 intro Z s U H R I h;refine thn (T Z s U H _ I h) λv J ⟨x,D,G,M,L⟩=>?_;replace L:=JA.old L;obtain⟨a,e,⟨E,O⟩,q⟩:=L;subst e;cases M;obtain⟨N,F,p,A⟩:=G.list O;refine qK p.isList ?_;refine⟨J.heap.objs.size,[J.heap.objs.size],_,_,D,Y,G.kept (t':=J.toks) λb o e=>ZE _ e,E3 a _,⟨_,ZY _ Y,Y,Y⟩,λb B=>?_,q⟩;have e:b=J.heap.objs.size:=by simpa using B
 subst e;exact G.fpOk (ZG _)<|G.hok.fresh<|ZG _
def UH(T:PE X l tl):PI X tg l (vS X.K tl):=by
 intro J s U H R I h;refine thn (T J s U H _ I h) λv Z ⟨x,D,G,N,L⟩=>?_;replace L:=JA.old L;obtain⟨a,e,⟨E,O⟩,q⟩:=L;subst e;cases N;obtain⟨M,F,p,A⟩:=G.tuple O;refine wpAny_pyIter_tuple (show Z.heap.IsTuple a M.toArray from p) ?_;refine⟨Z.heap.objs.size,[Z.heap.objs.size],_,_,D,Y,G.kept (t':=Z.toks) λb o e=>ZE _ e,N4 a _,⟨_,ZY _ Y,Y,Y⟩,λb B=>?_,q⟩;have e:b=Z.heap.objs.size:=by simpa using B
 subst e;exact G.fpOk (ZG _)<|G.hok.fresh<|ZG _
def KF{Z J:Int}(I:Inv X G U H s)(B: -(2 ^ 62)<=Z)(T:Z<2 ^ 62)(O: -(2 ^ 62)<=J)(N:J<2 ^ 62)(q:R (Itr Z (J-Z).toNat) H):wpAny (model X.prog X.w) X.A (pyIter<|.ref s.heap.objs.size) (PIE X G U tg R) E {s with heap:=s.heap.push {cls:=.type "range",data:=.fields #[.int Z t,.int J u,.int 1 v]},toks:=tk}:=by
 refine wpAny_pyIter_range (IsRange.new ..) (small_one B T O N) ?_;have L:Inv X G U H {s with heap:=s.heap.push {cls:=.type "range",data:=.fields #[.int Z t,.int J u,.int 1 v]},toks:=tk}:=I.kept λb o e=>ZE _ e;refine⟨(s.heap.push {cls:=.type "range",data:=.fields #[.int Z t,.int J u,.int 1 v]}).objs.size,[(s.heap.push {cls:=.type "range",data:=.fields #[.int Z t,.int J u,.int 1 v]}).objs.size],_,_,H,Y,
  L.kept (t':=tk) λb o e=>ZE _ e,N5 _ Z (J-Z).toNat,?_,λb M=>?_,q⟩
 .have e1:Z+((0:Nat):Int)*1=Z:=by simp
  have D:(((J-Z).toNat:Nat):Int)-((0:Nat):Int)=Builtin.Range.rangeSize Z J 1:=by rw[rangeSize_one];split <;> omega
  show IsRangeIter _ _ (Z+((0:Nat):Int)*1) ((((J-Z).toNat:Nat):Int)-((0:Nat):Int)) 1;rw[e1,D];exact ZY _ Y
 .have e:b=(s.heap.push {cls:=.type "range",data:=.fields #[.int Z t,.int J u,.int 1 v]}).objs.size:=by simpa using M
  subst e;exact L.fpOk (ZG _)<|L.hok.fresh<|ZG _
def zj(ta:TA):TI:=λU H R=>ta U H λZ J=>∃j:Int,Z=[.int j]/\ -(2 ^ 62)<=j/\j<2 ^ 62/\R (Itr 0 j.toNat) J
def UA(T:Gl X "range")(O:X.mg "range"=none)(B:PA X [a] ta)(N:starEach [a] X.env=[(false,eval a X.env)]:=by rfl):PI X tg (.Call (.Name "range" p) [a] [] pos) (zj ta):=by
 intro Z s U H R I h;refine Call_<|U9 I T O boot_range<|jG (thn (B pos Z s U H _ I h) λF A ⟨E,S,D,L,J⟩=>?_) N rfl;obtain⟨j,e,J,M,q⟩:=J;subst e
 cases L with
 |cons r G=>
  cases G;obtain⟨t,rfl⟩:=r;exact call_range_1<|KF D (by omega) (by omega) J M<|by simpa using q
def U1(wi:TI)(g:TG)(tb:TS):TS:=λD U H=>wi U H λJ O=>∃W:Nat->Nat->St->Hp->Prop,(∃m,W 0 m U O)/\∀i m U H,W i m U H->
 (J.stop i H/\D.nx U H)\/(J.go i H/\∃N:xj,(∀L Z,N L Z->∃G,G<m/\W (i+1) G L Z)/\∀x Z,J.yld i H x Z->g x U Z fun σ2 M=>tb {D with nx:=N,ct:=N,bk:=D.nx} σ2 M)
def VY(fp:xa)(h:Heap):pU:=fp.filterMap λb=>(h.get? b).map λo=>(b,o)
def JR(Z:b∈fp)(e:h.get? b=some o):(b,o)∈VY fp h:=List.mem_filterMap.mpr ⟨b,Z,by rw[e];rfl⟩
def Wl(Z:p∈VY fp h):p.1∈fp/\h.get? p.1=some p.2:=by
 obtain⟨b,J,e⟩:=List.mem_filterMap.mp Z
 cases q:h.get? b with
 |none=>rw[q]at e;cases e
 |some o=>
  rw[q]at e;have G:(b,o)=p:=ZT e;subst G;exact⟨J,q⟩
def Inv.pinned(I:Inv X Z U H s)(N:∀b∈fp,UN X Z H b)(M:∀b∈fp,∃o,s.heap.get? b=some o/\∀v,o.data≠.cell v):Inv X (Z++ VY fp s.heap) U H s:=
 I.pins_of λp L=>(ZX.mp L).elim (λz=>I.pin p<|ZU _ z) λz=>by
  obtain⟨J,e⟩:=Wl z;obtain⟨T,R,O,_⟩:=N p.1 J;obtain⟨o,G,d⟩:=M p.1 J;rw[e]at G;cases G;exact⟨e,T,R,O,d⟩
def Inv.unpinned(I:Inv X (Z++ pl) U H s):Inv X Z U H s:=I.pins_of λp J=>I.pin p<|ZU _<|jh _ J
def JC(S:PassesOwn (model X.prog X.w) X.A X.env X.xe)(a:X.calm=true)(hi:PI X tg iter wi)(hg:PG X tg g)(L:PSs X body tb)(hs:∀x,foldedSetIterable iter X.env x=pure x:=by intro _;rfl):PS X (.For tg iter body [] pos) (U1 wi g tb):=by
 intro Z s U H D I h;refine wpAny_For (thn (hi Z s U H _ I h) λv s1 h1=>thn h1 λJ2 s2 h2=>?_) hs;obtain⟨it,P,p,J,H2,e,I2,T,y,f2,W,⟨m0,w0⟩,turn⟩:=h2;subst e;have G:∀{R:Hp},(∀b∈P,R b=none)->∀b∈P,UN X Z R b:=λhn b L=>⟨hn b L,(f2 b L).2⟩;refine codeAny_forLoop_any (λn l=>∃i Q R,Inv X Z Q R l/\p i l.heap/\(∀b∈P,R b=none)/\W i n Q R) ?_ m0 ⟨0,U,H2,I2,y,λb L=>(f2 b L).1,w0⟩;rintro n w ⟨i,σ3,j,I3,F,C,w3⟩;rcases turn i n σ3 j w3 with⟨stop,qn⟩|⟨go,N,hN,step⟩
 .refine j8 S (thn (T.done X rfl rfl rfl a i Z w σ3 j X.xe I3 (G C) F stop) λr s4 ⟨q,I4⟩=>?_)
  subst q;exact pB ⟨σ3,j,I4,qn⟩
 .refine j8 S (thn (T.item X rfl rfl rfl a i Z w σ3 j X.xe I3 (G C) F go) λr s4 ⟨u,q,h4⟩=>?_)
  subst q;refine j8 S<|thn h4 λ_ c ⟨x,H5,I5,r5,y5,E,t⟩=>?_;have k:=I5.pinned (G t)<|T.obj _ _ E;refine j8 S<|thn (hg _ c σ3 H5 x u _ k r5<|step x H5 y5) λ_ s6 ⟨σ6,H6,I6,q6⟩=>?_;refine j8 S<|thn (L _ s6 σ6 H6 _ I6 q6) λf z B=>?_
  have again:∀{σ7:St}{O:Hp},Inv X (Z++ VY P c.heap) σ7 O z->N σ7 O->∃m,m<n/\∃i Q R,Inv X Z Q R z/\p i z.heap/\(∀b∈P,R b=none)/\W i m Q R:=λ{σ7 O} M A=>by
   obtain⟨m',hm,w7⟩:=hN σ7 O A;refine⟨m',hm,i+1,σ7,O,M.unpinned,T.keep _ _ _ E λb L o e=>(M.pin (b,o)<|ZU _<|ZU _<|JR L e).1,λb L=>?_,w7⟩;obtain⟨o,e,d⟩:=T.obj _ _ E b L;exact(M.pin (b,o)<|ZU _<|ZU _<|JR L e).2.1
  cases f with
  |next=>obtain⟨σ7,O,M,A⟩:=B;exact again M A
  |cont=>obtain⟨σ7,O,M,A⟩:=B;exact again M A
  |brk=>obtain⟨σ7,O,M,B⟩:=B;exact⟨σ7,O,M.unpinned,B⟩
  |ret v=>obtain⟨x7,σ7,O,M,r7,B⟩:=B;exact⟨x7,σ7,O,M.unpinned,r7,B⟩
end
def Lx{K:PySem.W.Frag}{g:TG}{O:TS}{D:Ends}(J:xi)(I:J 0 U H)(F:∀i U H,i<=Z.length->J i U H->SqL K H a Z)(E:∀i x U H,Z[i]?=some x->J i U H->g x U H fun σ2 M=>O {D with nx:=J<|i+1,ct:=J<|i+1,bk:=D.nx} σ2 M)(hd:∀U H,J Z.length U H->D.nx U H):
  ∃W:Nat->Nat->St->Hp->Prop,(∃m,W 0 m U H)/\∀i m U H,W i m U H->
   ((Itl K a).stop i H/\D.nx U H)\/((Itl K a).go i H/\∃N:xj,(∀L G,N L G->∃R,R<m/\W (i+1) R L G)/\∀x G,(Itl K a).yld i H x G->g x U G fun σ2 M=>O {D with nx:=N,ct:=N,bk:=D.nx} σ2 M):=by
 refine⟨λi m U H=>m=Z.length-i/\i<=Z.length/\J i U H,⟨Z.length,by simp,Zc _,I⟩,?_⟩;rintro i m U H ⟨rfl,A,p⟩;have q:=F i U H A p
 by_cases hlt:i<Z.length
 .refine .inr ⟨⟨Z,Z[i],q,by simp[hlt]⟩,J<|i+1,λL G T=>⟨Z.length-(i+1),by omega,rfl,hlt,T⟩,λx G y=>?_⟩
  obtain⟨e,y⟩:=y;subst e;exact E i x U _ (y Z q) p
 .have e:i=Z.length:=by omega
  subst e;exact .inl ⟨⟨Z,q,ZG _⟩,hd U H p⟩
def Ei{K:PySem.W.Frag}{g:TG}{M:TS}{D:Ends}(Z:xi)(A:Z 0 U H)(E:∀i U H,i<=xs.length->Z i U H->SqT K H a xs)(B:∀i x U H,xs[i]?=some x->Z i U H->g x U H fun σ2 L=>M {D with nx:=Z<|i+1,ct:=Z<|i+1,bk:=D.nx} σ2 L)(hd:∀U H,Z xs.length U H->D.nx U H):
  ∃W:Nat->Nat->St->Hp->Prop,(∃m,W 0 m U H)/\∀i m U H,W i m U H->
   ((Itt K a).stop i H/\D.nx U H)\/((Itt K a).go i H/\∃N:xj,(∀G J,N G J->∃O,O<m/\W (i+1) O G J)/\∀x J,(Itt K a).yld i H x J->g x U J fun σ2 L=>M {D with nx:=N,ct:=N,bk:=D.nx} σ2 L):=by
 refine⟨λi m U H=>m=xs.length-i/\i<=xs.length/\Z i U H,⟨xs.length,by simp,Zc _,A⟩,?_⟩;rintro i m U H ⟨rfl,F,p⟩;have q:=E i U H F p
 by_cases hlt:i<xs.length
 .refine .inr ⟨⟨xs,xs[i],q,by simp[hlt]⟩,Z<|i+1,λG J R=>⟨xs.length-(i+1),by omega,rfl,hlt,R⟩,λx J y=>?_⟩
  obtain⟨e,y⟩:=y;subst e;exact B i x U _ (y xs q) p
 .have e:i=xs.length:=by omega
  subst e;exact .inl ⟨⟨xs,q,ZG _⟩,hd U H p⟩
def Fa{G:Int}{g:TG}{O:TS}{D:Ends}(Z:xi)(F:Z 0 U H)(E:∀i U H,i<n->Z i U H->g (.int<|G+i) U H fun σ2 M=>O {D with nx:=Z<|i+1,ct:=Z<|i+1,bk:=D.nx} σ2 M)(hd:∀U H,Z n U H->D.nx U H):
  ∃W:Nat->Nat->St->Hp->Prop,(∃m,W 0 m U H)/\∀i m U H,W i m U H->
   ((Itr G n).stop i H/\D.nx U H)\/((Itr G n).go i H/\∃N:xj,(∀L J,N L J->∃R,R<m/\W (i+1) R L J)/\∀x J,(Itr G n).yld i H x J->g x U J fun σ2 M=>O {D with nx:=N,ct:=N,bk:=D.nx} σ2 M):=by
 refine⟨λi m U H=>m=n-i/\i<=n/\Z i U H,⟨n,by simp,Zc _,F⟩,?_⟩;rintro i m U H ⟨rfl,A,p⟩
 by_cases hlt:i<n
 .refine .inr ⟨hlt,Z<|i+1,λL J T=>⟨n-(i+1),by omega,rfl,hlt,T⟩,λx J y=>?_⟩
  obtain⟨e,y⟩:=y;subst e y;exact E i U _ hlt p
 .have e:i=n:=by omega
  subst e;exact .inl ⟨ZG _,hd U H p⟩
abbrev R2:=V->V->Hp->VK->Prop
def OpR(X:Cx)(f:Value->Value->Sem Value)(r:R2):Prop:=
 ∀(Z:pU)(s:Shared)(U:St)(H:Hp)(x y:V)(v u:Value)(Q:VK),Inv X Z U H s->RelV x v->RelV y u->r x y H Q->
  wpAny (model X.prog X.w) X.A (f v u) (EP X Z U Q) X.xe s
def UnR(X:Cx)(f:Value->Sem Value)(r:V->Hp->VK->Prop):Prop:=
 ∀(Z:pU)(s:Shared)(U:St)(H:Hp)(x:V)(v:Value)(Q:VK),Inv X Z U H s->RelV x v->r x H Q->
  wpAny (model X.prog X.w) X.A (f v) (EP X Z U Q) X.xe s
def J1(X:Cx)(f:Value)(r:List V->Hp->VK->Prop):Prop:=
 ∀(Z:pU)(s:Shared)(U:St)(H:Hp)(J:xg)(G:pW)(Q:VK),Inv X Z U H s->Vals J G->r J H Q->
  wpAny (model X.prog X.w) X.A (call f G) (EP X Z U Q) X.xe s
def tOp(r:R2)(ta tb:TE):TE:=λU H Q=>ta U H λx J=>tb U J λy Z=>r x y Z Q
def tUn(r:V->Hp->VK->Prop)(ta:TE):TE:=λU H Q=>ta U H λx Z=>r x Z Q
def rI(C:Int->Int->Prop)(g:Int->Int->V):R2:=λx y H Q=>XB x λi=>XB y λj=>C i j/\Q (g i j) H
def rI.old(h:rI C g x y H Q):∃i j,x=.int i/\y=.int j/\C i j/\Q (g i j) H:=by
 replace h:=XB.old h;obtain⟨i,e,h⟩:=h;replace h:=XB.old h;obtain⟨j,Z,h⟩:=h;exact⟨i,j,e,Z,h⟩
def rI0(g:Int->Int->V):R2:=λx y H Q=>XB x λi=>XB y λj=>Q (g i j) H
def rI0.old(h:rI0 g x y H Q):∃i j,x=.int i/\y=.int j/\Q (g i j) H:=by
 replace h:=XB.old h;obtain⟨i,e,h⟩:=h;replace h:=XB.old h;obtain⟨j,Z,h⟩:=h;exact⟨i,j,e,Z,h⟩
def rU(g:Int->V):V->Hp->VK->Prop:=λx H Q=>∃i,x=.int i/\Q (g i) H
section
def A2(S:PE X a ta)(A:PE X b tb){R:V->V->Hp->Prop}(I:Inv X Z U H s)(h:ta U H λx N=>tb U N λy J=>R x y J){f:Value->Value->Sem Value}(F:∀v u M x y J,Inv X Z U J M->RelV x v->RelV y u->R x y J->wpAny (model X.prog X.w) X.A (f v u) Q X.xe M):
  wpAny (model X.prog X.w) X.A (eval a X.env) (λv L=>wpAny (model X.prog X.w) X.A (eval b X.env) (λu G=>wpAny (model X.prog X.w) X.A (f v u) Q X.xe G) X.xe L) X.xe s:=by
 refine thn (S Z s U H _ I h) λv O ⟨x,N,P,B,E⟩=>?_;refine thn (A Z O U N _ P E) λu M ⟨y,J,C,T,D⟩=>?_;exact F v u M x y J C B T D
def Y9(M:OpR X (binaryOp op) r)(O:PE X a ta)(N:PE X b tb):PE X (.BinOp a op b pos) (tOp r ta tb):=by
 intro Z s U H Q I h;exact wpAny_BinOp<|A2 O N I h λv u J x y T R L G q=>M Z J U T x y v u Q R L G q
def X0(M:UnR X (unaryOp op) r)(N:PE X a ta):PE X (.UnaryOp op a pos) (tUn r ta):=by
 intro Z s U H Q I h;exact UnaryOp_<|thn (N Z s U H _ I h) λv J ⟨x,R,O,G,L⟩=>M Z J U R x v Q O G L
def opI{g:Int->Int->Int}(rule:∀(i j:Int)(t u:Tok)(s:Shared)(Q:pV)(E:pV),C i j->Q (.int (g i j) s.toks) {s with toks:=s.toks+1}->wpAny (model X.prog X.w) X.A (f (.int i t)<|.int j u) Q E s):
  OpR X f (rI C λi j=>.int<|g i j):=by
 intro Z s U H x y v u Q I L G h;replace h:=rI.old h;obtain⟨i,j,rfl,rfl,M,q⟩:=h;obtain⟨t,rfl⟩:=L;obtain⟨J,rfl⟩:=G;exact rule i j t J s _ _ M ⟨.int<|g i j,H,I.tok _,⟨_,rfl⟩,q⟩
def AF{g:Int->Int->Int}(rule:∀(i j:Int)(t u:Tok)(s:Shared)(Q:pV)(E:pV),Q (.int (g i j) s.toks) {s with toks:=s.toks+1}->wpAny (model X.prog X.w) X.A (f (.int i t)<|.int j u) Q E s):
  OpR X f (rI0 λi j=>.int<|g i j):=by
 intro Z s U H x y v u Q I L G h;replace h:=rI0.old h;obtain⟨i,j,rfl,rfl,q⟩:=h;obtain⟨t,rfl⟩:=L;obtain⟨J,rfl⟩:=G;exact rule i j t J s _ _ ⟨.int<|g i j,H,I.tok _,⟨_,rfl⟩,q⟩
def Pc{g:Int->Int->Bool}(rule:∀(i j:Int)(t u:Tok)(s:Shared)(Q:pV)(E:pV),Q (.bool<|g i j) s->wpAny (model X.prog X.w) X.A (f (.int i t)<|.int j u) Q E s):
  OpR X f (rI0 λi j=>.bl<|g i j):=by
 intro Z s U H x y v u Q I L G h;replace h:=rI0.old h;obtain⟨i,j,rfl,rfl,q⟩:=h;obtain⟨t,rfl⟩:=L;obtain⟨J,rfl⟩:=G;exact rule i j t J s _ _ ⟨.bl<|g i j,H,I,rfl,q⟩
def vw(i j:Int):Prop:=0<j/\j<1073741824
def yb(i j:Int):Prop:=0<=j/\j<=1000000/\i.natAbs<2 ^ 64
def QT(i j:Int):Prop:=(-(2 ^ 64)<i/\i<2 ^ 64)\/(-(2 ^ 64)<j/\j<2 ^ 64)
def QT.ok(h:QT i j):IntMulOk i j:=by
 rcases h with⟨J,Z⟩|⟨J,Z⟩
 .exact .of_left (intBits_le_64 J Z)
 .exact .of_right (intBits_le_64 J Z)
def Vp:OpR X (binaryOp .Add) (rI0 λi j=>.int<|i+j):=AF λ_ _ _ _ _ _ _ q=>add_int q
def MV:OpR X (binaryOp .Sub) (rI0 λi j=>.int<|i-j):=AF λ_ _ _ _ _ _ _ q=>sub_int q
def Ul:OpR X (binaryOp .Mult) (rI QT λi j=>.int<|i*j):=opI λ_ _ _ _ _ _ _ Z q=>mul_int q Z.ok
def ES:OpR X (binaryOp .FloorDiv) (rI vw λi j=>.int<|i / j):=opI λi j _ _ _ _ _ Z q=>by
 have G:(0:Int)<j:=Z.1;have J:j<1073741824:=Z.2;exact floordiv_int (by omega) (by rw[Int.fdiv_eq_ediv_of_nonneg i (by omega)];exact q)<|.inl<|PyProof.noPylong_small<|by omega
def JQ:OpR X (binaryOp .Mod) (rI (λ_ j=>0<j) λi j=>.int<|i % j):=opI λi j _ _ _ _ _ Z q=>by
 have J:(0:Int)<j:=Z;exact mod_int' (by omega) (by rw[Int.fmod_eq_emod_of_nonneg i (by omega)];exact q)
def Kg:OpR X (binaryOp .Pow) (rI yb λi j=>.int<|i ^ j.toNat):=opI λ_ _ _ _ _ _ _ Z q=>pow_int_small Z.1 Z.2.1 Z.2.2 q
def P4:OpR X (inplaceOp .Add) (rI0 λi j=>.int<|i+j):=AF λ_ _ _ _ _ _ _ q=>iadd_int q
def P3:OpR X (inplaceOp .Mult) (rI QT λi j=>.int<|i*j):=opI λ_ _ _ _ _ _ _ Z q=>imul_int q Z.ok
def unI{g:Int->Int}(rule:∀(i:Int)(t:Tok)(s:Shared)(Q:pV)(E:pV),Q (.int (g i) s.toks) {s with toks:=s.toks+1}->wpAny (model X.prog X.w) X.A (f<|.int i t) Q E s):
  UnR X f (rU λi=>.int<|g i):=by
 intro Z s U H x v Q I J h;obtain⟨i,rfl,q⟩:=h;obtain⟨t,rfl⟩:=J;exact rule i t s _ _ ⟨.int<|g i,H,I.tok _,⟨_,rfl⟩,q⟩
def Ue:UnR X (unaryOp .USub) (rU λi=>.int<|-i):=unI λ_ _ _ _ _ q=>neg_int q
end
def Ce:V->V->Bool
 |.non,.non=>true|.non,.int _=>true|.int _,.non=>true|.non,.bl _=>true|.bl _,.non=>true|.non,.str _=>true|.str _,.non=>true
 |.int _,.int _=>true|.bl _,.bl _=>true|.str _,.str _=>true|.byt _,.byt _=>true
 |.int _,.str _=>true|.str _,.int _=>true|.bl _,.str _=>true|.str _,.bl _=>true
 |_,_=>false
def rEq:R2:=λx y H Q=>Ce x y=true/\Q (.bl<|decide<|x=y) H
def rNe:R2:=λx y H Q=>Ce x y=true/\Q (.bl<|!decide (x=y)) H
def En:decide (V.int i=V.int j)=(i==j):=by
 rw[j3];simp
def L8:decide (V.bl i=V.bl j)=(i==j):=by
 rw[j3];simp
def Em:decide (V.str i=V.str j)=(i==j):=by
 rw[j3];simp
def Eo:decide (V.byt i=V.byt j)=(i.toList==j.toList):=by
 rw[j3];cases i;cases j;simp
section
variable{a b c:Expr}{ta tb tc:TE}
def VN(I:Inv X Z U H s)(q:Q (.bl k) H)(e:k=k'):EP X Z U Q (.bool k') s:=by
 subst e;exact⟨.bl k,H,I,Y,q⟩
def Vi:OpR X (compareOp .Eq) rEq:=by
 intro M s U H x y v u Q I L Z h;obtain⟨G,q⟩:=h
 cases x with
 |non=>
  cases L
  cases y with
  |non=>cases Z;exact PySem.EqNone.eq_none_none<|VN I q<|by simp
  |bl j=>cases Z;exact PySem.EqNone.eq_none_bool<|VN I q<|by simp
  |int j=>obtain⟨J,rfl⟩:=Z;exact PySem.EqNone.eq_none_int<|VN I q<|by simp
  |str j=>obtain⟨J,rfl⟩:=Z;exact PySem.EqNone.eq_none_str<|VN I q<|by simp
  |_=>exact Zr (show false=true from G) Zi
 |bl i=>
  cases L
  cases y with
  |non=>cases Z;exact PySem.EqNone.eq_bool_none<|VN I q<|by simp
  |bl j=>cases Z;exact eq_bool<|VN I q L8
  |str j=>obtain⟨J,rfl⟩:=Z;exact PySem.EqMixed.eq_bool_str<|VN I q<|by simp
  |_=>exact Zr (show false=true from G) Zi
 |int i=>
  obtain⟨t,rfl⟩:=L
  cases y with
  |non=>cases Z;exact PySem.EqNone.eq_int_none<|VN I q<|by simp
  |int j=>obtain⟨J,rfl⟩:=Z;exact eq_int<|VN I q En
  |str j=>obtain⟨J,rfl⟩:=Z;exact PySem.EqMixed.eq_int_str<|VN I q<|by simp
  |_=>exact Zr (show false=true from G) Zi
 |str i=>
  obtain⟨t,rfl⟩:=L
  cases y with
  |non=>cases Z;exact PySem.EqNone.eq_str_none<|VN I q<|by simp
  |bl j=>cases Z;exact PySem.EqMixed.eq_str_bool<|VN I q<|by simp
  |int j=>obtain⟨J,rfl⟩:=Z;exact PySem.EqMixed.eq_str_int<|VN I q<|by simp
  |str j=>obtain⟨J,rfl⟩:=Z;exact eq_str<|VN I q Em
  |_=>exact Zr (show false=true from G) Zi
 |byt i=>
  obtain⟨t,rfl⟩:=L
  cases y with
  |byt j=>obtain⟨J,rfl⟩:=Z;exact W.eq_bytes<|VN I q Eo
  |_=>exact Zr (show false=true from G) Zi
 |_=>cases y <;> exact Zr (show false=true from G) Zi
def UJ:OpR X (compareOp .NotEq) rNe:=by
 intro M s U H x y v u Q I L Z h;obtain⟨G,q⟩:=h
 cases x with
 |non=>
  cases L
  cases y with
  |non=>cases Z;exact PySem.EqNone.ne_none_none<|VN I q<|by simp
  |bl j=>cases Z;exact PySem.EqNone.ne_none_bool<|VN I q<|by simp
  |int j=>obtain⟨J,rfl⟩:=Z;exact PySem.EqNone.ne_none_int<|VN I q<|by simp
  |str j=>obtain⟨J,rfl⟩:=Z;exact PySem.EqNone.ne_none_str<|VN I q<|by simp
  |_=>exact Zr (show false=true from G) Zi
 |bl i=>
  cases L
  cases y with
  |non=>cases Z;exact PySem.EqNone.ne_bool_none<|VN I q<|by simp
  |bl j=>cases Z;exact ne_bool<|VN I q<|congrArg not L8
  |str j=>obtain⟨J,rfl⟩:=Z;exact PySem.EqMixed.ne_bool_str<|VN I q<|by simp
  |_=>exact Zr (show false=true from G) Zi
 |int i=>
  obtain⟨t,rfl⟩:=L
  cases y with
  |non=>cases Z;exact PySem.EqNone.ne_int_none<|VN I q<|by simp
  |int j=>obtain⟨J,rfl⟩:=Z;exact ne_int<|VN I q<|congrArg not En
  |str j=>obtain⟨J,rfl⟩:=Z;exact PySem.EqMixed.ne_int_str<|VN I q<|by simp
  |_=>exact Zr (show false=true from G) Zi
 |str i=>
  obtain⟨t,rfl⟩:=L
  cases y with
  |non=>cases Z;exact PySem.EqNone.ne_str_none<|VN I q<|by simp
  |bl j=>cases Z;exact PySem.EqMixed.ne_str_bool<|VN I q<|by simp
  |int j=>obtain⟨J,rfl⟩:=Z;exact PySem.EqMixed.ne_str_int<|VN I q<|by simp
  |str j=>obtain⟨J,rfl⟩:=Z;exact ne_str<|VN I q<|congrArg not Em
  |_=>exact Zr (show false=true from G) Zi
 |byt i=>
  obtain⟨t,rfl⟩:=L
  cases y with
  |byt j=>obtain⟨J,rfl⟩:=Z;exact W.ne_bytes<|VN I q<|congrArg not Eo
  |_=>exact Zr (show false=true from G) Zi
 |_=>cases y <;> exact Zr (show false=true from G) Zi
def C1:OpR X (compareOp .Lt) (rI0 λi j=>.bl<|decide<|i<j):=Pc λ_ _ _ _ _ _ _ q=>lt_int q
def XY:OpR X (compareOp .LtE) (rI0 λi j=>.bl<|decide<|i<=j):=Pc λ_ _ _ _ _ _ _ q=>le_int q
def NM:OpR X (compareOp .Gt) (rI0 λi j=>.bl<|decide<|j<i):=Pc λ_ _ _ _ _ _ _ q=>gt_int q
def Qh:OpR X (compareOp .GtE) (rI0 λi j=>.bl<|decide<|j<=i):=Pc λ_ _ _ _ _ _ _ q=>ge_int q
def FL:OpR X (compareOp .In) (λx y H Q=>∃i j,x=.str i/\y=.str j/\Q (.bl<|!(Builtin.Str.occurrences j i 0 j.length 1).isEmpty) H):=by
 intro Z s U H x y v u Q I G J h;obtain⟨i,j,rfl,rfl,q⟩:=h;obtain⟨t,rfl⟩:=G;obtain⟨L,rfl⟩:=J;exact in_str<|VN I q rfl
def Wj:OpR X (compareOp .Is) (λx y H Q=>y=.non/\Q (.bl<|decide<|x=.non) H):=by
 intro J s U H x y v u Q I Z G h;obtain⟨rfl,q⟩:=h;cases G;refine is_none_gen<|VN I q ?_;cases x <;> first
  |(cases Z;rfl)
  |(obtain⟨t,rfl⟩:=Z;rfl)
def OpR.or(h:OpR X f r)(L:OpR X f r'):OpR X f (λx y H Q=>r x y H Q\/r' x y H Q):=by
 intro Z s U H x y v u Q I G J q;rcases q with q|q
 .exact h Z s U H x y v u Q I G J q
 .exact L Z s U H x y v u Q I G J q
def Yz(b:Expr)(h:op≠.In:=by decide)(Z:op≠.NotIn:=by decide):behindInMarks op b=false:=by
 have G:(op==CmpOp.In)=false:=by cases op <;> first|rfl|exact Zr Y h
 have J:(op==CmpOp.NotIn)=false:=by cases op <;> first|rfl|exact Zr Y Z
 cases b <;> simp[behindInMarks,G,J]
def Jj(M:OpR X (compareOp op) r)(R:PE X a ta)(O:PE X b tb)(N:behindInMarks op b=false):PE X (.Compare a [op] [b] pos) (tOp r ta tb):=by
 intro Z s U H Q I h;exact wpAny_Compare1 (A2 R O I h λv u J x y B T L G q=>M Z J U B x y v u Q T L G q) N
def QZ(t:TE):TT:=λU H Q=>t U H λx Z=>∃k,x=.bl k/\Q k Z
def Ys(B:OpR X (compareOp op) r)(F:PE X a ta)(E:PE X b tb)(D:behindInMarks op b=false):PT X (.Compare a [op] [b] pos) (QZ<|tOp r ta tb):=by
 intro Z s U H Q I h
 refine wpAny_isTrue_Compare1 (thn (F Z s U H _ I h) λv G ⟨x,q,C,N,T⟩=>thn (E Z G U q _ C T) λu J ⟨y,j,S,M,R⟩=>
  thn (B Z J U j x y v u _ S N M R) λc t ⟨z,P,A,L,k,e,O⟩=>?_) D
 subst e;cases L;exact jz ⟨P,A,O⟩
def IP(r r':R2)(ta tb tc:TE):TE:=λU H Q=>ta U H λx M=>tb U M λy L=>r x y L λz Z=>∃k,z=.bl k/\
 (if k=true then tc U Z λJ G=>r' y J G Q else Q (.bl false) Z)
def KZ(q:OpR X (compareOp op) r)(J:OpR X (compareOp op') r')(p:PE X a ta)(g:PE X b tb)(m:PE X c tc)(t:lastMarks [op,op'] [b,c]=false:=by with_unfolding_all rfl):PE X (.Compare a [op,op'] [b,c] pos) (IP r r' ta tb tc):=by
 intro Z s U H Q I h
 refine Compare_chain (thn (p Z s U H _ I h) λv E ⟨x,n,l,S,j⟩=>chain_link (thn (g Z E U n _ l j) λu D ⟨y,i,w,G,P⟩=>
  thn (q Z D U i x y v u _ w S G P) λd B ⟨z,N,M,A,k,e,L⟩=>?_)) t
 subst e;cases A;refine jz ?_
 cases k with
 |false=>exact ite_ff ⟨.bl false,N,M,Y,L⟩
 |true=>exact ite_tt<|chain_last<|thn (m Z B U N _ M L) λR T ⟨O,o,f,F,C⟩=>J Z T U o y O u R Q f G F C
def Xy(g:OpR X (compareOp op) r)(J:OpR X (compareOp op') r')(l:PE X a ta)(w:PE X b tb)(f:PE X c tc)(p:lastMarks [op,op'] [b,c]=false:=by with_unfolding_all rfl):PT X (.Compare a [op,op'] [b,c] pos) (QZ<|IP r r' ta tb tc):=by
 intro Z s U H Q I h
 refine isTrue_chain (thn (l Z s U H _ I h) λv E ⟨x,H1,I1,C,t⟩=>test_link (thn (w Z E U H1 _ I1 t) λu D ⟨y,H2,I2,G,q⟩=>
  thn (g Z D U H2 x y v u _ I2 C G q) λd B ⟨z,N,M,S,k,e,L⟩=>?_)) p
 subst e;cases S;refine jz ?_
 cases k with
 |false=>
  obtain⟨k',i,m⟩:=L;cases i;exact ite_ff ⟨N,M,m⟩
 |true=>
  refine ite_tt<|test_last<|thn (f Z B U N _ M L) λR T ⟨O,H4,I4,A,j⟩=>thn (J Z T U H4 y O u R _ I4 G A j) λd' s5 ⟨z2,H5,n,F,k2,o,P⟩=>?_;subst o;cases F;exact jz ⟨H5,n,P⟩
def Wq:(sizeLine:Nat)<2 ^ 63:=by rw[pJ];decide
def Xl:OpR X (binaryOp .Add) (λx y H Q=>∃i j,x=.str i/\y=.str j/\i.length+j.length<=sizeLine/\Q (.str<|i++ j) H):=by
 intro Z s U H x y v u Q I L G h;obtain⟨i,j,rfl,rfl,M,q⟩:=h;obtain⟨t,rfl⟩:=L;obtain⟨J,rfl⟩:=G;exact add_str (λJ N=>⟨.str<|i++ j,H,I.tok _,⟨_,rfl⟩,q⟩) M
def vals1(r:Vals [x] Z):∃u,Z=[u]/\RelV x u:=by
 cases r with
 |cons G J=>cases J;exact⟨_,Y,G⟩
def vals2(r:Vals [x,y] J):∃u Z,J=[u,Z]/\RelV x u/\RelV y Z:=by
 cases r with
 |cons N M=>
  cases M with
  |cons L G=>cases G;exact⟨_,_,Y,N,L⟩
end
structure Dw(h:Heap)(x dx C:Addr)(mA:Str->Option Value):Prop where
 obj:h.get? x=some (W.instObj C dx)
 ns:h.Ns1 dx mA
 ne:dx≠x
set_option tactic.hygienic true in
def FU{h:Heap}(n:h.Ns1 R mA):∃J,h.get? R=some J/\∀name,W.lookIn name J=some (mA name):=by
 obtain⟨o,G,B,M,hd,O,_,N⟩:=n;refine⟨o,M,λname=>?_⟩;have e:=N name;unfold nsFind findBy at e;rw[<-Array.find?_toList]at e;unfold W.lookIn;rw[hd];dsimp only
 split
 .rename_i y q
  rw[q]at e;exact congrArg some e
 .rename_i q
  rw[q]at e
  have a:G.toList.any (·.refKey)=false:=by
   rw[pK];intro y L;obtain⟨z,t,Z⟩:=O y<|Array.mem_toList_iff.mp L;simp[DictEntry.refKey,Z]
  have T:¬G.toList.any (·.refKey)=true:=by rw[a];exact Zi
  rw[Zq T];exact congrArg some e
def Dw.look(I:Dw h x L C mA):∃Z,W.InstAt h x (W.instObj C L) C (some Z)/\∀name,W.lookIn name Z=some (mA name):=
 let⟨Z,J,G⟩:=FU I.ns
 ⟨Z,⟨I.obj,rfl,rfl,J⟩,G⟩
section
variable{K:W.Frag}
def P9(X:K.In s.heap)(I:Dw s.heap x T C mA)(N:W.plainGet K C name=true)(M:W.hasDictIn K C=true)(O:W.findIn K (.ref C) name=some none)(G:mA name=some v)(Z:W.handedIn v=true)(h:Q v {s with toks:=s.toks+1}):
  wpAny (model prog w) A (getAttr (.ref x) name expr) Q E s:=by
 obtain⟨R,J,L⟩:=I.look;exact W.get_value X J (W.plainGet_of N).1 (W.findObj_own M O Y (by rw[L,G])) Z h
def Lq(X:K.In s.heap)(I:Dw s.heap x R C mA)(Z:W.plainGet K C name=true)(O:W.findIn K (.ref C) name=some (some<|.ref f))(M:W.isFn K (.ref f)=true)(L:mA name=none)(h:Q (.ref f,[.ref x]) s):
  wpAny (model prog w) A (getMethod (.ref x) name pl) Q E s:=by
 obtain⟨G,J,N⟩:=I.look;exact W.method_fn X J (W.plainGet_of Z).1 (W.plainGet_of Z).2 O (beq_iff_eq.mp M) (by show(W.lookIn name G).map (·.isSome)=some false;rw[N,L];rfl) h
def Ot(X:K.In s.heap)(I:Dw s.heap x M C mA)(U:W.findIn K (.ref C) "__setattr__"=some (some<|.builtin "object.__setattr__"))(P:W.plainOver K C=true)(F:W.takerIn K C name=some none)(j:W.hasDictIn K C=true)(D:PySem.Within mA T)(S:T.length<=sizeLine)(h:∀L,Dw L x M C (λy=>if y=name then some v else mA y)->Heap.SameBut M s.heap L->Q () {s with heap:=L,toks:=s.toks+2}):
  wpAny (model prog w) A (setAttr (.ref x) name v) Q E s:=by
 obtain⟨m,J,k⟩:=I.look;refine W.set_plain X J U<|W.osa_open (s:={s with toks:=s.toks+1}) (r:=none) X J P F λb=>?_;obtain⟨p,z,O⟩:=W.any_some j;have B:s.heap.get? x=some ⟨.ref C,some M,.plain,#[]⟩:=I.obj;refine Zl<|Zm<|Zl<|Zl<|wpAny_loadPart B<|Zl<|W.Looks.here (s:={s with toks:=s.toks+1}) (W.looks_clsIn X z) ?_;rw[O];refine Zm (a:=some M)<|Zl<|Zm<|Zl ?_;refine wpAny_nsSet1 (s:={s with toks:=s.toks+1}) I.ns λL G Z=>?_;obtain⟨g,q,t,N,hdD,R⟩:=G.count<|PySem.Within.cons name v D;refine Zl<|wpAny_lookBehind N (by rw[hdD];exact pastItsLine_dict<|Zb R (by rw[Zf];omega)) ?_;exact Zm<|h _ ⟨(Z.2 _<|Zs I.ne).trans I.obj,G,I.ne⟩ Z
def LI(X:K.In s.heap)(J:W.makesIn K C=true)(G:W.findIn K (.ref C) "__init__"=some (some<|.ref f))(L:W.typeIn K (.ref f)=some (.type "function"))(h:codeAny (model prog w) (A.under<|.builtin "type.__call__" ⟨.ref C::Z,kw⟩) (.call (.ref f) ⟨.ref (s.heap.objs.size+1)::Z,kw⟩) (W.InitBack (s.heap.objs.size+1) R)
   {s with heap:=(s.heap.push W.emptyDict).push (W.instObj C s.heap.objs.size)}):
  codeAny (model prog w) A (.call (.ref C) ⟨Z,kw⟩) R s:=by
 obtain⟨N,g,d,t,M⟩:=s;exact W.make_core (W.makes_of X J) (W.looks_findIn X G) (λself=>W.bind_fn X self L) (.inl Y) h
end
def VT(f:Str)(v:V):List (Str×V)->List (Str×V)
 |[]=>[(f,v)]
 |(g,x)::r=>if g=f then(g,v)::r else(g,x)::VT f v r
theorem W6(f g:Str)(v:V):∀Z:List (Str×V),(VT f v Z).lookup g=if g=f then some v else Z.lookup g
 |[]=>by
  show List.lookup g [(f,v)]=_
  by_cases h:g=f
  .have hb:(g==f)=true:=beq_iff_eq.mpr h
   simp only[List.lookup,hb,Zp h]
  .have hb:(g==f)=false:=beq_eq_false_iff_ne.mpr h
   simp only[List.lookup,hb,Zq h]
 |(k,x)::r=>by
  have ih:=W6 f g v r;rw[show VT f v ((k,x)::r)=(if k=f then(k,v)::r else(k,x)::VT f v r)from rfl]
  by_cases hk:k=f
  .rw [Zp hk]
   by_cases h:g=k
   .have hb:(g==k)=true:=beq_iff_eq.mpr h
    simp only[List.lookup,hb,Zp (h.trans hk)]
   .have hb:(g==k)=false:=beq_eq_false_iff_ne.mpr h
    simp only[List.lookup,hb,Zq (λe:g=f=>h<|e.trans hk.symm)]
  .rw [Zq hk]
   by_cases h:g=k
   .have hb:(g==k)=true:=beq_iff_eq.mpr h
    simp only[List.lookup,hb,Zq (λe:g=f=>hk<|h.symm.trans e)]
   .have hb:(g==k)=false:=beq_eq_false_iff_ne.mpr h
    simp only[List.lookup,hb];exact ih
theorem Ws(f:Str)(v:V):∀Z:List (Str×V),f∈(VT f v Z).map (·.1)/\∀g,g∈Z.map (·.1)->g∈(VT f v Z).map (·.1)
 |[]=>⟨by simp[VT],λg h=>by simp at h⟩
 |(k,x)::r=>by
  obtain⟨G,J⟩:=Ws f v r;rw[show VT f v ((k,x)::r)=(if k=f then(k,v)::r else(k,x)::VT f v r)from rfl]
  by_cases hk:k=f
  .rw [Zp hk]
   subst hk;exact⟨by simp,λg h=>by simpa using h⟩
  .rw [Zq hk]
   refine⟨?_,λg h=>?_⟩
   .rw [ZV]
    exact ZM _ G
   .rw [ZV]at h |-
    rcases Zd.mp h with e|e
    .exact Zd.mpr (.inl e)
    .exact ZM _ (J g e)
theorem W7(f:Str)(v:V):∀Z:List (Str×V),(VT f v Z).length<=Z.length+1
 |[]=>by simp[VT]
 |(k,x)::r=>by
  have ih:=W7 f v r;rw[show VT f v ((k,x)::r)=(if k=f then(k,v)::r else(k,x)::VT f v r)from rfl]
  by_cases hk:k=f
  .rw [Zp hk,Zf,Zf];omega
  .rw [Zq hk,Zf,Zf];omega
def Ud.some_of(r:Ud (some v) o):∃u,o=some u/\RelV v u:=by
 cases o with
 |none=>exact(show False from r).elim
 |some u=>exact⟨u,Y,r⟩
def Ud.none_of(r:Ud none o):o=none:=by
 cases o with
 |none=>rfl
 |some u=>exact(show False from r).elim
def FY(r:RelV v u):W.handedIn u=true:=by
 cases v with
 |non=>cases(show u=Value.none from r);rfl
 |bl b=>cases(show u=Value.bool b from r);rfl
 |int i=>obtain⟨t,e⟩:=(show ∃t,u=Value.int i t from r);cases e;rfl
 |str x=>obtain⟨t,e⟩:=(show ∃t,u=Value.str x t from r);cases e;rfl
 |byt b=>obtain⟨t,e⟩:=(show ∃t,u=Value.bytes b t from r);cases e;rfl
 |flt b=>obtain⟨t,e⟩:=(show ∃t,u=Value.float b t from r);cases e;rfl
 |ref a=>cases(show u=Value.ref a from r);rfl
 |ty n=>cases(show u=Value.type n from r);rfl
section
def Gd(J:HOk P w H h)(e:H a=some (.ins C G fs)):∃Z,Dw h a G C Z/\(∀f,Ud (fs.lookup f)<|Z f)/\PySem.Within Z (fs.map (·.1))/\fs.length<=1000/\H G=some (.own a):=by
 obtain⟨d,z,M,L,Z,n,r,q⟩:=(show VQ P w H h a (.ins C G fs)from J a _ e);exact⟨Z,⟨L,n,M⟩,r,q,z,d⟩
end
structure Cls(K:W.Frag)(C:Addr):Prop where
 pg:W.plainGet K C Str.empty=true
 hd:W.hasDictIn K C=true
 po:W.plainOver K C=true
 sa:W.findIn K (.ref C) "__setattr__"=some (some (.builtin "object.__setattr__"))
def Cls.get{K:W.Frag}(c:Cls K C)(f:Str):W.plainGet K C f=true:=c.pg
def VG(K:W.Frag)(C:Addr)(f:Str):Prop:=W.findIn K (.ref C) f=some none
def VG.taker{K:W.Frag}(n:VG K C f):W.takerIn K C f=some none:=by
 unfold W.takerIn;rw[show W.findIn K (.ref C) f=some none from n]
 rfl
structure VM(K:W.Frag)(C:Addr)(m:Str)(f:Addr):Prop where
 at_:W.findIn K (.ref C) m=some (some (.ref f))
 fn:W.isFn K (.ref f)=true
 kp:W.keepIn K (.ref f)=true
section
def TX(I:Inv X Z U H s)(e:H a=some (.ins C N fs))(c:Cls X.K C)(n:VG X.K C f)(l:fs.lookup f=some v)(h:∀u J,Inv X Z U H J->RelV v u->Q u J):wpAny (model X.prog X.w) A (getAttr (.ref a) f b) Q E s:=by
 obtain⟨L,O,r,_,_,_⟩:=Gd I.hok e;obtain⟨u,M,G⟩:=Ud.some_of (v:=v) (o:=L f) (by rw[<-l];exact r f);exact P9 I.kIn O (c.get f) c.hd n M (FY G)<|h u _ (I.tok _) G
def TV(I:Inv X Z U H s)(e:H a=some (.ins C L fs))(c:Cls X.K C)(k:VM X.K C m g)(l:fs.lookup m=none)(h:Q (.ref g,[.ref a]) s):wpAny (model X.prog X.w) A (getMethod (.ref a) m pl) Q E s:=by
 obtain⟨J,O,r,_,_,_⟩:=Gd I.hok e;have G:J m=none:=Ud.none_of (by rw[<-l];exact r m);exact Lq I.kIn O (c.get m) k.at_ k.fn G h
def Xf(I:Inv X Z U H s)(e:H a=some (.ins C J fs))(c:Cls X.K C)(n:VG X.K C f)(t:fs.length<1000)(B:RelV y u)(h:∀M,Inv X Z U (upd H a<|.ins C J<|VT f y fs) M->Q () M):wpAny (model X.prog X.w) A (setAttr (.ref a) f u) Q E s:=by
 obtain⟨N,O,r,L,_,R⟩:=Gd I.hok e;have D:(fs.map (·.1)).length<=sizeLine:=by rw[ZA,pJ];omega
 refine Ot I.kIn O c.sa c.po n.taker c.hd L D λP G T=>h _ ?_;have hd:∃o,P.get? J=some o:=let⟨o,_,_,j,_⟩:=G.ns;⟨o,j⟩
 refine I.write (x:=a) (e:=J) (by rw[e];exact True.intro) (.inr R) (λb q S z=>(T.2 b S).trans z) hd ?_;refine⟨by rw[Yg O.ne];exact R,?_,O.ne,G.obj,_,G.ns,λg=>?_,λg F=>?_⟩
 .have:=W7 f y fs;omega
 .show Ud ((VT f y fs).lookup g) (if g=f then some u else N g)
  rw[W6]
  by_cases q:g=f
  .rw [Zp q,Zp q];exact B
  .rw [Zq q,Zq q];exact r g
 .by_cases q:g=f
  .rw [q];exact(Ws f y fs).1
  .refine (Ws f y fs).2 g (L g λz=>F ?_)
   show(if g=f then some u else N g)=none;rw[Zq q];exact z
def Inv.made(I:Inv X Z U H s):Inv X Z U (upd (upd H s.heap.objs.size<|.own<|s.heap.objs.size+1) (s.heap.objs.size+1)<|.ins C s.heap.objs.size [])
  {s with heap:=(s.heap.push W.emptyDict).push (W.instObj C s.heap.objs.size)}:=by
 have G:(s.heap.push W.emptyDict).get? s.heap.objs.size=some W.emptyDict:=ZY s.heap rfl
 have O:((s.heap.push W.emptyDict).push<|W.instObj C s.heap.objs.size).get? (s.heap.objs.size+1)=some (W.instObj C s.heap.objs.size):=by
  have:=ZY (s.heap.push W.emptyDict) (o:=W.instObj C s.heap.objs.size) rfl
  rwa [jI]at this
 have N:(s.heap.push W.emptyDict).Ns s.heap.objs.size (λ_=>none):=⟨W.emptyDict,#[],_,G,rfl,(λe M=>Zr M<|by simp),λ_=>rfl⟩;have R:=I.laid (a:=s.heap.objs.size) (o:=.own<|s.heap.objs.size+1) (h':=s.heap.push W.emptyDict) (t':=s.toks) (λb u q=>ZE _ q) (ZG _) ⟨_,G⟩;refine R.laid (a:=s.heap.objs.size+1) (o:=.ins C s.heap.objs.size []) (t':=s.toks) (λb u q=>ZE _ q) (kF<|jI _ _) ?_;have J:s.heap.objs.size≠s.heap.objs.size+1:=Ze<|jj _;refine⟨by rw[Yg J,Yf],Zc _,J,O,λ_=>none,(Heap.Ns1.of_empty N).at λo q=>ZE _ q,λ_=>True.intro,λy L=>Zr Y L⟩
def QP(J:attributeBase e f env (eval e env)=eval e env)(h:wpAny (model prog w) A (eval e env) (λo Z=>wpAny (model prog w) A (getAttr o f true) Q E Z) E s):wpAny (model prog w) A (eval (.Attribute e f pos) env) Q E s:=
 Attribute_any_ h (by rw[arm_eval_Attribute,J])
end
def CY(K:W.Frag)(ta:TE)(f:Str):TE:=λU H Q=>ta U H λx J=>JA x λa=>∃C G Z v,J a=some (.ins C G Z)/\Cls K C/\VG K C f/\Z.lookup f=some v/\Q v J
def vD(K:W.Frag)(ta tv:TE)(f:Str):TS:=λD U H=>tv U H λy L=>ta U L λx G=>∃a C J Z,x=.ref a/\G a=some (.ins C J Z)/\Cls K C/\VG K C f/\Z.length<1000/\
 D.nx U (upd G a<|.ins C J<|VT f y Z)
def ya(X:Cx)(op:Operator)(rd:V->V->Hp->VK->Prop):Prop:=
 ∀(Z:pU)(s:Shared)(U:St)(H:Hp)(x y:V)(u v:Value)(Q:VK),Inv X Z U H s->RelV x u->RelV y v->rd x y H Q->wpAny (model X.prog X.w) X.A (inplaceOp op u v) (EP X Z U Q) X.xe s
def PB(K:W.Frag)(ta tv:TE)(rd:V->V->Hp->VK->Prop)(f:Str):TS:=λD U H=>ta U H λx M=>∃a C N G v,x=.ref a/\M a=some (.ins C N G)/\Cls K C/\VG K C f/\G.lookup f=some v/\
 tv U M λy O=>rd v y O λz L=>∃J Z,L a=some (.ins C J Z)/\Z.length<1000/\D.nx U (upd L a<|.ins C J<|VT f z Z)
section
def Yt(L:PE X e ta)(M:attributeBase e f X.env (eval e X.env)=eval e X.env):PE X (.Attribute e f pos) (CY X.K ta f):=by
 intro Z s U H Q I h;refine QP M<|thn (L Z s U H _ I h) λu F ⟨x,B,T,J,q⟩=>?_;replace q:=JA.old q;obtain⟨a,N,C,S,A,v,O,c,n,l,q⟩:=q;subst N;obtain rfl:u=Value.ref a:=J;exact TX T O c n l λD E R G=>⟨v,B,R,G,q⟩
def VX(T:PE X o ta)(O:PE X value tv)(R:swapsWith value (some<|.Attribute o f pos') pos.line X.env=pure false):PS X (.Assign [.Attribute o f pos'] value pos) (vD X.K ta tv f):=by
 intro Z s U H D I h;refine plainObj_wpAny_Assign_Attribute (thn (O Z s U H _ I h) λu J ⟨y,P,S,G,q⟩=>thn (T Z J U P _ S q) λN j ⟨x,m,A,L,a,C,t,z,B,E,c,n,l,M⟩=>?_) R;subst B;obtain rfl:N=Value.ref a:=L;exact Xf A E c n l G λQ F=>⟨U,_,F,M⟩
def FH(Q:PE X o ta)(P:PE X value tv)(J:ya X op rd):PS X (.AugAssign (.Attribute o f tpos) op value pos) (PB X.K ta tv rd f):=by
 intro Z s U H D I h;refine wpAny_AugAssign_AttributeAny<|thn (Q Z s U H _ I h) λA s1 ⟨x,e,r,T,a,C,dx,fs,v,t,m,c,n,l,q⟩=>?_;subst t;obtain rfl:A=Value.ref a:=T;refine TX r m c n l λu N w B=>thn (P Z N U e _ w q) λL M ⟨y,b,d,R,F⟩=>thn (J Z M U b v y u L _ d B R F) λi s4 ⟨z,H3,p,O,g,j,G,S,E⟩=>?_;exact Xf p G c n S O λs5 k=>⟨U,_,k,E⟩
def vM:V->V->Hp->VK->Prop:=λx y H Q=>∃i j,x=.int i/\y=.int j/\Q (.int<|i+j) H
def Ak:ya X .Add vM:=by
 rintro J s U H x y u v Q I L G ⟨i,j,rfl,rfl,q⟩;obtain⟨t,rfl⟩:=(show ∃t,u=Value.int i t from L);obtain⟨Z,rfl⟩:=(show ∃Z,v=Value.int j Z from G);exact PyProof.Rows.iadd_int ⟨.int<|i+j,H,I.tok _,⟨_,rfl⟩,q⟩
end
section
variable{H:Hp}
inductive Xr(K:W.Frag)(H:Hp):V->Value->Prop where
 |non:Xr K H .non (.type "NoneType")
 |bl (x:Bool):Xr K H (.bl x) (.type "bool")
 |int (i:Int):Xr K H (.int i) (.type "int")
 |str (x:Str):Xr K H (.str x) (.type "str")
 |flt (x:UInt64):Xr K H (.flt x) (.type "float")
 |lst {a:Addr}{xs:List V}(e:H a=some (.lst xs)):Xr K H (.ref a) (.type "list")
 |frz {a:Addr}{o:Obj}{xs:List V}(e:H a=some (.frz o (.lst xs))):Xr K H (.ref a) (.type "list")
 |tup {a:Addr}{xs:List V}(e:H a=some (.tup xs)):Xr K H (.ref a) (.type "tuple")
 |dK {a:Addr}{kvs:List (Key×V)}(e:H a=some (.dK kvs)):Xr K H (.ref a) (.type "dict")
 |dT {a:Addr}{kvs:List (List Key×V)}(e:H a=some (.dT kvs)):Xr K H (.ref a) (.type "dict")
 |ins {a C dx:Addr}{fs:List (Str×V)}(e:H a=some (.ins C dx fs)) (cl:Cls K C) (ha:W.findIn K (.ref C) "__class__"=some (some (.builtin "object.__class__")))
   (hn:W.specialIn K (.builtin "object.__class__") "__get__"=some (some (.builtin "getset_descriptor.__get__"))) (htk:W.takesIn K (.builtin "object.__class__")=some true)
   (hm:W.mroIn K C (.type "object")=some true):Xr K H (.ref a) (.ref C)
def FV(I:Inv X B U H s)(Z:RelV x u)(ty:Xr X.K H x t)(e:W.kitOne X.K t c=some b)(h:∀F,Q (.bool b) {s with toks:=F}):
  wpAny (model X.prog X.w) A (call (.builtin "isinstance") [u,c]) Q E s:=by
 cases ty with
 |non=>cases(show u=Value.none from Z);exact qh W.kitx_none I.kIn True.intro e (λz=>nomatch z) h
 |bl y=>cases(show u=Value.bool y from Z);exact qh W.kitx_bool I.kIn True.intro e (λz=>nomatch z) h
 |int i=>obtain⟨t,q⟩:=(show ∃t,u=Value.int i t from Z);cases q;exact qh W.kitx_int I.kIn True.intro e (λz=>nomatch z) h
 |str y=>obtain⟨t,q⟩:=(show ∃t,u=Value.str y t from Z);cases q;exact qh W.kitx_str I.kIn True.intro e (λz=>nomatch z) h
 |flt y=>obtain⟨t,q⟩:=(show ∃t,u=Value.float y t from Z);cases q;exact qh W.kitx_float I.kIn True.intro e (λz=>nomatch z) h
 | @lst a N G=>
  cases(show u=Value.ref a from Z);obtain⟨_,_,n,_,L⟩:=(show VQ X.prog X.w H s.heap a (.lst N)from I.hok a _ G);exact qh W.kitx_list I.kIn ⟨_,L,Y⟩ e (λz=>nomatch z) h
 | @frz a S N G=>
  cases(show u=Value.ref a from Z);obtain⟨_,_,_,n,_,L⟩:=(show VQ X.prog X.w H s.heap a (.frz S<|.lst N)from I.hok a _ G);exact qh W.kitx_list I.kIn ⟨_,L,Y⟩ e (λz=>nomatch z) h
 | @tup a N G=>
  cases(show u=Value.ref a from Z);obtain⟨_,_,_,p⟩:=(show VQ X.prog X.w H s.heap a (.tup N)from I.hok a _ G);obtain⟨o,L,_,R,_⟩:=p;exact qh W.kitx_tuple I.kIn ⟨o,L,R⟩ e (λz=>nomatch z) h
 | @dK a M G=>
  cases(show u=Value.ref a from Z);obtain⟨_,_,d,_,p⟩:=(show VQ X.prog X.w H s.heap a (.dK M)from I.hok a _ G);obtain⟨o,g,k,L,R,_⟩:=p;exact qh W.kitx_dict I.kIn ⟨o,L,R.1⟩ e (λz=>nomatch z) h
 | @dT a M G=>
  cases(show u=Value.ref a from Z);obtain⟨_,_,N,_,o,g,k,L,R,_⟩:=(show VQ X.prog X.w H s.heap a (.dT M)from I.hok a _ G);exact qh W.kitx_dict I.kIn ⟨o,L,R.1⟩ e (λz=>nomatch z) h
 | @ins a C r w G D m P T j=>
  cases(show u=Value.ref a from Z);obtain⟨v,O,_⟩:=Gd I.hok G;obtain⟨f,J,_⟩:=O.look;exact qh (W.kitx_own (D.get _) D.hd m P T j) I.kIn J e (λz=>nomatch z) h
end
structure Vn(k:Nat)(A:Around):Prop where
 hd:A.handled=none
 dp:A.depth+3*k+5<recursionLimit
 un:A.units+16*k+200<cLine
 gd:A.guards=some []
def Vn.mono(r:Vn k A)(h:j<=k):Vn j A:=⟨r.hd,by have:=r.dp;omega,by have:=r.un;omega,r.gd⟩
def Vn.deeper(r:Vn (k+1) A)(Z:Env):Vn k (A.deeper Z):=
 ⟨r.hd,by have:=r.dp;show A.depth+1+3*k+5<_;omega,by have:=r.un;show A.units+3+16*k+200<_;omega,r.gd⟩
def Vn.in1(r:Vn (k+1) A):Vn k A.in1:=
 ⟨r.hd,by have:=r.dp;show A.depth+3*k+5<_;omega,by have:=r.un;show A.units+1+16*k+200<_;omega,r.gd⟩
def DF{A:Around}:(A.under<|.builtin "type.__call__" ⟨.ref C::Z,kw⟩).depth=A.depth+1:=by
 first|rfl|simp[Around.under,Code.weight,Code.isCreation,Code.isGuard,Code.isCaller,Code.frames,Code.isFrame,guardIds]
def DD{A:Around}:(A.under<|.builtin "type.__call__" ⟨.ref C::Z,kw⟩).units=A.units+1:=by
 first|rfl|simp[Around.under,Code.cUnits,Code.frames,Code.isFrame]
def NW{A:Around}:(A.under<|.builtin "type.__call__" ⟨.ref C::Z,kw⟩).guards=A.guards:=by
 cases h:A.guards <;> simp[Around.under,h,pushGuards,Code.guards,Code.isGuard,guardIds]
def Vn.make(r:Vn (k+1) A)(C:Addr)(Z:pW)(J:List (Str×Value)):Vn k (A.under<|.builtin "type.__call__" ⟨.ref C::Z,J⟩):=
 ⟨r.hd,by have:=r.dp;rw[DF];omega,by have:=r.un;rw[DD];omega,by rw[NW];exact r.gd⟩
def Vn.depth(r:Vn k A):A.depth<recursionLimit:=by have:=r.dp;omega
def Vn.units(r:Vn k A):A.units+64<cLine:=by have:=r.un;omega
def Vn.units0(r:Vn k A):A.units<cLine:=by have:=r.un;omega
def Rp:TA:=λ_ H Q=>Q [] H
def JX(ta:TE)(tr:TA):TA:=λU H Q=>ta U H λx G=>tr U G λZ J=>Q (x::Z) J
section
variable{t:TA}
def Vj:PA X [] Rp:=λ_ _ _ _ H Q I h=>Calls.spliced_nil ⟨[],H,I,.nil,h⟩
def Vx(E:PE X e te)(D:PA X G t)(B:starEach (e::G) X.env=(false,eval e X.env)::starEach G X.env:=by rfl):PA X (e::G) (JX te t):=by
 intro J Z s U H Q I h;rw[B];show wpAny _ _ (spliced ((false,eval e X.env)::backTo J (starEach G X.env))) _ _ s;refine Calls.spliced_cons<|thn (E Z s U H _ I h) λu M ⟨x,C,A,O,T⟩=>?_;exact thn (D J Z M U C _ A T) λP j ⟨L,S,F,N,R⟩=>⟨x::L,S,F,.cons O N,R⟩
def pa1(J:PE X e0 t0)(Z:starEach [e0] X.env=(false,eval e0 X.env)::starEach [] X.env:=by rfl):PA X [e0] (JX t0<|Rp):=Vx J (Vj) Z
def pa2(L:PE X e0 t0)(G:PE X e1 t1)(J:starEach [e0,e1] X.env=(false,eval e0 X.env)::starEach [e1] X.env:=by rfl)(Z:starEach [e1] X.env=(false,eval e1 X.env)::starEach [] X.env:=by rfl):PA X [e0,e1] (JX t0<|JX t1<|Rp):=Vx L (Vx G (Vj) Z) J
def pa3(N:PE X e0 t0)(M:PE X e1 t1)(L:PE X e2 t2)(G:starEach [e0,e1,e2] X.env=(false,eval e0 X.env)::starEach [e1,e2] X.env:=by rfl)(J:starEach [e1,e2] X.env=(false,eval e1 X.env)::starEach [e2] X.env:=by rfl)(Z:starEach [e2] X.env=(false,eval e2 X.env)::starEach [] X.env:=by rfl):PA X [e0,e1,e2] (JX t0<|JX t1<|JX t2<|Rp):=Vx N (Vx M (Vx L (Vj) Z) J) G
def pa4(R:PE X e0 t0)(O:PE X e1 t1)(N:PE X e2 t2)(M:PE X e3 t3)(L:starEach [e0,e1,e2,e3] X.env=(false,eval e0 X.env)::starEach [e1,e2,e3] X.env:=by rfl)(G:starEach [e1,e2,e3] X.env=(false,eval e1 X.env)::starEach [e2,e3] X.env:=by rfl)(J:starEach [e2,e3] X.env=(false,eval e2 X.env)::starEach [e3] X.env:=by rfl)(Z:starEach [e3] X.env=(false,eval e3 X.env)::starEach [] X.env:=by rfl):PA X [e0,e1,e2,e3] (JX t0<|JX t1<|JX t2<|JX t3<|Rp):=Vx R (Vx O (Vx N (Vx M (Vj) Z) J) G) L
def pa5(B:PE X e0 t0)(T:PE X e1 t1)(R:PE X e2 t2)(O:PE X e3 t3)(N:PE X e4 t4)(M:starEach [e0,e1,e2,e3,e4] X.env=(false,eval e0 X.env)::starEach [e1,e2,e3,e4] X.env:=by rfl)(L:starEach [e1,e2,e3,e4] X.env=(false,eval e1 X.env)::starEach [e2,e3,e4] X.env:=by rfl)(G:starEach [e2,e3,e4] X.env=(false,eval e2 X.env)::starEach [e3,e4] X.env:=by rfl)(J:starEach [e3,e4] X.env=(false,eval e3 X.env)::starEach [e4] X.env:=by rfl)(Z:starEach [e4] X.env=(false,eval e4 X.env)::starEach [] X.env:=by rfl):PA X [e0,e1,e2,e3,e4] (JX t0<|JX t1<|JX t2<|JX t3<|JX t4<|Rp):=Vx B (Vx T (Vx R (Vx O (Vx N (Vj) Z) J) G) L) M
def yd(t:TA):TE:=λU H Q=>t U H λZ J=>Z.length<=sizeLine/\∀p,J p=none->Q (.ref p) (upd J p<|.tup Z)
def yh(t:TA):TE:=λU H Q=>t U H λZ J=>Z.length<=sizeLine/\∀p,J p=none->Q (.ref p) (upd J p<|.lst Z)
def Yi(h:PA X T t):PE X (.Tuple T x1 pos) (yd t):=by
 intro Z s U H Q I O;refine wpAny_Tuple_spliced<|thn (h pos Z s U H _ I O) λN J ⟨M,L,G,r,z,q⟩=>⟨by rw[<-r.length];exact z,?_⟩;have R:L J.heap.objs.size=none:=G.hok.fresh<|ZG _;refine⟨.ref J.heap.objs.size,upd L J.heap.objs.size<|.tup M,G.laid (t':=J.toks) (λb u e=>ZE _ e) (ZG _) ?_,rfl,q _ R⟩;exact⟨z,N,r,⟨_,ZY _ Y,Y,Y,_,Y⟩⟩
def V4(h:PA X T t):PE X (.List T pos) (yh t):=by
 intro Z s U H Q I O;refine wpAny_List_spliced<|thn (h pos Z s U H _ I O) λN J ⟨M,L,G,r,z,q⟩=>⟨by rw[<-r.length];exact z,?_⟩;have R:L J.heap.objs.size=none:=G.hok.fresh<|ZG _;refine⟨.ref J.heap.objs.size,upd L J.heap.objs.size<|.lst M,G.laid (t':=J.toks) (λb u e=>ZE _ e) (ZG _) ?_,rfl,q _ R⟩;exact⟨z,N,0,r,ZY _ Y⟩
end
abbrev Sp:=List V->Hp->VK->XK->Prop
abbrev CXT:=List Env->Hp->Shared->XK->Value->Shared->Prop
structure Dx(P:Program)(w:World)(K:W.Frag)(mg:Str->Option Value)(base:Heap)(A:Around)(outer:List Env)(s:Shared)(H:Hp):Prop where
 frames:A.frames=some outer
 mod:Mod K mg base
 bs:∀b o,base.get? b=some o->s.heap.get? b=some o/\H b=none
 bsz:base.objs.size<=s.heap.objs.size
 funs:s.heap.FunFrames base outer
 frf:∀b∈frs outer,H b=none
 hok:HOk P w H s.heap
 bare:AllBare s.gens
def CE(outer:List Env)(P:Program)(w:World)(H:Hp)(s:Shared)(Q:VK)(u:Value)(s':Shared):Prop:=
 ∃v Z,s'.os=s.os/\AllBare s'.gens/\Un (frs outer) [] H Z s.heap s'.heap/\HOk P w Z s'.heap/\RelV v u/\Q v Z
def CR(CX:CXT)(outer:List Env)(P:Program)(w:World)(H:Hp)(s:Shared)(Q:VK)(E:XK)(r:Result)(s':Shared):Prop:=
 match r with
 |.ok (.ret u)=>CE outer P w H s Q u s'
 |.ok _=>False
 |.error e=>CX outer H s E e s'
structure Ye(P:Program)(w:World)(K:W.Frag)(mg:Str->Option Value)(base:Heap)(CX:CXT)(k:Nat)(f:Addr)(fd:FuncData)(ps:List Str)(sp:Sp):Prop where
 len:∀vs H Q E,sp vs H Q E->vs.length=ps.length
 run:∀(A:Around)(outer:List Env)(s:Shared)(H:Hp)(args:Args)(us:List Value)(vs:List V)(Q:VK)(E:XK),Vn k A->Dx P w K mg base A outer s H->BindsTo s fd args (ps.zip us)->Vals vs us->sp vs H Q E->
  codeAny (model P w) A (.call (.ref f) args) (CR CX outer P w H s Q E) s
def Ye.mono{K:W.Frag}(F:Ye P w K N base CX j f R M L)(h:j<=k):
  Ye P w K N base CX k f R M L:=⟨F.len,λA Z s H args G J Q E O=>F.run A Z s H args G J Q E<|O.mono h⟩
def Dx.make{K:W.Frag}(e:Dx P w K J base A outer s H)(C:Addr)(Z:pW)(G:List (Str×Value)):
  Dx P w K J base (A.under<|.builtin "type.__call__" ⟨.ref C::Z,G⟩) outer s H:=⟨by first|exact e.frames|(simpa[Around.under,Code.envs,Code.isFrame,pushEnvs]using e.frames),e.mod,e.bs,e.bsz,e.funs,e.frf,e.hok,e.bare⟩
section
def Inv.env0(I:Inv X Z U H s):Dx X.prog X.w X.K X.mg X.base X.A X.stack s H:=
 ⟨I.ok.frames,I.ok.mod,I.bs,Zb I.ok.bsz I.sz,I.stack,I.stkFree,I.hok,I.bare⟩
def Inv.after(I:Inv X Z U H s)(h:CE X.stack X.prog X.w H s Q u L):EP X Z U Q u L:=by
 obtain⟨v,R,N,bare,M,G,r,q⟩:=h;obtain⟨O,g,d,t,J⟩:=L;obtain rfl:J=s.os:=N;exact⟨v,R,I.call (h':=O) (g':=g) (d':=d) (t':=t) (ch:=[]) M G bare (λb z=>Zr z<|by simp),r,q⟩
end
def M9(sp:Sp)(dvs:xg)(E:XK)(t:TA):TE:=λU H Q=>t U H λZ J=>sp (Z++ dvs) J Q E
def IN(C:Addr)(m:Str)(sp:Sp)(dvs:xg)(E:XK)(ta:TE)(t:TA):TE:=λU H Q=>ta U H λx J=>JA x λa=>∃L Z,J a=some (.ins C L Z)/\Z.lookup m=none/\
 t U J λG M=>sp (x::(G++ dvs)) M Q E
def CU(C:Addr)(sp:Sp)(dvs:xg)(E:XK)(t:TA):TE:=λU H Q=>t U H λG J=>∀x Z,J x=none->J Z=none->Z≠x->
 sp (.ref x::(G++ dvs)) (upd (upd J Z<|.own x) x<|.ins C Z []) (λv L=>v=.non/\Q (.ref x) L) E
def Binds(K:W.Frag)(fd:FuncData)(ps:pX)(ds:pW):Prop:=
 ∀(s:Shared)(Z:pW),K.In s.heap->(Z++ ds).length=ps.length->BindsTo s fd ⟨Z,[]⟩ (ps.zip<|Z++ ds)
def Binds.all{K:W.Frag}(h:∀Z:pW,Z.length=J.length->bindArgs L ⟨Z,[]⟩=pure (J.zip Z)):Binds K L J []:=λs Z _ G=>by
 rw[jL]at G |-;exact .of_eq<|h Z G
def Uv(CX:CXT)(X:Cx)(E:XK):Prop:=∀(Z:pU)(U:St)(H:Hp)(s:Shared)(e:Value)(J:Shared),Inv X Z U H s->CX X.stack H s E e J->X.xe e J
section
variable{f C:Addr}
def G0(F:Ye X.prog X.w X.K X.mg X.base CX k f S M N)(T:Vn k X.A)(D:Binds X.K S M G)(hd:Vals dvs G)(R:Uv CX X E)(I:Inv X Z U H s)(r:Vals vs us)(h:N (vs++ dvs) H Q E):wpAny (model X.prog X.w) X.A (call (.ref f) us) (EP X Z U Q) X.xe s:=by
 have L:Vals (vs++ dvs) (us++ G):=r.append hd;have B:(us++ G).length=M.length:=by rw[<-L.length];exact F.len _ _ _ _ h
 refine wpAny_call<|pj (F.run X.A X.stack s H ⟨us,[]⟩ (us++ G) (vs++ dvs) Q E T I.env0 (D s us I.kIn B) L h) λr O J=>?_
 cases r with
 |error e=>exact R Z U H s e O I J
 |ok A=>
  cases A with
  |ret u=>exact I.after J
  |next=>exact False.elim J
  |brk=>exact False.elim J
  |cont=>exact False.elim J
def JP(F:Ye X.prog X.w X.K X.mg X.base CX k f y O N)(T:Vn k X.A)(A:Gl X x)(B:X.mg x=some (.ref f))(D:W.keepIn X.K (.ref f)=true)(P:Binds X.K y O z)(hd:Vals dvs z)(R:Uv CX X E)(j:PA X (e::J) t)(L:(x==("__debug__":Str))=false:=by decide)(S:starEach (e::J) X.env=(false,eval e X.env)::starEach J X.env:=by rfl)(G:(backTo pos<|starEach J X.env).any (·.1)=false:=by rfl):
  PE X (.Call (.Name x p) (e::J) [] pos) (M9 N dvs E t):=by
 intro Z s U H Q I h;refine qC<|Ga I A B ?_ L;refine px (h₀:=X.base) I.ok.mod.kin D (thn (j pos Z s U H _ I h) λg c ⟨m,d,M,r,q⟩=>⟨M.kIn,?_⟩) S G;exact G0 F T P hd R M r q
def Y5(y:PE X o ta)(c:Cls X.K C)(M:VM X.K C m f)(F:Ye X.prog X.w X.K X.mg X.base CX k f p A R)(j:Vn k X.A)(z:Binds X.K p A w)(hd:Vals dvs w)(S:Uv CX X E)(g:PA X (e::J) t)(G:starEach (e::J) X.env=(false,eval e X.env)::starEach J X.env:=by rfl)(L:(backTo pos<|starEach J X.env).any (·.1)=false:=by rfl)(P:eval (.Call (.Attribute o m apos) (e::J) [] pos) X.env=(do
   let ov <-eval o X.env
   standAt apos.atName
   let(f,first) <-holding [ov] (getMethod ov m pl)
   callWith pos f first (backTo pos<|starEach (e::J) X.env) (backToKw pos<|keywordEach [] X.env)):=by rfl):
  PE X (.Call (.Attribute o m apos) (e::J) [] pos) (IN C m R dvs E ta t):=by
 intro Z s U H Q I h;refine W.methodCall_KW (pl:=pl) (thn (y Z s U H _ I h) λu T ⟨x,b,O,B,q⟩=>?_) P;replace q:=JA.old q;obtain⟨a,d,dx,n,v,l,q⟩:=q;subst d;obtain rfl:u=Value.ref a:=B;refine TV O v c M l ?_;refine px (first:=[.ref a]) (h₀:=X.base) I.ok.mod.kin M.kp (thn (g pos Z T U b _ O q) λus i ⟨vs,H2,N,r,D⟩=>⟨N.kIn,?_⟩) G L;exact G0 (us:=.ref a::us) (vs:=.ref a::vs) F j z hd S N (.cons Y r) D
def Vg(B:PE X o ta)(c:Cls X.K C)(G:VM X.K C m f)(F:Ye X.prog X.w X.K X.mg X.base CX k f A N L)(T:Vn k X.A)(D:Binds X.K A N j)(hd:Vals dvs j)(O:Uv CX X E)(R:eval (.Call (.Attribute o m apos) [] [] pos) X.env=(do
   let ov <-eval o X.env
   standAt apos.atName
   let(f,first) <-holding [ov] (getMethod ov m pl)
   callWith pos f first (backTo pos<|starEach [] X.env) (backToKw pos<|keywordEach [] X.env)):=by rfl):
  PE X (.Call (.Attribute o m apos) [] [] pos) (IN C m L dvs E ta Rp):=by
 intro Z s U H Q I h;refine W.methodCall_KW (pl:=pl) (thn (B Z s U H _ I h) λu y ⟨x,g,J,M,q⟩=>?_) R;replace q:=JA.old q;obtain⟨a,S,t,z,P,l,q⟩:=q;subst S;obtain rfl:u=Value.ref a:=M;refine TV J P c G l ?_;exact W.callWith_K0 (first:=[.ref a]) J.kIn G.kp<|G0 (us:=[.ref a]) (vs:=[.ref a]) F T D hd O J (.cons rfl .nil) q
structure Mk(K:W.Frag)(C f:Addr):Prop where
 makes:W.makesIn K C=true
 init:W.findIn K (.ref C) "__init__"=some (some (.ref f))
 fn:W.isFn K (.ref f)=true
 kp:W.keepIn K (.ref C)=true
def KB(M:Mk X.K C f)(F:Ye X.prog X.w X.K X.mg X.base CX k f g B A)(z:Vn (k+1) X.A)(t:Binds X.K g B N)(hd:Vals dvs N)(y:Uv CX X E)(I:Inv X G U H s)(r:Vals R J)(h:∀x L,H x=none->H L=none->L≠x->A (.ref x::(R++ dvs)) (upd (upd H L<|.own x) x<|.ins C L []) (λv d=>v=.non/\Q (.ref x) d) E):
  wpAny (model X.prog X.w) X.A (call (.ref C) J) (EP X G U Q) X.xe s:=by
 have D:=h (s.heap.objs.size+1) s.heap.objs.size (I.hok.fresh<|qV _) (I.hok.fresh<|ZG _)<|Ze<|jj _;have O:=Inv.made (C:=C) I;have T:Vals (V.ref (s.heap.objs.size+1)::(R++ dvs)) (Value.ref (s.heap.objs.size+1)::(J++ N)):=.cons rfl (r.append hd)
 have q:(Value.ref (s.heap.objs.size+1)::J++ N).length=B.length:=by
  have e:=T.length;rw[F.len _ _ _ _ D]at e;exact e.symm
 refine wpAny_call (LI (f:=f) I.kIn M.makes M.init (beq_iff_eq.mp M.fn) (pj (F.run _ X.stack _ _ ⟨Value.ref (s.heap.objs.size+1)::J,[]⟩ (Value.ref (s.heap.objs.size+1)::(J++ N)) _ _ E (z.make C J [])
  (O.env0.make C J []) (t _ (Value.ref (s.heap.objs.size+1)::J) O.kIn q) T D) λr S Z=>?_))
 cases r with
 |error e=>exact y G U _ _ e S O Z
 |ok m=>
  cases m with
  |ret u=>
   obtain⟨v,w,c,P,p,j⟩:=O.after Z;subst p;exact⟨P,⟨V.ref<|s.heap.objs.size+1,w,c,rfl,j⟩⟩
  |next=>exact False.elim Z
  |brk=>exact False.elim Z
  |cont=>exact False.elim Z
def X1(M:Mk X.K C f)(F:Ye X.prog X.w X.K X.mg X.base CX k f y R O)(B:Vn (k+1) X.A)(A:Gl X x)(D:X.mg x=some (.ref C))(P:Binds X.K y R z)(hd:Vals dvs z)(T:Uv CX X E)(j:PA X (e::J) t)(L:(x==("__debug__":Str))=false:=by decide)(S:starEach (e::J) X.env=(false,eval e X.env)::starEach J X.env:=by rfl)(G:(backTo pos<|starEach J X.env).any (·.1)=false:=by rfl):
  PE X (.Call (.Name x p) (e::J) [] pos) (CU C O dvs E t):=by
 intro Z s U H Q I h;refine qC<|Ga I A D ?_ L;refine px (h₀:=X.base) I.ok.mod.kin M.kp (thn (j pos Z s U H _ I h) λg c ⟨m,d,N,r,q⟩=>⟨N.kIn,?_⟩) S G;exact KB M F B P hd T N r q
end
structure Yh(N P:List Str)(sc:Scope):Prop where
 kind:sc.kind=.function
 co:sc.isCoroutine=false
 gen:sc.isGenerator=false
 nd:N.Nodup
 pre:N.take P.length=P
 par:∀x∈P,sc.names.lookup x=some .local\/sc.names.lookup x=some .cell
 nofree:∀y∈sc.names,y.2≠.free
theorem RX{kindOf:Str->Option NameKind}:∀{binds:List (Str×Value)}{m:Str->Option Value},(∀v,(x,v)∉binds)->bindL kindOf binds m x=m x
 |[],_,_=>rfl
 |(n,v)::r,m,h=>by
  unfold bindL;rw[RX λw Z=>h w (ZM _ Z)]
  split
  .have:x≠n:=by rintro rfl;exact h v Za
   simp[this]
  .rfl
theorem RZ{kindOf:Str->Option NameKind}:∀{binds:List (Str×Value)}{m:Str->Option Value},(∀v,(x,v)∉binds)->bindC kindOf binds m x=m x
 |[],_,_=>rfl
 |(n,v)::r,m,h=>by
  unfold bindC;rw[RZ λw Z=>h w (ZM _ Z)]
  split
  .rfl
  .have:x≠n:=by rintro rfl;exact h v Za
   simp[this]
theorem RY{kindOf:Str->Option NameKind}:∀{P:pX}{Z:pW}{i:Nat}{m:Str->Option Value},P.Nodup->P[i]?=some x->Z[i]?=some v->kindOf x=some .local->
  bindL kindOf (P.zip Z) m x=some v
 |[],_,_,_,_,h,_,_=>by simp at h
 |_::_,[],_,_,_,_,h,_=>by simp at h
 |p::P,w::Z,0,m,nd,h1,h2,hk=>by
  simp at h1 h2;subst h1;subst h2;show bindL kindOf ((p,w)::P.zip Z) m p=_;unfold bindL;rw[RX λv J=>(j5.mp nd).1 (List.of_mem_zip J).1,Zp hk];simp
 |p::P,w::Z,i+1,m,nd,h1,h2,hk=>by
  show bindL kindOf ((p,w)::P.zip Z) m x=_;unfold bindL;exact RY (i:=i) (j5.mp nd).2 (by simpa using h1) (by simpa using h2) hk
theorem Ra{kindOf:Str->Option NameKind}:∀{P:pX}{Z:pW}{i:Nat}{m:Str->Option Value},P.Nodup->P[i]?=some x->Z[i]?=some v->kindOf x≠some .local->
  bindC kindOf (P.zip Z) m x=some v
 |[],_,_,_,_,h,_,_=>by simp at h
 |_::_,[],_,_,_,_,h,_=>by simp at h
 |p::P,w::Z,0,m,nd,h1,h2,hk=>by
  simp at h1 h2;subst h1;subst h2;show bindC kindOf ((p,w)::P.zip Z) m p=_;unfold bindC;rw[RZ λv J=>(j5.mp nd).1 (List.of_mem_zip J).1,Zq hk];simp
 |p::P,w::Z,i+1,m,nd,h1,h2,hk=>by
  show bindC kindOf ((p,w)::P.zip Z) m x=_;unfold bindC;exact Ra (i:=i) (j5.mp nd).2 (by simpa using h1) (by simpa using h2) hk
def start(N:pX)(vs:xg):St:=vs.map some++ List.replicate (N.length-vs.length) none
def Vb(CX:CXT)(P:Program)(w:World)(K:W.Frag)(mg:Str->Option Value)(base:Heap)(N:pX)(qual:Str)(scope:Scope)(f:Addr)(cd:Value)(A:Around)(outer:List Env)(s:Shared)(H:Hp)(E:XK):Cx where
 prog:=P
 w:=w
 K:=K
 mg:=mg
 base:=base
 A:=A.deeper (envOfC qual scope s.heap.objs.size f cd)
 N:=N
 s₀:=s
 H₀:=H
 env:=envOfC qual scope s.heap.objs.size f cd
 outer:=outer
 stack:=envOfC qual scope s.heap.objs.size f cd::outer
 ex:=[]
 calm:=true
 fn:=λ_=>true
 pn:=[]
 xe:=λe J=>wpAny (model P w) (A.deeper<|envOfC qual scope s.heap.objs.size f cd) (leaving (envOfC qual scope s.heap.objs.size f cd) e) (λ_ Z=>CX outer H s E e Z) (λG Z=>CX outer H s E G Z) J
def Np{Z:Scope}(h:Z.names.lookup x=some .cell):∃c,(cellsFrom n Z.names []).lookup x=some c:=by
 have q:=W.cellsFrom_some Z.names n []<|.inl h;exact qZ.mp q
def FW{C:CXT}{P:Program}{w:World}{K:W.Frag}(S:Yh N O scope)(hd:A.handled=none)(J:Dx P w K F base A outer s H)(m:M.length=O.length)(r:Vals M D)(x:InCallC s s.heap.objs.size (bindL (envOfC qual scope s.heap.objs.size f cd).kindOf (O.zip D) λ_=>none) (cellsFrom (s.heap.objs.size+1) scope.names []) (bindC (envOfC qual scope s.heap.objs.size f cd).kindOf (O.zip D) λ_=>none) s1):
  Inv (Vb C P w K F base N qual scope f cd A outer s H E) [] (start N M) H s1:=by
 have Q:O.length<=N.length:=by have:=congrArg List.length S.pre;rw[ZN]at this;omega
 obtain⟨B,t,rfl,U⟩:=x.done;have G:∀b:Addr,b∉(Vb C P w K F base N qual scope f cd A outer s H E).ex:=λb z=>Zr (show b∈([]:xa)from z) (by simp);refine⟨⟨J.mod,S.kind,Y,Y,ZG _,λy z c B Z=>?_,λy L=>?_,λy c _ h=>?_,λ_=>hd,Around.frames_deeper J.frames,.inr ⟨Y,Y⟩,λb z=>Zr z<|G b,J.bs,J.bsz,λb _ _=>G b,λb z=>Zr z<|G b,J.funs,J.frf⟩,
  rfl,J.bare,Un.kept U,⟨_,x.toInCall.ns,λi y v B Z g=>?_⟩,λy c h=>⟨_,x.cell y c h⟩,J.hok.fresh<|ZG _,λy c h=>?_,λp T=>Zr (show p∈([]:pU)from T) (by simp),J.hok.kept U,?_⟩
 .exact name_of_addr x.apart (jT B) (jT Z)
 .have L:scope.names.lookup y=some .cell\/scope.names.lookup y=some .free:=L
  rcases L with L|L
  .exact Np L
  .exact Zr rfl (S.nofree _<|jT L)
 .exact Zh (x.above y c<|jT h)
 .have hi:i<M.length:=by
   unfold start at Z
   by_cases hi:i<M.length
   .exact hi
   .rw [vx (by simpa using hi)]at Z
    rw[qm]at Z
    split at Z <;> cases Z
  have j:M[i]?=some v:=by
   unfold start at Z;rw[vz (by simpa using hi),ZH]at Z
   cases e:M[i]? with
   |none=>rw[e]at Z;cases Z
   |some a=>rw[e]at Z;cases Z;rfl
  obtain⟨u,I,X⟩:=r.get j
  have T:O[i]?=some y:=by
   rw[<-S.pre,List.getElem?_take_of_lt (by omega)];exact B
  have R:O.Nodup:=by rw[<-S.pre];exact S.nd.sublist<|jR _ _
  exists u,X;rcases S.par y (ZJ T)with k|k
  .exact .inl ⟨k,RY R T I k⟩
  .obtain ⟨c,e⟩:=Np (n:=s.heap.objs.size+1) k
   refine .inr ⟨.inl k,c,e,?_⟩;have q:=x.cell y c e;rw[Ra R T I (by show scope.names.lookup y≠_;rw[k];decide)]at q;exact q
 .exact J.hok.fresh (Zh<|x.above y c<|jT h)
 .unfold start
  show _=N.length;rw[ZL,ZA,List.length_replicate];omega
def Qz{j:CXT}{P:Program}{K:W.Frag}{dV kV C a G ct oc:Value}(lk:K.lookup f=some ⟨oc,od,.func<|W.fnOf name qual params body scope dV kV C a an G ct,osl⟩)(l:W.codeIn K G qual=true)(S:Yh N g scope)(B:∀L H Q E,i L H Q E->L.length=g.length)(R:∀(A:Around)(Z:List Env)(s:Shared)(H:Hp)(L:xg)(Q:VK)(E:XK),Vn k (A.deeper<|envOfC qual scope s.heap.objs.size f G)->i L H Q E->
   ∃t,PSs (Vb j P w K p base N qual scope f G A Z s H E) body t/\t {nx:=λ_ M=>Q .non M,rt:=Q} (start N L) H):
  Ye P w K p base j (k+1) f (W.fnOf name qual params body scope dV kV C a an G ct) g i:=by
 refine⟨B,λA Z s H args us L Q E d U hb r D=>?_⟩;have hl:=B _ _ _ _ D;have KX:K.In s.heap:=U.mod.kin.keeps λb o e=>(U.bs b o e).1;have c:s.heap.NoLimit:=U.mod.nolimit.keeps λb o e=>(U.bs b o e).1
 have O:∀y∈g.zip us,scope.names.lookup y.1=some .local\/(scope.names.lookup y.1=some .cell/\((cellsFrom (s.heap.objs.size+1) scope.names []).lookup y.1).isSome=true):=λ⟨n,v⟩ hy=>by
  rcases S.par n (List.of_mem_zip hy).1 with q|q
  .exact .inl q
  .exact .inr ⟨q,W.cellsFrom_some _ _ _<|.inl q⟩
 refine codeAny_call_function d.depth (KX _ _ lk) Y S.co S.gen Y (W.codeRec_of KX l) (hb _ _ _ _ ?_);refine wpAny_newFunctionEnv_cells S.kind O λJ2 he h x=>?_;subst he;refine⟨c.keeps x.toInCall.keep,codeAny_func ?_⟩;obtain⟨t,ht,hq⟩:=R A Z s H L Q E (d.deeper _) D;have I:Inv (Vb j P w K p base N qual scope f G A Z s H E) [] (start N L) H h:=FW S d.hd U hl r x;refine Zn (ht [] h (start N L) H _ I hq) (λfl z T=>?_) λe z T=>T
 have F:∀{X:St}{M:Hp}{v:V}{u:Value},Inv (Vb j P w K p base N qual scope f G A Z s H E) [] X M z->RelV v u->Q v M->CE Z P w H s Q u z:=
  λ{X M v u} J m q=>⟨v,M,J.os,J.bare,J.base,J.hok,m,q⟩
 cases fl with
 |ret u=>
  obtain⟨v,X,M,J,m,q⟩:=T;exact F J m q
 |next=>
  obtain⟨X,M,J,q⟩:=T;exact F (v:=V.non) (u:=Value.none) J Y q
 |brk=>
  obtain⟨_,_,_,q⟩:=T;exact False.elim q
 |cont=>
  obtain⟨_,_,_,q⟩:=T;exact False.elim q
end L2
namespace L2
open PySem PySem.Spec PyProof.Rows
section
variable{t:TA}{id T:String}{r:List V->Hp->VK->Prop}
def tCB(r:List V->Hp->VK->Prop)(t:TA):TE:=λU H Q=>t U H λZ J=>r Z J Q
def VD(S:J1 X (.builtin id) r)(A:Gl X x)(F:X.mg x=none)(D:bootBuiltins x=some (.builtin id))(C:PA X (e::J) t)(E:x≠"__name__":=by decide)(L:(x==("__debug__":Str))=false:=by decide)(he:starEach (e::J) X.env=(false,eval e X.env)::starEach J X.env:=by rfl)(G:(backTo pos<|starEach J X.env).any (·.1)=false:=by rfl):PE X (.Call (.Name x p) (e::J) [] pos) (tCB r t):=by
 intro Z s U H Q I h;refine qC<|U9 I A F D ?_ E L;exact PyProof.Rows.callWith_builtin1 (thn (C pos Z s U H _ I h) λN O ⟨M,j,P,R,B⟩=>S Z O U j M N Q P R B) he G
def VW(C:J1 X (.type T) r)(A:Gl X x)(F:X.mg x=none)(D:bootBuiltins x=some (.type T))(P:PA X (e::J) t)(E:x≠"__name__":=by decide)(L:(x==("__debug__":Str))=false:=by decide)(S:starEach (e::J) X.env=(false,eval e X.env)::starEach J X.env:=by rfl)(G:(backTo pos<|starEach J X.env).any (·.1)=false:=by rfl):PE X (.Call (.Name x p) (e::J) [] pos) (tCB r t):=by
 intro Z s U H Q I h;refine qC<|U9 I A F D ?_ E L;exact jG (thn (P pos Z s U H _ I h) λN O ⟨M,y,j,R,B⟩=>C Z O U y M N Q j R B) S G
end
end L2
namespace HT
open PySem PyProof.Rows
section
open PySem.SeqAt
open PySem.AutoSeq1 (wpAny_loadPart')
open PySem.MeetsSeq PySem.MeetsSeq2 PySem.MeetsSeq3
end
section
def cat_tup(C:IsTup s.heap t G.toArray)(X:IsTup s.heap b Z.toArray)(F:G≠[])(j:Z=[]->Q (.ref t) s)(P:Z≠[]->Q (.ref s.heap.objs.size) {s with heap:=s.heap.push {cls:=.type "tuple",data:=.seq (G++ Z).toArray}})(T:G.length+Z.length<=sizeLine):wpAny (model prog w) A (binaryOp .Add (.ref t)<|.ref b) Q E s:=by
 obtain⟨⟨B,S,data,sl⟩,R,I,n,hd⟩:=id C;obtain⟨⟨U,O,data2,L⟩,J,N,D,M⟩:=id X;simp only at I hd N M;subst I hd N M;have e:G.toArray++ Z.toArray=(G++ Z).toArray:=by simp
 by_cases hw:Z=[]
 .exact concat_meets ⟨_,R,rfl⟩ ⟨_,J,rfl⟩ noFill_tuple_add seq_tuple_add kH kz (kh _ _)
   (tuple_addW1 t b G.toArray Z.toArray n D S O sl L (by simpa using F)<|by simp[hw]) ⟨R,J,j hw⟩
 .refine concat_meets ⟨_,R,rfl⟩ ⟨_,J,rfl⟩ noFill_tuple_add seq_tuple_add kH kz (kh _ _)
   (tuple_addW2 t b G.toArray Z.toArray n D S O sl L (by simpa using F) (by simpa using hw) (by rw[ZO,ZO];exact T)) ⟨R,J,?_⟩
  rw[e];exact P hw
def sIx(n d:Nat):Option Int->Nat
 |none=>d
 |some v=>if v<0 then(v+(n:Int)).toNat else min v.toNat n
def sIx_none(n d:Nat):sIx n d none=d:=rfl
def sIx_nat(n d k:Nat):sIx n d (some (k:Int))=min k n:=by
 show(if(k:Int)<0 then((k:Int)+(n:Int)).toNat else min (k:Int).toNat n)=min k n;rw[Zq (by omega),qr]
def Sx(n d:Nat)(hd:d<=n)(o:Option Int):sIx n d o<=n:=by
 cases o with
 |none=>exact hd
 |some v=>
  show(if v<0 then(v+(n:Int)).toNat else min v.toNat n)<=n
  by_cases hv:v<0
  .rw [Zp hv];omega
  .rw [Zq hv];exact Nat.min_le_right _ _
def Ew(v:Int)(n d:Nat):(if v<0 then max (v+(n:Int)) 0 else min v (n:Int))=((sIx n d (some v):Nat):Int):=by
 show(if v<0 then max (v+(n:Int)) 0 else min v (n:Int))=(((if v<0 then(v+(n:Int)).toNat else min v.toNat n):Nat):Int)
 by_cases hv:v<0
 .simp only[Zp hv];omega
 .simp only[Zq hv];omega
def Dv(Z J:Option Int)(n:Nat):Builtin.Slice.sliceAdjust Z J 1 (n:Int)=(((sIx n 0 Z:Nat):Int),((sIx n n J:Nat):Int)):=by
 have G:¬((1:Int)<0):=by omega
 unfold Builtin.Slice.sliceAdjust;simp only[G,if_false];refine Prod.ext ?_ ?_
 .cases Z with
  |none=>rfl
  |some v=>exact Ew v n 0
 .cases J with
  |none=>rfl
  |some v=>exact Ew v n n
def Bt(i j:Nat):Builtin.Slice.slicePlaces (i:Int) (j:Int) 1=j-i:=by
 unfold Builtin.Slice.slicePlaces;have Z:(1:Int) > 0:=by omega
 simp only[Z,if_true,Int.ediv_one]
 split <;> omega
def Gq(p:IsPart v o)(h:Q o s):wpAny (model prog w) A (Builtin.Slice.slicePartIndex v) Q E s:=by
 cases p with
 |none=>exact slicePart_none h
 |int i t=>exact slicePart_int h
def WV{Z G:Option Int}{n:Nat}(O:s.heap.IsSliceOf sl vl vu .none)(N:IsPart vl Z)(M:IsPart vu G)(h:Q (((sIx n 0 Z:Nat):Int),1,sIx n n G-sIx n 0 Z) s):wpAny (model prog w) A (Builtin.Slice.sliceApplied (.ref sl)<|pure (n:Int)) Q E s:=by
 obtain⟨T,J,R,L⟩:=id O;unfold Builtin.Slice.sliceApplied Builtin.Slice.sliceFields;refine Zl<|Zl<|Zo J L (x:=vl) rfl (Zl<|Zo J L (x:=vu) rfl (Zl<|Zo J L (x:=.none) rfl (Zm ?_)));refine Zl<|slicePart_none ?_;show wpAny _ _ (if((1:Int)==0)=true then _ else _) _ _ s;rw[Zq (by decide)];refine Zl<|Gq N<|Zl<|Gq M<|Zl<|Zm ?_;show wpAny _ _ (match Builtin.Slice.sliceAdjust Z G 1 (n:Int)with|(Z,G)=>pure (Z,(1:Int),Builtin.Slice.slicePlaces Z G 1)) _ _ s;rw[Dv Z G n];show wpAny _ _ (pure (((sIx n 0 Z:Nat):Int),(1:Int),Builtin.Slice.slicePlaces ((sIx n 0 Z:Nat):Int) ((sIx n n G:Nat):Int) 1)) _ _ s;rw[Bt];exact Zm h
def KQ(Z:Array Value)(i k:Nat):((List.range k).filterMap λ(m:Nat)=>Z[((i:Int)+(m:Int)*1).toNat]?).toArray=((Z.toList.drop i).take k).toArray:=by
 have e:(λ(m:Nat)=>Z[((i:Int)+(m:Int)*1).toNat]?)=λm=>Z[i+m]?:=by
  funext m
  have:((i:Int)+(m:Int)*1).toNat=i+m:=by omega
  rw[this]
 rw[e];have:=pick_run Z i k;rw[List.filterMap_map]at this;have J:((λx=>Z[x]?) ∘ λx=>i+x)=λm=>Z[i+m]?:=rfl;rw[J]at this;rw[this]
def getItem_tuple_cut{J G:Option Int}(L:IsTup s.heap t items)(T:s.heap.IsSliceOf sl vl vu .none)(D:IsPart vl J)(B:IsPart vu G)(I:¬(sIx items.size 0 J=0/\sIx items.size items.size G=items.size))(h:Q (.ref s.heap.objs.size) {s with heap:=s.heap.push {cls:=.type "tuple",data:=.seq ((items.toList.drop<|sIx items.size 0 J).take<|sIx items.size items.size G-sIx items.size 0 J).toArray}})(S:items.size<=sizeLine):wpAny (model prog w) A (getItem (.ref t)<|.ref sl) Q E s:=by
 have Z:sizeOk (.seq ((items.toList.drop<|sIx items.size 0 J).take<|sIx items.size items.size G-sIx items.size 0 J).toArray):=by
  show((items.toList.drop<|sIx items.size 0 J).take<|sIx items.size items.size G-sIx items.size 0 J).toArray.size<=sizeLine;rw[ZO,ZN,qG,qM];omega
 have P:sIx items.size items.size G<=items.size:=Sx _ _ (ZG _) G;obtain⟨F,M,O,U⟩:=id T;have R:s.TypeIs (.ref sl) "slice":=⟨F,M,O⟩;unfold getItem
 try with_reducible refine wpAny_holding ?_
 first|refine Zl (Zm ?_)|skip
 refine Zl<|wpAny_sequenceKey L.typeIs (by decide) ?_;refine Zl (wpAny_callSpecial?_slot (name:=Str.ofString "__getitem__") L.typeIs pQ
  (jA pQ L.typeIs entry_tuple_getitem ?_<|args_tuple_getitem _ _))
 show wpAny _ _ (Builtin.Tuple.tupleItemsOf (.ref t) >>=_) _ _ s;refine Zl<|tupleItemsOf_ L ?_;refine Zl<|kq R ?_;rw[Zp (by decide)];refine Zl<|WV T D B ?_
 have N:¬((((sIx items.size 0 J:Nat):Int)==0 && (1:Int)==1 && (sIx items.size items.size G-sIx items.size 0 J)==items.size)=true):=by
  intro q;rw[ZZ,ZZ]at q;have X:((sIx items.size 0 J:Nat):Int)=0:=eq_of_beq q.1.1;have C:sIx items.size items.size G-sIx items.size 0 J=items.size:=eq_of_beq q.2;exact I ⟨by omega,by omega⟩
 show wpAny _ _ (if(((sIx items.size 0 J:Nat):Int)==0 && (1:Int)==1 && (sIx items.size items.size G-sIx items.size 0 J)==items.size)=true then _ else _) _ _ s;rw[Zq N,KQ]
 first
  |exact Zl (m:=Builtin.Tuple.tupleExact _)<|jX (Zm ⟨_,rfl,Zm h⟩) Z
  |exact Zl (m:=Builtin.Tuple.tupleExact _)<|jX (Zl<|Zm<|Zm ⟨_,rfl,Zm h⟩) Z
  |exact Zl<|Zl (m:=Builtin.Tuple.tupleExact _)<|jX (Zm<|Zm ⟨_,rfl,Zm h⟩) Z
  |exact Zl<|Zl (m:=Builtin.Tuple.tupleExact _)<|jX (Zm ⟨_,rfl,Zm h⟩) Z
end
end HT
namespace L2
open PySem PySem.Spec PyProof.Rows
abbrev TO:=St->Hp->(Option Int->Hp->Prop)->Prop
def PO(X:Cx)(e:Option Expr)(t:TO):Prop:=
 ∀(Z:pU)(s:Shared)(U:St)(H:Hp)(Q:Option Int->Hp->Prop),Inv X Z U H s->t U H Q->
  wpAny (model X.prog X.w) X.A (evalPart e X.env) (λu G=>∃o J,Inv X Z U J G/\IsPart u o/\Q o J) X.xe s
def Ol:TO:=λ_ H Q=>Q none H
def CS(t:TE):TO:=λU H Q=>t U H λx Z=>∃i,x=.int i/\Q (some i) Z
section
variable{X:Cx}{te:TE}{lo hi:Option Expr}{tl th:TO}
def JM:PO X none Ol:=by
 intro Z s U H Q I h;rw[evalPart_none];exact Zm ⟨none,H,I,.none,h⟩
def V6(h:PE X e te):PO X (some e) (CS te):=by
 intro Z s U H Q I L;rw[evalPart_some];refine thn (h Z s U H _ I L) λu O ⟨x,N,M,J,G⟩=>?_;obtain⟨i,rfl,q⟩:=G;obtain⟨t,rfl⟩:=J;exact⟨some i,N,M,.int i t,q⟩
def SlR(X:Cx)(r:V->Option Int->Option Int->Hp->VK->Prop):Prop:=
 ∀(Z:pU)(s:Shared)(U:St)(H:Hp)(x:V)(v G J:Value)(lo hi:pY)(sl:Addr)(Q:VK),Inv X Z U H s->RelV x v->s.heap.IsSliceOf sl G J .none->IsPart G lo->IsPart J hi->r x lo hi H Q->
  ∃T L,typeLookup (.type T) "__getitem__"=pure (some<|.builtin L)/\s.TypeIs v T/\wpAny (model X.prog X.w) X.A (getItem v<|.ref sl) (EP X Z U Q) X.xe s
def tSl(r:V->Option Int->Option Int->Hp->VK->Prop)(te:TE)(tl th:TO):TE:=λU H Q=>te U H λx G=>tl U G λl J=>th U J λu Z=>r x l u Z Q
def Vs(P:SlR X r)(z:PE X e te)(j:PO X lo tl)(S:PO X hi th):PE X (.Subscript e (.Slice lo hi none p2) pos) (tSl r te tl th):=by
 intro Z s U H Q I h;refine Subscript_<|thn (z Z s U H _ I h) λv O ⟨x,d,p,R,E⟩=>?_;refine wpAny_Slice<|thn (j Z O U d _ p E) λL N ⟨l,c,k,A,D⟩=>thn (S Z N U c _ k D) λG J ⟨u,M,g,F,B⟩=>?_;rw[evalPart_none];refine Zm ?_;have m:Inv X Z U M {J with heap:=J.heap.push {cls:=.type "slice",data:=.fields #[L,G,.none]}}:=g.kept (t':=J.toks) λb f q=>ZE _ q;obtain⟨T,w,t,C,y⟩:=P Z {J with heap:=J.heap.push {cls:=.type "slice",data:=.fields #[L,G,.none]}} U M x v L G l u J.heap.objs.size Q m R (Heap.IsSliceOf.new ..) A F B;show wpAny (model X.prog X.w) X.A (subscriptTail e (.Slice lo hi none p2) v<|.ref J.heap.objs.size) (EP X Z U Q) X.xe {J with heap:=J.heap.push {cls:=.type "slice",data:=.fields #[L,G,.none]}};exact tail_any (ops:=[.ref J.heap.objs.size,v]) C t y<|by with_unfolding_all rfl
def Uq(xs:xg)(lo hi:pY):xg:=(xs.drop<|HT.sIx xs.length 0 lo).take<|HT.sIx xs.length xs.length hi-HT.sIx xs.length 0 lo
def W8(Z:xg)(lo hi:pY):(Uq Z lo hi).length<=Z.length:=by
 unfold Uq;rw[ZN,qG];omega
def vF(K:W.Frag):V->Option Int->Option Int->Hp->VK->Prop:=λx lo hi H Q=>∃a Z,x=.ref a/\SqT K H a Z/\
 ¬(HT.sIx Z.length 0 lo=0/\HT.sIx Z.length Z.length hi=Z.length)/\∀p,H p=none->Q (.ref p) (upd H p<|.tup<|Uq Z lo hi)
def Ie:SlR X (vF X.K):=by
 intro L s U H x v A F lo hi sl Q I O E T R h;obtain⟨a,J,rfl,B,D,q⟩:=h;cases O;obtain⟨G,r,N,M⟩:=I.tuple B;have Z:G.toArray.size=J.length:=by rw[ZO];exact r.length.symm
 exists "tuple",_,PyProof.Rows.slot_tuple_getitem.lookup,N.typeIs;refine HT.getItem_tuple_cut N E T R (by rw[Z];exact D) ?_ (by rw[Z];exact M);rw[Z];refine⟨.ref s.heap.objs.size,_,I.laid (t':=s.toks) (o:=.tup<|Uq J lo hi) (λb S q=>ZE _ q) (ZG _) ?_,rfl,q _<|I.hok.fresh<|ZG _⟩;exact⟨Zb (W8 J lo hi) M,_,(r.drop<|HT.sIx J.length 0 lo).take<|HT.sIx J.length J.length hi-HT.sIx J.length 0 lo,GL.new _ _⟩
def UX(K:W.Frag):R2:=λx y H Q=>∃a b J Z,x=.ref a/\y=.ref b/\SqT K H a J/\SqT K H b Z/\J≠[]/\J.length+Z.length<=sizeLine/\
 (Z=[]->Q (.ref a) H)/\(Z≠[]->∀p,H p=none->Q (.ref p) (upd H p<|.tup<|J++ Z))
def Vals.nil_iff(r:Vals Z J):J=[]↔Z=[]:=by
 cases r with
 |nil=>simp
 |cons _ _=>simp
def MY:OpR X (binaryOp .Add) (UX X.K):=by
 intro G s U H x y v u Q I T R h;obtain⟨a,b,O,N,rfl,rfl,P,C,S,M,D,B⟩:=h;cases T;cases R;obtain⟨A,J,F,_⟩:=I.tuple P;obtain⟨L,Z,E,_⟩:=I.tuple C;refine HT.cat_tup F E (λz=>S<|J.nil_iff.mp z) (λz=>⟨.ref a,H,I,rfl,D<|Z.nil_iff.mp z⟩) (λz=>?_) (by rw[<-J.length,<-Z.length];exact M);refine⟨.ref s.heap.objs.size,_,I.laid (t':=s.toks) (o:=.tup<|O++ N) (λb j q=>ZE _ q) (ZG _) ?_,rfl,B (λw=>z<|Z.nil_iff.mpr w) _<|I.hok.fresh<|ZG _⟩;exact⟨by rw[ZL];exact M,_,J.append Z,GL.new _ _⟩
end
def ixN(n:Nat)(i:Int):Option Nat:=if 0<=i then(if i<n then some i.toNat else none)else if -(n:Int)<=i then some (i+n).toNat else none
def atI{α:Type}(xs:List α)(i:Int):Option α:=(ixN xs.length i).bind λj=>xs[j]?
def Eb(h:ixN n i=some j):seqIndex? i n=some j/\j<n/\ -(n:Int)<=i/\i<n:=by
 unfold ixN at h
 by_cases h0:0<=i
 .rw [Zp h0]at h
  by_cases h1:i<n
  .rw [Zp h1]at h
   have e:i.toNat=j:=ZT h;exact⟨by rw[seqIndex_of h0 h1,e],by omega,by omega,h1⟩
  .rw [Zq h1]at h;cases h
 .rw [Zq h0]at h
  by_cases h1: -(n:Int)<=i
  .rw [Zp h1]at h
   have e:(i+n).toNat=j:=ZT h;exact⟨by rw[seqIndex_neg (by omega) h1,e],by omega,h1,by omega⟩
  .rw [Zq h1]at h;cases h
def My(h:atI Z i=some v):∃j,seqIndex? i Z.length=some j/\Z[j]?=some v/\j<Z.length/\ -(Z.length:Int)<=i/\i<Z.length:=by
 unfold atI at h
 cases e:ixN Z.length i with
 |none=>rw[e]at h;cases h
 |some j=>
  rw[e]at h;obtain⟨M,L,G,J⟩:=Eb e;exact⟨j,M,h,L,G,J⟩
def VE{Z:List α}{j:Nat}{v:α}(h:Z[j]?=some v):atI Z (j:Int)=some v:=by
 have J:j<Z.length:=(ZF.mp h).1
 have e:ixN Z.length (j:Int)=some j:=by
  unfold ixN;rw[Zp (by omega),Zp (by omega)];simp
 unfold atI;rw[e];exact h
def Uc(Z:List α)(v:α):atI (Z++[v]) (-1)=some v:=by
 have J:(Z++[v]).length=Z.length+1:=by simp
 have e:ixN (Z++[v]).length (-1)=some Z.length:=by
  unfold ixN;rw[J,Zq<|by decide,Zp (by omega)]
  congr 1
  omega
 unfold atI;rw[e];show(Z++[v])[Z.length]?=some v;simp
def QQ(b:Expr):Prop:=∀o i,subscripted b false o i=operate [o,i] (getItem o i)
def IxR(X:Cx)(r:R2):Prop:=
 ∀(value slice:Expr)(Z:pU)(s:Shared)(U:St)(H:Hp)(x y:V)(v u:Value)(Q:VK),Inv X Z U H s->RelV x v->RelV y u->r x y H Q->
  subscripted slice false v u=operate [v,u] (getItem v u)->wpAny (model X.prog X.w) X.A (subscriptTail value slice v u) (EP X Z U Q) X.xe s
def MtR(X:Cx)(id:String)(r:V->List V->Hp->VK->Prop):Prop:=
 ∀(Z:pU)(s:Shared)(U:St)(H:Hp)(x:V)(J:xg)(v:Value)(G:pW)(Q:VK),Inv X Z U H s->RelV x v->Vals J G->r x J H Q->
  wpAny (model X.prog X.w) X.A (call (.builtin id) (v::G)) (EP X Z U Q) X.xe s
section
variable{a b:Expr}{ta tb:TE}
def Ym(N:IxR X r)(R:PE X a ta)(O:PE X b tb)(M:QQ b:=by exact λ_ _=>Y):PE X (.Subscript a b pos) (tOp r ta tb):=by
 intro Z s U H Q I h;exact Subscript_<|A2 R O I h λv u J x y B T L G q=>N a b Z J U B x y v u Q T L G q<|M _ _
def PF(K:W.Frag):R2:=λx y H Q=>JA x λp=>XB y λi=>∃Z v,SqL K H p Z/\atI Z i=some v/\Q v H
def PF.old{K:W.Frag}(h:PF K x y H Q):∃p Z i v,x=.ref p/\y=.int i/\SqL K H p Z/\atI Z i=some v/\Q v H:=by
 replace h:=JA.old h;obtain⟨p,e,h⟩:=h;replace h:=XB.old h;obtain⟨i,J,Z,v,h⟩:=h;exact⟨p,Z,i,v,e,J,h⟩
def VZ(K:W.Frag):R2:=λx y H Q=>JA x λp=>XB y λi=>∃Z v,SqT K H p Z/\atI Z i=some v/\Q v H
def VZ.old{K:W.Frag}(h:VZ K x y H Q):∃p Z i v,x=.ref p/\y=.int i/\SqT K H p Z/\atI Z i=some v/\Q v H:=by
 replace h:=JA.old h;obtain⟨p,e,h⟩:=h;replace h:=XB.old h;obtain⟨i,J,Z,v,h⟩:=h;exact⟨p,Z,i,v,e,J,h⟩
def Cu:R2:=λx y H Q=>∃z i c,x=.str z/\y=.int i/\z.length<=sizeLine/\atI z.cps.toList i=some c/\Q (.str ⟨#[c]⟩) H
def Y7:IxR X (PF X.K):=by
 intro value slice Z s U H x y v u Q I D B h O;replace h:=PF.old h;obtain⟨p,m,i,z,rfl,rfl,E,A,q⟩:=h;cases D;obtain⟨t,rfl⟩:=B;obtain⟨N,r,M,g⟩:=I.list E;obtain⟨j,G,P,c,C,S⟩:=My A;obtain⟨w,R,L⟩:=r.get P;have F:=r.length;have k:=Wq;have J:EP X Z U Q w s:=⟨z,H,I,L,q⟩
 by_cases h0:0<=i
 .have hj:i.toNat=j:=by
   rw[seqIndex_of h0 S]at G;exact ZT G
  exact item_listR M.isList h0 (by omega) (by rw[hj];simpa using R) J O
 .have hj:(i+(N.toArray.size:Int)).toNat=j:=by
   rw[seqIndex_neg (by omega) C]at G;rw[ZO,<-F];exact ZT G
  exact subscriptTail_builtinR (x:=w) M.isList.typeIs slot_list_getitem.lookup
   (wpAny_getItem_list_neg (Q:=λr T=>r=w/\EP X Z U Q r T) M.isList (by omega) (by rw[ZO] <;> omega) (by omega) (by rw[hj];simpa using R) ⟨rfl,J⟩) O
def Yq:IxR X (VZ X.K):=by
 intro value slice Z s U H x y v u Q I O N h T;replace h:=VZ.old h;obtain⟨p,C,i,z,rfl,rfl,B,E,q⟩:=h;cases O;obtain⟨t,rfl⟩:=N;obtain⟨R,r,L,P⟩:=I.tuple B;obtain⟨j,A,F,c,k,g⟩:=My E;obtain⟨w,S,J⟩:=r.get F;have D:=r.length;have m:=Wq;have G:EP X Z U Q w s:=⟨z,H,I,J,q⟩;exact subscriptTail_builtinR (x:=w) L.typeIs slot_tuple_getitem.lookup
  (getItem_tuple (j:=j) (Q:=λr M=>r=w/\EP X Z U Q r M) L (by omega) (by omega) (by rw[ZO,<-D];exact A) (by simpa using S) ⟨rfl,G⟩) T
def DQ:IxR X Cu:=by
 intro value slice Z s U H x y v u Q I L G h M;obtain⟨z,i,c,rfl,rfl,A,O,q⟩:=h;obtain⟨t,rfl⟩:=L;obtain⟨F,rfl⟩:=G;obtain⟨j,J,B,C,T,R⟩:=My O;have N:z.cps.toList.length=z.length:=by simp[Str.length]
 rw[N]at J T R;have S:=Wq
 exact tail_any (typeIs_str s z t) slot_str_getitem.lookup (getItem_str (c:=c) (by
  have E:decide (i < -(2 ^ 63:Int))=false:=Zy (by omega);have D:decide (i ≥ 2 ^ 63)=false:=Zy (by omega);rw[E,D,Bool.or_false]) (by rw[J];simpa using B) ⟨.str ⟨#[c]⟩,H,I.tok _,⟨_,rfl⟩,q⟩) M
def DB(Z:pW)(n j:Nat)(u:Value):Obj.mapSeq (·.setIfInBounds j u) {cls:=.type "list",data:=.seq Z.toArray n}={cls:=.type "list",data:=.seq (Z.set j u).toArray n}:=by
 simp[Obj.mapSeq]
def Inv.lst(I:Inv X G U H s)(h:H p=some (.lst J)):
  ∃(Z:pW)(n:Nat),Vals J Z/\s.heap.get? p=some {cls:=.type "list",data:=.seq Z.toArray n}/\J.length<=sizeLine:=by
 obtain⟨z,Z,n,r,e⟩:=I.hok p _ h;exact⟨Z,n,r,e,z⟩
def Inv.lstUpd{G Z:pW}(I:Inv X J U H s)(h:H p=some (.lst T))(O:s.heap.get? p=some {cls:=.type "list",data:=.seq G.toArray n})(M:f {cls:=.type "list",data:=.seq G.toArray n}={cls:=.type "list",data:=.seq Z.toArray n'})(r:Vals L Z)(N:L.length<=sizeLine)(t:Nat):
  Inv X J U (upd H p<|.lst L) {s with heap:=s.heap.update p f,toks:=t}:=by
 have e:(s.heap.update p f).get? p=some {cls:=.type "list",data:=.seq Z.toArray n'}:=by
  rw[Heap.get?_update_self f O (by rw[M] <;> rfl),M]
 refine I.write (x:=p) (e:=p) (by rw[h];trivial) (.inl Y) (λb u R q=>(Heap.get?_update_other _ _<|Zs R).trans q) ⟨_,e⟩ ?_;exact⟨N,Z,n',r,e⟩
def Ct:V->V->V->Hp->(Hp->Prop)->Prop:=λo i v H Q=>∃p Z k j,o=.ref p/\i=.int k/\H p=some (.lst Z)/\ixN Z.length k=some j/\Q (upd H p<|.lst<|Z.set j v)
def set_list:yZ X Ct:=by
 intro Z s U H o i v C P u Q I E F D h;obtain⟨p,B,k,j,rfl,rfl,N,S,q⟩:=h;cases E;obtain⟨t,rfl⟩:=F;obtain⟨J,n,r,L,A⟩:=I.lst N;obtain⟨G,z,R,O⟩:=Eb S;have M:=r.length;have y:=Wq
 have T:Inv X Z U (upd H p<|.lst<|B.set j v) {s with heap:=s.heap.update p (Obj.mapSeq (·.setIfInBounds j u))}:=
  I.lstUpd N L (DB J n j u) (r.set D j) (by rw[List.length_set];exact A) s.toks
 by_cases h0:0<=k
 .have hk:k.toNat=j:=by
   rw[seqIndex_of h0 O]at G;exact ZT G
  exact W.ki_setAt L h0 (by omega) (by rw[ZO,<-M];exact O) (by rw[hk];exact⟨_,T,q⟩)
 .have hk:(k+(J.toArray.size:Int)).toNat=j:=by
   rw[seqIndex_neg (by omega) R]at G;rw[ZO,<-M];exact ZT G
  exact W.ki_setBack L (by omega) (by rw[ZO,<-M];exact R) (by omega) (by rw[hk];exact⟨_,T,q⟩)
def ME(Z J:pY)(n:Nat):(sliceBounds Z J none n).1=((HT.sIx n 0 Z:Nat):Int)/\(sliceBounds Z J none n).2.1=((HT.sIx n n J:Nat):Int)/\(sliceBounds Z J none n).2.2=1:=by
 refine⟨?_,?_,Y⟩
 .cases Z with
  |none=>simp[sliceBounds,HT.sIx]
  |some i=>
   simp only[sliceBounds,HT.sIx,Option.getD_none,show(1:Int) > 0 by decide,if_true]
   by_cases h:i<0
   .simp only[h,if_true] <;> omega
   .simp only[h,if_false] <;> omega
 .cases J with
  |none=>simp[sliceBounds,HT.sIx]
  |some i=>
   simp only[sliceBounds,HT.sIx,Option.getD_none,show(1:Int) > 0 by decide,if_true]
   by_cases h:i<0
   .simp only[h,if_true] <;> omega
   .simp only[h,if_false] <;> omega
def Tr(Z:pW)(J G:pY):slicePick Z.toArray J G none=((Z.drop<|HT.sIx Z.length 0 J).take<|HT.sIx Z.length Z.length G-HT.sIx Z.length 0 J).toArray:=by
 obtain⟨N,M,L⟩:=ME J G Z.toArray.size;unfold slicePick;rw[N,M,L];simp only[sliceRange_one,pick_run,ZO] <;> rfl
def vH(K:W.Frag):V->Option Int->Option Int->Hp->VK->Prop:=λx J G H Q=>∃a Z,x=.ref a/\SqL K H a Z/\∀p,H p=none->Q (.ref p) (upd H p<|.lst<|Uq Z J G)
def XM:SlR X (vH X.K):=by
 intro M s U H x v S A G L sl Q I O F T R h;obtain⟨a,Z,rfl,E,q⟩:=h;cases O;obtain⟨B,r,N,D⟩:=I.list E;have J:=r.length;exists "list",_,slot_list_getitem.lookup,N.isList.typeIs;refine wpAny_getItem_list_slice N.isList F T R .none (by simp) ?_ (by rw[ZO] <;> omega);rw[Tr,<-J];refine⟨.ref s.heap.objs.size,_,I.laid (t':=s.toks) (o:=.lst<|Uq Z G L) (λb C q=>ZE _ q) (ZG _) ?_,rfl,q _<|I.hok.fresh<|ZG _⟩;exact⟨Zb (W8 Z G L) D,_,0,(r.drop<|HT.sIx Z.length 0 G).take<|HT.sIx Z.length Z.length L-HT.sIx Z.length 0 G,ZY _ rfl⟩
def XC:V->Bool
 |.non=>true
 |.bl _=>true
 |.int _=>true
 |.str _=>true
 |_=>false
def eqV:V->V->Bool
 |.non,.non=>true
 |.bl a,.bl b=>a==b
 |.bl a,.int b=>(if a then 1 else 0)==b
 |.int a,.bl b=>a==(if b then 1 else 0)
 |.int a,.int b=>a==b
 |.str a,.str b=>a==b
 |_,_=>false
def Ax(G:RelV y u)(Z:RelV x v)(M:XC y=true)(L:XC x=true):SeqAt.EqAt A s u v (eqV y x):=by
 cases y with
 |non=>
  cases G
  cases x with
  |non=>cases Z;exact SeqAt.EqAt.same _
  |bl b=>cases Z;exact SeqAt.EqAt.none_bool b
  |int b=>obtain⟨t,rfl⟩:=Z;exact SeqAt.EqAt.none_int b t
  |str b=>obtain⟨t,rfl⟩:=Z;exact SeqAt.EqAt.none_str b t
  |_=>exact Zr (show false=true from L) Zi
 |bl a=>
  cases G
  cases x with
  |non=>cases Z;exact SeqAt.EqAt.bool_none a
  |bl b=>cases Z;exact SeqAt.EqAt.bool_bool a b
  |int b=>obtain⟨t,rfl⟩:=Z;exact SeqAt.EqAt.bool_int a b t
  |str b=>obtain⟨t,rfl⟩:=Z;exact SeqAt.EqAt.bool_str a b t
  |_=>exact Zr (show false=true from L) Zi
 |int a=>
  obtain⟨J,rfl⟩:=G
  cases x with
  |non=>cases Z;exact SeqAt.EqAt.int_none a J
  |bl b=>cases Z;exact SeqAt.EqAt.int_bool a J b
  |int b=>obtain⟨t,rfl⟩:=Z;exact SeqAt.EqAt.int_int a J b t
  |str b=>obtain⟨t,rfl⟩:=Z;exact SeqAt.EqAt.int_str a J b t
  |_=>exact Zr (show false=true from L) Zi
 |str a=>
  obtain⟨J,rfl⟩:=G
  cases x with
  |non=>cases Z;exact SeqAt.EqAt.str_none a J
  |bl b=>cases Z;exact SeqAt.EqAt.str_bool a J b
  |int b=>obtain⟨t,rfl⟩:=Z;exact SeqAt.EqAt.str_int a J b t
  |str b=>obtain⟨t,rfl⟩:=Z;exact SeqAt.EqAt.str_str a J b t
  |_=>exact Zr (show false=true from L) Zi
 |_=>exact Zr (show false=true from M) Zi
def eqU(x:V)(u:Value):Bool:=match u with
 |.none=>eqV .non x
 |.bool b=>eqV (.bl b) x
 |.int i _=>eqV (.int i) x
 |.str z _=>eqV (.str z) x
 |_=>false
def L1(r:RelV y u)(f:XC y=true):eqU x u=eqV y x:=by
 cases y with
 |non=>cases r;rfl
 |bl b=>cases r;rfl
 |int i=>obtain⟨t,rfl⟩:=r;rfl
 |str z=>obtain⟨t,rfl⟩:=r;rfl
 |_=>exact Zr (show false=true from f) Zi
theorem WM:∀{Z:xg}{J:pW},Vals Z J->Z.all XC=true->J.any (eqU x)=Z.any λy=>eqV y x
 |_,_,.nil,_=>rfl
 |y::Z,u::J,.cons r t,f=>by
  rw[pC,ZZ]at f;rw[qI,qI,L1 r f.1,WM t f.2]
theorem U8(L:RelV x v)(M:XC x=true):∀{J:xg}{G:pW},Vals J G->J.all XC=true->∀u∈G,SeqAt.EqAt A s u v<|eqU x u
 |_,_,.nil,_=>λu Z=>by cases Z
 |y::J,u::G,.cons r t,f=>λN Z=>by
  rw[pC,ZZ]at f;rcases Zd.mp Z with rfl|Z
  .rw [L1 r f.1];exact Ax r L f.1 M
  .exact U8 L M t f.2 N Z
def inV(x:V)(xs:xg):Bool:=xs.any λy=>eqV y x
def rIn(K:W.Frag)(neg:Bool):R2:=λx y H Q=>∃p Z,y=.ref p/\(SqL K H p Z\/SqT K H p Z)/\XC x=true/\Z.all XC=true/\Q (.bl<|if neg then !inV x Z else inV x Z) H
def XQ:OpR X (compareOp .In) (rIn X.K false):=by
 intro M s U H x y v u Q I L O h;obtain⟨p,R,rfl,Z,N,J,q⟩:=h;cases O;rcases Z with Z|Z
 .obtain ⟨its,r,pl,hz⟩:=I.list Z
  refine SeqAt.in_listAt (eqU x) pl.isList (λw G=>U8 L N r J w<|by simpa using G) ⟨.bl _,H,I,rfl,?_⟩;rw[show its.toArray.any (eqU x)=its.any (eqU x) by simp,WM r J];exact q
 .obtain ⟨its,r,pl,hz⟩:=I.tuple Z
  refine SeqAt.in_tupleAt (eqU x) pl (λw G=>U8 L N r J w<|by simpa using G) ⟨.bl _,H,I,rfl,?_⟩;rw[show its.toArray.any (eqU x)=its.any (eqU x) by simp,WM r J];exact q
def Jk:OpR X (compareOp .NotIn) (rIn X.K true):=by
 intro M s U H x y v u Q I L O h;obtain⟨p,R,rfl,Z,N,J,q⟩:=h;cases O;rcases Z with Z|Z
 .obtain ⟨its,r,pl,hz⟩:=I.list Z
  refine SeqAt.notIn_listAt (eqU x) pl.isList (λw G=>U8 L N r J w<|by simpa using G) ⟨.bl _,H,I,rfl,?_⟩;rw[show its.toArray.any (eqU x)=its.any (eqU x) by simp,WM r J];exact q
 .obtain ⟨its,r,pl,hz⟩:=I.tuple Z
  refine SeqAt.notIn_tupleAt (eqU x) pl (λw G=>U8 L N r J w<|by simpa using G) ⟨.bl _,H,I,rfl,?_⟩;rw[show its.toArray.any (eqU x)=its.any (eqU x) by simp,WM r J];exact q
def Y6:J1 X (.builtin "len") (λL H Q=>∃p J,L=[.ref p]/\(SqL X.K H p J\/SqT X.K H p J)/\Q (.int J.length) H):=by
 intro M s U H L O Q I r h;obtain⟨p,J,rfl,G,q⟩:=h;obtain⟨u,rfl,N⟩:=vals1 r;cases N;have R:=Wq;rcases G with G|G
 .obtain ⟨its,r',pl,hz⟩:=I.list G
  have Z:=r'.length;exact Calls.call_len_list pl.isList (by simp only[ZO] <;> omega) ⟨.int J.length,H,I.tok _,⟨s.toks+1,by rw[ZO,Z]⟩,q⟩
 .obtain ⟨its,r',pl,hz⟩:=I.tuple G
  have Z:=r'.length;exact len_tuple pl (by simp only[ZO] <;> omega) ⟨.int J.length,H,I.tok _,⟨s.toks+1,by rw[ZO,Z]⟩,q⟩
def Mw:J1 X (.builtin "len") (λZ H Q=>∃z,Z=[.str z]/\z.length<=sizeLine/\Q (.int z.length) H):=by
 intro J s U H Z G Q I r h;obtain⟨z,rfl,L,q⟩:=h;obtain⟨u,rfl,t,rfl⟩:=vals1 r;have M:=Wq;exact len_str (by omega) ⟨.int z.length,H,I.tok _,⟨_,Y⟩,q⟩
def Ur:J1 X (.type "list") (λA H Q=>∃p G,A=[.ref p]/\(SqL X.K H p G\/SqT X.K H p G)/\∀l,H l=none->Q (.ref l) (upd H l<|.lst G)):=by
 intro N s U H A P Q I r h;obtain⟨p,G,rfl,T,q⟩:=h;obtain⟨u,rfl,C⟩:=vals1 r;cases C;have D:∀(Z:pW),Vals G Z->G.length<=sizeLine->∀(J:Heap)(M:Nat),(∀b S,s.heap.get? b=some S->J.get? b=some S)->
   J.get? s.heap.objs.size=some {cls:=.type "list",dict:=none,data:=.seq Z.toArray M,slots:= #[]}->EP X N U Q (.ref s.heap.objs.size) {s with heap:=J}:=λZ L R J M O e=>
  ⟨.ref s.heap.objs.size,_,I.laid (t':=s.toks) O (ZG _) (show VQ X.prog X.w _ J _ (.lst G)from⟨R,Z,M,L,e⟩),rfl,q _<|I.hok.fresh<|ZG _⟩
 rcases T with T|T
 .obtain ⟨Z,L,pl,R⟩:=I.list T
  have B:=L.length;obtain⟨o,E,F,n,hd⟩:=pl.isList;exact call_list_seq p (.inl Y) E F hd (λJ M O e=>D Z L R J M O e) (by simp only[ZO] <;> omega)
 .obtain ⟨Z,L,pl,R⟩:=I.tuple T
  have B:=L.length;obtain⟨o,E,F,n,hd⟩:=pl;exact call_list_seq p (.inr Y) E F hd (λJ M O e=>D Z L R J M O e) (by simp only[ZO] <;> omega)
def V3:J1 X (.type "tuple") (λM H Q=>∃p J,M=[.ref p]/\((SqL X.K H p J/\∀l,H l=none->Q (.ref l) (upd H l<|.tup J))\/(SqT X.K H p J/\Q (.ref p) H))):=by
 intro Z s U H M D Q I r h;obtain⟨p,J,rfl,h⟩:=h;obtain⟨u,rfl,R⟩:=vals1 r;cases R;rcases h with⟨L,q⟩|⟨L,q⟩
 .obtain ⟨its,r',pl,hz⟩:=I.list L
  have N:=r'.length;refine call_tuple_list pl.isList (λG T=>?_) (by simp only[ZO] <;> omega);have O:Inv X Z U H {s with heap:=G}:=I.kept (t':=s.toks) T
  have B:Inv X Z U (upd H G.objs.size<|.tup J) {s with heap:=G.push {cls:=.type "tuple",data:=.seq its.toArray}}:=
   O.laid (t':=s.toks) (λb o e=>ZE _ e) (ZG _) (show VQ X.prog X.w _ _ _ (.tup J)from⟨hz,its,r',GL.new _ _⟩)
  exact⟨.ref G.objs.size,_,B,Y,q _<|O.hok.fresh<|ZG _⟩
 .obtain ⟨its,r',pl,hz⟩:=I.tuple L
  exact call_tuple_same pl ⟨.ref p,H,I,Y,q⟩
def tyV(K:W.Frag)(T:String)(x:V)(H:Hp):Prop:=match x with
 |.str _=>T="str"
 |.int _=>T="int"
 |.ref p=>(T="list" /\∃xs,SqL K H p xs)\/(T="tuple" /\∃o,K.lookup p=some o/\o.cls=.type "tuple" /\o.dict=none) \/
   (T="dict" /\((∃kvs,H p=some (.dK kvs)) \/ ∃kvs,H p=some (.dT kvs)))\/(T="set" /\∃S n,H p=some (.set S n))
 |_=>False
def F0(I:Inv X M U H s)(r:RelV x v)(ty:tyV X.K T x H):
  s.TypeIs v T/\∀a,v=.ref a->∃N,s.heap.get? a=some N/\N.dict=none:=by
 cases x with
 |str z=>
  obtain⟨t,rfl⟩:=r;cases(show T="str" from ty);exact⟨typeIs_str s z t,λ_ e=>nomatch e⟩
 |int i=>
  obtain⟨t,rfl⟩:=r;cases(show T="int" from ty);exact⟨typeIs_int s i t,λ_ e=>nomatch e⟩
 |ref p=>
  cases r;rcases ty with⟨rfl,B,O⟩|⟨rfl,o,Z,R,hd⟩|⟨rfl,Z⟩|⟨rfl,S,n,Z⟩
  .obtain ⟨its,_,pl,_⟩:=I.list O
   refine⟨pl.isList.typeIs,λa e=>?_⟩;cases e;obtain⟨o,n,e,c,hd,_⟩:=pl;exact⟨o,e,hd⟩
  .refine ⟨⟨o,I.kIn p o Z,R⟩,λa e=>?_⟩
   cases e;exact⟨o,I.kIn _ o Z,hd⟩
  .have z:∃o,s.heap.get? p=some o/\o.ExactDict:=by
    rcases Z with⟨G,Z⟩|⟨G,Z⟩
    .obtain ⟨_,_,_,_,o,_,_,e,J,_⟩:=I.hok p _ Z
     exact⟨o,e,J⟩
    .obtain ⟨_,_,_,_,o,_,_,e,J,_⟩:=I.hok p _ Z
     exact⟨o,e,J⟩
   obtain⟨o,e,J⟩:=z;refine⟨⟨o,e,J.1⟩,λa L=>?_⟩;cases L;exact⟨o,e,J.2.1⟩
  .obtain ⟨o,_,_,_,e,J,_⟩:=I.hok p _ Z
   refine⟨⟨o,e,J.1⟩,λa L=>?_⟩;cases L;exact⟨o,e,J.2.1⟩
 |_=>exact False.elim ty
def yj(K:W.Frag)(T:String)(r:V->List V->Hp->VK->Prop)(to:TE):TE:=λU H Q=>to U H λx Z=>tyV K T x Z/\r x [] Z Q
def tBM(K:W.Frag)(T:String)(r:V->List V->Hp->VK->Prop)(to:TE)(t:TA):TE:=λU H Q=>to U H λx Z=>tyV K T x Z/\t U Z λJ G=>r x J G Q
variable{T id:String}
def Kb(B:PlainAttrs T)(slot:Slot T name id)(L:typeOf (.builtin id)=pure (.type "method_descriptor"))(E:MtR X id r)(D:PE X o to)(G:attributeBase o name X.env (eval o X.env)=eval o X.env:=by rfl)(J:(apos.endLine==cpos.line)=true:=by rfl):PE X (.Call (.Attribute o name apos) [] [] cpos) (yj X.K T r to):=by
 intro Z s U H Q I h;refine wpAny_Call_method0_late G J<|thn (D Z s U H _ I h) λv O ⟨x,S,N,M,ty,R⟩=>?_;obtain⟨A,F⟩:=F0 N M ty;exact⟨T,id,B,slot,L,A,F,Calls.callWith_builtin Y (PySem.evalArgs_none<|E Z O U S x [] v [] Q N M .nil R)⟩
def UI(y:PlainAttrs T)(slot:Slot T name id)(O:typeOf (.builtin id)=pure (.type "method_descriptor"))(m:MtR X id r)(q:PE X o to)(g:PA X (e::M) t)(L:attributeBase o name X.env (eval o X.env)=eval o X.env:=by rfl)(N:((backTo cpos<|starEach (e::M) X.env).all (λx=>!x.1) && (backToKw cpos<|keywordEach [] X.env).all (λx=>x.1.isSome)
   && decide ((e::M).length+([]:List Keyword).length+(if([]:List Keyword).isEmpty then 0 else 1)<30))=true:=by rfl)(G:(apos.endLine==cpos.line)=true:=by rfl)(z:starEach (e::M) X.env=(false,eval e X.env)::starEach M X.env:=by rfl)(J:(backTo cpos<|starEach M X.env).any (·.1)=false:=by rfl):
  PE X (.Call (.Attribute o name apos) (e::M) [] cpos) (tBM X.K T r to t):=by
 intro Z s U H Q I h;refine wpAny_Call_method_late L N G Y (thn (q Z s U H _ I h) λv S ⟨x,f,D,R,ty,j⟩=>?_);obtain⟨p,k⟩:=F0 D R ty;exists T,id,y,slot,O,p,k;have B:=g cpos Z S U f _ D j;rw[z]at B |-;refine Calls.callWith_builtin (by show(false || (backTo cpos<|starEach M X.env).any (·.1))=false;rw[J] <;> rfl)<|Calls.evalArgs_plain ?_;exact thn B λF A ⟨E,d,c,C,P⟩=>m Z A U d x E v F Q c R C P
end
def MtM(X:Cx)(id:String)(r:V->List V->Hp->VK->Prop):Prop:=
 ∀(Z:pU)(s:Shared)(U:St)(H:Hp)(x:V)(J:xg)(v:Value)(G:pW)(Q:VK),Inv X Z U H s->RelV x v->Vals J G->r x J H Q->
  wpAny (model X.prog X.w) X.A (call (.builtin id) (v::G)) (EP X Z U Q) X.xe s
theorem Vals.one:∀{x:V}{Z:pW},Vals [x] Z->∃u,Z=[u]/\RelV x u
 |_,_,.cons r .nil=>⟨_,rfl,r⟩
theorem Vals.zero:∀{Z:pW},Vals [] Z->Z=[]
 |_,.nil=>rfl
def Vals.dropLast(h:Vals Z J):Vals Z.dropLast J.dropLast:=by
 induction h with
 |nil=>exact .nil
 |cons r t ih=>
  cases t with
  |nil=>exact .nil
  |cons q G=>exact .cons r ih
def De(l:List α):l.eraseIdx (l.length-1)=l.dropLast:=by
 induction l with
 |nil=>rfl
 |cons a r ih=>
  cases r with
  |nil=>rfl
  |cons b r=>
   have e:(a::b::r).length-1=((b::r).length-1)+1:=by
    have J:(a::b::r).length=r.length+2:=rfl;have Z:(b::r).length=r.length+1:=rfl;omega
   rw[e,List.eraseIdx_cons_succ,ih]
   all_goals rfl
section
def Inv.lset{J its':pW}(I:Inv X Z U H s)(T:H l=some (.lst B))(e:s.heap.get? l=some {cls:=.type "list",data:=.seq J.toArray n})(O:f J.toArray=its'.toArray)(M:Vals G its')(L:G.length<=sizeLine):
  Inv X Z U (upd H l<|.lst G) {s with heap:=s.heap.update l<|Obj.mapSeq f,toks:=D}:=by
 have q:=PySem.IsL.update e f;rw[O]at q;refine I.write (x:=l) (e:=l) (by rw[T];exact trivial) (.inl Y) (λE u R N=>(Heap.get?_update_other s.heap (Obj.mapSeq f)<|Zs R).trans N) ⟨_,q⟩ ?_;exact⟨L,its',_,M,q⟩
def Inv.lnew(I:Inv X Z U H s)(M:Vals G J)(L:G.length<=sizeLine):
  Inv X Z U (upd H s.heap.objs.size<|.lst G) {s with heap:=s.heap.push {cls:=.type "list",data:=.seq J.toArray},toks:=t'}:=
 I.laid (λ_ _ q=>ZE _ q) (ZG _) ⟨L,J,0,M,ZY _ rfl⟩
def Inv.fresh(I:Inv X Z U H s):H s.heap.objs.size=none:=I.hok.fresh<|ZG _
def Inv.lstM(I:Inv X G U H s)(L:H l=some (.lst J)):J.length<=sizeLine/\∃(Z:pW)(n:Nat),Vals J Z/\J.length=Z.length/\s.heap.get? l=some {cls:=.type "list",data:=.seq Z.toArray n}:=by
 obtain⟨z,Z,n,r,e⟩:=I.hok l _ L;exact⟨z,Z,n,r,r.length,e⟩
end
section
def PH:V->List V->Hp->VK->Prop:=λx J H Q=>∃l Z y,x=.ref l/\J=[y]/\H l=some (.lst Z)/\Z.length<sizeLine/\Q .non (upd H l<|.lst<|Z++[y])
def Ve:MtM X "list.append" PH:=by
 intro J s U H x R v T Q I L M h;obtain⟨l,O,y,rfl,rfl,G,B,q⟩:=h;cases L;obtain⟨u,rfl,N⟩:=M.one;obtain⟨z,Z,n,r,D,e⟩:=I.lstM G;refine call_meets F.slot_list_append ⟨_,e,Y⟩ F.entry_list_append (F.args_list_append_2 _ _) (PySem.list_append l Z.toArray n u (by rw[ZO];omega)) ⟨e,?_⟩;refine⟨.non,_,I.lset (its':=Z++[u]) G e (by simp) (r.append<|.cons N .nil) ?_,rfl,q⟩;rw[ZL,vy];omega
def vI:V->List V->Hp->VK->Prop:=λx J H Q=>∃l Z y,x=.ref l/\J=[]/\H l=some (.lst Z)/\Z[Z.length-1]?=some y/\Q y (upd H l<|.lst Z.dropLast)
def LE:MtM X "list.pop" vI:=by
 intro L s U H x A v S Q I N O h;obtain⟨l,E,y,rfl,rfl,M,T,q⟩:=h;cases N;have G:=O.zero;subst G;obtain⟨z,Z,n,r,D,e⟩:=I.lstM M;obtain⟨u,B,R⟩:=r.get T
 have J:Z.toArray[Z.toArray.size-1]?=some u:=by
  show Z.toArray[Z.length-1]?=some u;rw[<-Array.getElem?_toList,<-D];exact B
 refine call_meets F.slot_list_pop ⟨_,e,Y⟩ F.entry_list_pop (F.args_list_pop_1 _) (MeetsSeq.list_pop_last l Z.toArray n u J (by rw[ZO];omega)) ⟨e,?_⟩;refine⟨y,_,I.lset (its':=Z.dropLast) M e ?_ r.dropLast ?_,R,q⟩
 .show Z.toArray.eraseIdxIfInBounds (Z.toArray.size-1)=Z.dropLast.toArray
  rw[ZO,List.eraseIdxIfInBounds_toArray,De]
 .rw [jr]
  omega
def vL:R2:=λx y H Q=>∃l b J Z,x=.ref l/\y=.ref b/\H l=some (.lst J)/\H b=some (.lst Z)/\J.length+Z.length<=sizeLine/\∀p,H p=none->Q (.ref p) (upd H p<|.lst<|J++ Z)
def Kh:OpR X (binaryOp .Add) vL:=by
 intro G s U H x y v u Q I M L h;obtain⟨l,b,A,E,rfl,rfl,R,T,C,q⟩:=h;cases M;cases L;obtain⟨z,J,n,r,P,e⟩:=I.lstM R;obtain⟨F,Z,S,N,O,D⟩:=I.lstM T;refine PySem.P.add_list e D ?_ (by rw[ZO,ZO];omega);have B:J.toArray++ Z.toArray=(J++ Z).toArray:=by simp
 rw[B];exact⟨.ref _,_,I.lnew (t':=s.toks) (r.append N) (by rw[ZL];omega),Y,q _ I.fresh⟩
end
section
set_option maxRecDepth 100000 in
end
section
variable{κ:Type}[DecidableEq κ]
def VF(kvs:List (κ×V))(k:κ):xm:=(kvs.find? λZ=>decide<|Z.1=k).map (·.2)
def putK(kvs:List (κ×V))(k:κ)(v:V):List (κ×V):=
 if(kvs.any λZ=>decide<|Z.1=k)=true then kvs.map (λZ=>if Z.1=k then(Z.1,v)else Z)else kvs++[(k,v)]
def Va{p:κ×V}(e:p.1=k):VF (p::r) k=some p.2:=by simp[VF,jB,e]
def Vf{p:κ×V}(e:¬p.1=k):VF (p::r) k=VF r k:=by simp[VF,jB,e]
theorem Jy(k:κ):∀Z:List (κ×V),(Z.any λJ=>decide<|J.1=k)=(VF Z k).isSome
 |[]=>rfl
 |p::r=>by
  rw[qI]
  by_cases e:p.1=k
  .simp only[Va e,decide_eq_true e,Bool.true_or,Option.isSome_some]
  .rw [Vf e,Zy e,Bool.false_or];exact Jy k r
theorem M3(k j:κ)(y:V):∀Z:List (κ×V),VF (Z.map λJ=>if J.1=k then(J.1,y)else J) j=(VF Z j).map λx=>if j=k then y else x
 |[]=>rfl
 |p::r=>by
  have ih:=M3 k j y r;rw[ZV]
  by_cases h:p.1=k
  .rw [Zp h]
   by_cases e:p.1=j
   .rw [Va (p:=(p.1,y)) e,Va e,kL,Zp (e.symm.trans h)]
   .rw [Vf (p:=(p.1,y)) e,Vf e,ih]
  .rw [Zq h]
   by_cases e:p.1=j
   .rw [Va (p:=p) e,Va e,kL,Zq (λz=>h<|e.trans z)]
   .rw [Vf (p:=p) e,Vf e,ih]
theorem Tz(k j:κ)(y:V):∀Z:List (κ×V),VF Z k=none->VF (Z++[(k,y)]) j=if j=k then some y else VF Z j
 |[],_=>by
  by_cases e:k=j
  .rw [Zp e.symm];exact Va (p:=(k,y)) e
  .rw [Zq (λz=>e z.symm)];exact Vf (p:=(k,y)) e
 |p::r,hn=>by
  rw[List.cons_append];have J:¬p.1=k:=λz=>by rw[Va z]at hn;cases hn
  rw[Vf J]at hn;have ih:=Tz k j y r hn
  by_cases e:p.1=j
  .rw [Va e,Va e,Zq (λz=>J<|e.trans z)]
  .rw [Vf e,Vf e,ih]
def JL(Z:List (κ×V))(k j:κ)(y:V):VF (putK Z k y) j=if j=k then some y else VF Z j:=by
 unfold putK
 by_cases a:(Z.any λJ=>decide<|J.1=k)=true
 .rw [Zp a,M3]
  rw[Jy]at a
  by_cases e:j=k
  .obtain ⟨x,hx⟩:=qZ.mp a
   rw[Zp e,e,hx,kL,Zp rfl]
  .rw [Zq e]
   cases VF Z j with
   |none=>rfl
   |some x=>rw[kL,Zq e]
 .rw [Zq a]
  refine Tz k j y Z ?_;rw[Jy]at a
  cases q:VF Z k with
  |none=>rfl
  |some x=>rw[q]at a;exact(a rfl).elim
def Vd(Z:List (κ×V))(k:κ)(v:V):(putK Z k v).length<=Z.length+1:=by
 unfold putK
 split
 .rw [ZA];omega
 .rw [ZL,Zf,kM];omega
def JZ{Z:List (κ×V)}(v:V)(h:VF Z k=none):putK Z k v=Z++[(k,v)]:=by
 unfold putK;rw[Jy,h];exact Zq<|by decide
def Ud.isSome_eq(r:Ud o u):o.isSome=u.isSome:=by
 cases o with
 |none=>cases u with
  |none=>rfl
  |some _=>exact(show False from r).elim
 |some _=>cases u with
  |none=>exact(show False from r).elim
  |some _=>rfl
def Ud.getD(r:Ud o u)(Z:RelV d d'):RelV (o.getD d) (u.getD d'):=by
 cases o with
 |none=>cases u with
  |none=>exact Z
  |some _=>exact(show False from r).elim
 |some _=>cases u with
  |none=>exact(show False from r).elim
  |some _=>exact r
def KV.val(r:KV J L)(k:κ):Ud (VF J k) (valueAt L k):=by
 unfold KV at r
 induction r with
 |nil=>exact True.intro
 | @cons p q N Z h t ih=>
  obtain⟨G,M⟩:=h
  by_cases e:p.1=k
  .have e':q.1=k:=G.symm.trans e
   have b:valueAt (q::Z) k=some q.2:=by simp[valueAt,jB,e']
   rw[Va e,b];exact M
  .have e':¬q.1=k:=λz=>e<|G.trans z
   have b:valueAt (q::Z) k=valueAt Z k:=by simp[valueAt,jB,e']
   rw[Vf e,b];exact ih
def KV.any(r:KV Z G)(k:κ):(Z.any λJ=>decide<|J.1=k)=G.any λJ=>decide (J.1=k):=by
 unfold KV at r
 induction r with
 |nil=>rfl
 |cons h t ih=>rw[qI,qI,ih,h.1]
def KV.repl(r:KV G L)(k:κ)(M:RelV y u):
  KV (G.map λZ=>if Z.1=k then(Z.1,y)else Z) (L.map λZ=>if Z.1=k then(Z.1,u)else Z):=by
 unfold KV at r |-
 induction r with
 |nil=>exact .nil
 | @cons p q R O h t ih=>
  rw[ZV,ZV];refine .cons ?_ ih;obtain⟨J,N⟩:=h
  by_cases e:p.1=k
  .rw [Zp e,Zp (J.symm.trans e)];exact⟨J,M⟩
  .rw [Zq e,Zq (λz=>e<|J.trans z)];exact⟨J,N⟩
def KV.put(r:KV Z J)(k:κ)(G:RelV y u):KV (putK Z k y) (stored J k u):=by
 unfold putK stored;rw[r.any k]
 by_cases e:(J.any λL=>decide<|L.1=k)=true
 .rw [Zp e,Zp e];exact r.repl k G
 .rw [Zq e,Zq e];exact Paired.snoc r ⟨Y,G⟩
def KV.keys{Z:List (κ×V)}(r:KV Z J):Z.map (·.1)=J.map (·.1):=by
 unfold KV at r
 induction r with
 |nil=>rfl
 |cons h t ih=>rw[ZV,ZV,ih,h.1]
def KV.length(r:KV Z J):Z.length=J.length:=Paired.length r
end
def XA(r:RelV (kV k) u):(VA P w).is k u=true:=by
 cases k with
 |inl i=>obtain⟨t,e⟩:=(show ∃t,u=Value.int i t from r);subst e;exact NT P w i t
 |inr x=>obtain⟨t,e⟩:=(show ∃t,u=Value.str x t from r);subst e;exact NS P w x t
theorem RK:∀{Z:List Key}{J:pW},Vals (Z.map kV) J->ItemsAre (VA P w) Z J
 |[],_,r=>by rw[j9]at r;cases r;exact .nil
 |k::Z,_,r=>by
  rw[ZV]at r
  cases r with
  |cons h t=>exact .cons (XA h)<|RK t
abbrev KT(H:Hp):List (List Key×V)->List (List Key×Addr×Value)->Prop:=Paired λp q=>p.1=q.1/\H q.2.1=some (.tup (p.1.map kV))/\RelV p.2 q.2.2
def KT.val(r:KT H J L)(k:List Key):Ud (VF J k) ((atKey L k).map (·.2)):=by
 induction r with
 |nil=>exact True.intro
 | @cons p q N Z h t ih=>
  obtain⟨G,_,M⟩:=h
  by_cases e:p.1=k
  .have e':q.1=k:=G.symm.trans e
   have b:atKey (q::Z) k=some q.2:=by simp[atKey,jB,e']
   rw[Va e,b];exact M
  .have e':¬q.1=k:=λz=>e<|G.trans z
   have b:atKey (q::Z) k=atKey Z k:=by simp[atKey,jB,e']
   rw[Vf e,b];exact ih
def KT.repl(r:KT H J M)(k:List Key)(N:RelV y u):
  KT H (J.map λG=>if G.1=k then(G.1,y)else G) (M.map<|putAt k u):=by
 induction r with
 |nil=>exact .nil
 | @cons p q T R h t ih=>
  rw[ZV,ZV];refine .cons ?_ ih;obtain⟨Z,L,O⟩:=h;unfold putAt
  by_cases e:p.1=k
  .rw [Zp e,Zp (Z.symm.trans e)];exact⟨Z,L,N⟩
  .rw [Zq e,Zq (λz=>e<|Z.trans z)];exact⟨Z,L,O⟩
def KT.put(r:KT H Z J)(k:List Key)(M:H b=some (.tup<|k.map kV))(G:RelV y u):
  KT H (putK Z k y) (storedH J k b u):=by
 have e:(Z.any λL=>decide<|L.1=k)=(atKey J k).isSome:=by
  rw[Jy,(r.val k).isSome_eq,qv]
 unfold putK storedH;rw[e]
 by_cases q:(atKey J k).isSome=true
 .rw [Zp q,Zp q];exact r.repl k G
 .rw [Zq q,Zq q];exact Paired.snoc r ⟨Y,M,G⟩
def KT.keeps(r:KT H Z G)(L:∀b J,H b=some (.tup J)->M b=some (.tup J)):KT M Z G:=
 Paired.mapP r λ_ _ z=>⟨z.1,L _ _ z.2.1,z.2.2⟩
section
def Qf(Z:HOk P w H h)(e:Rd H a u):VQ P w H h a u:=e.ok Z
def WG(G:HOk P w H h)(e:Rd H a (.dK Z)):Z.length<=sizeLine/\(a==sysModules)=false/\∃J,KV Z J/\h.DictOf (VA P w) a J:=
 show VQ P w H h a (.dK Z)from Qf G e
def El(G:HOk P w H h)(e:H a=some (.dK Z)):Z.length<=sizeLine/\(a==sysModules)=false/\∃J,KV Z J/\h.DictOf (VA P w) a J:=WG G<|.inl e
def Wt(G:HOk P w H h)(e:H a=some (.tup<|J.map kV)):(tupleKind<|VA P w).is h J a:=by
 obtain⟨_,Z,r,o,N,_,M,n,L⟩:=(show VQ P w H h a (.tup<|J.map kV)from G a _ e);exact⟨o,Z.toArray,n,N,M,L,by simpa using RK r⟩
def Tf(M:HOk P w H h)(e:Rd H a (.dT Z)):Z.length<=sizeLine/\(a==sysModules)=false/\
  ∃G,KT H Z G/\h.DictOfH (tupleKind<|VA P w) a G:=by
 obtain⟨z,y,G,r,o,E,F,D,B,T,R,O⟩:=(show VQ P w H h a (.dT Z)from Qf M e);refine⟨z,y,G,r,o,E,F,D,B,T,R,λx J=>?_,O⟩
 have L:∀{l:List (List Key×V)}{m:List (List Key×Addr×Value)},KT H l m->∀x∈m,(tupleKind<|VA P w).is h x.1 x.2.1:=by
  intro l m q
  induction q with
  |nil=>intro x J;exact nomatch J
  | @cons p q I A N t ih=>
   intro x J;rcases Zd.mp J with e|J
   .subst e
    exact Wt M (by rw[<-N.1];exact N.2.1)
   .exact ih x J
 exact L r x J
def yE(G:HOk P w H h)(e:H a=some (.dT Z)):Z.length<=sizeLine/\(a==sysModules)=false/\
  ∃J,KT H Z J/\h.DictOfH (tupleKind<|VA P w) a J:=Tf G<|.inl e
end
def V9(H:Hp)(a:Addr)(y:V)(r:xm):Prop:=
 (∃Z k,Rd H a (.dK Z)/\y=kV k/\r=VF Z k) \/ ∃Z k b,Rd H a (.dT Z)/\y=.ref b/\H b=some (.tup<|k.map kV)/\r=VF Z k
def Uw(H:Hp)(a:Addr)(y v:V)(H':Hp):Prop:=
 (∃Z k,H a=some (.dK Z)/\y=kV k/\Z.length<sizeLine/\H'=upd H a (.dK<|putK Z k v)) \/
 ∃Z k b,H a=some (.dT Z)/\y=.ref b/\H b=some (.tup<|k.map kV)/\Z.length<sizeLine/\H'=upd H a (.dT<|putK Z k v)
def V9.k{k:Key}(e:H a=some (.dK Z)):V9 H a (kV k) (VF Z k):=.inl ⟨Z,k,.inl e,rfl,rfl⟩
def V9.t{k:List Key}(e:H a=some (.dT Z))(J:H b=some (.tup<|k.map kV)):V9 H a (.ref b) (VF Z k):=.inr ⟨Z,k,b,.inl e,rfl,J,rfl⟩
def Uw.k{k:Key}(e:H a=some (.dK Z))(J:Z.length<sizeLine):Uw H a (kV k) v (upd H a<|.dK<|putK Z k v):=.inl ⟨Z,k,e,rfl,J,rfl⟩
section
def Inv.big(I:Inv X Z U H s):sysModules<s.heap.objs.size:=by
 have h:mainGlobals<s.heap.objs.size:=(I.mod.glob.keeps I.bk).lt;exact kI (by decide) h
def Fe(C:A.units+1<cLine)(I:Inv X L U H s)(g:V9 H a y (some v))(D:RelV y u)(h:∀G B,Inv X L U H B->RelV v G->Q G B):
  wpAny (model X.prog X.w) A (getItem (.ref a) u) Q E s:=by
 rcases g with⟨M,k,e,R,l⟩|⟨M,k,b,e,R,j,l⟩
 .subst R
  obtain⟨z,hd,S,J,T⟩:=WG I.hok e;obtain⟨G,N,Z⟩:=Ud.some_of (v:=v) (o:=valueAt S k) (by rw[l];exact J.val k);exact wpAny_getItem_of (XA D) T.mapOf N<|h G _ (I.tok _) Z
 .subst R
  cases(show u=Value.ref b from D);obtain⟨z,hd,F,J,T⟩:=Tf I.hok e;obtain⟨G,N,Z⟩:=Ud.some_of (v:=v) (o:=(atKey F k).map (·.2)) (by rw[l];exact J.val k);obtain⟨p,P,O⟩:=Zj.mp N;refine wpAny_getItem_heap (qD C) (Wt I.hok j) T P ?_;rw[O];exact h G _ (I.tok _) Z
def vk(R:A.units+1<cLine)(I:Inv X J U H s)(g:V9 H a y o)(O:RelV y u)(h:∀N,Inv X J U H N->Q (.bool o.isSome) N):
  wpAny (model X.prog X.w) A (compareOp .In u<|.ref a) Q E s:=by
 rcases g with⟨G,k,e,L,l⟩|⟨G,k,b,e,L,T,l⟩
 .subst L
  obtain⟨z,hd,D,Z,M⟩:=WG I.hok e;refine wpAny_in_of (XA O) hd M.mapOf ?_;rw[<-(Z.val k).isSome_eq,<-l];exact h _<|I.tok _
 .subst L
  cases(show u=Value.ref b from O);obtain⟨z,hd,B,Z,M⟩:=Tf I.hok e;refine wpAny_in_heap (qD R) (Wt I.hok T) hd M ?_;have q:=(Z.val k).isSome_eq;rw[qv]at q;rw[<-q,<-l];exact h _<|I.tok _
def QL(R:A.units+1<cLine)(I:Inv X J U H s)(g:V9 H a y o)(O:RelV y u)(h:∀N,Inv X J U H N->Q (.bool<|!o.isSome) N):
  wpAny (model X.prog X.w) A (compareOp .NotIn u<|.ref a) Q E s:=by
 rcases g with⟨G,k,e,L,l⟩|⟨G,k,b,e,L,T,l⟩
 .subst L
  obtain⟨z,hd,D,Z,M⟩:=WG I.hok e;refine wpAny_notIn_of (XA O) hd M.mapOf ?_;rw[<-(Z.val k).isSome_eq,<-l];exact h _<|I.tok _
 .subst L
  cases(show u=Value.ref b from O);obtain⟨z,hd,B,Z,M⟩:=Tf I.hok e;refine wpAny_notIn_heap (qD R) (Wt I.hok T) hd M ?_;have q:=(Z.val k).isSome_eq;rw[qv]at q;rw[<-q,<-l];exact h _<|I.tok _
def Gf(I:Inv X Z U H s)(G:Mut (H a))(L:Heap.SameBut a s.heap J)(M:∃q,J.get? a=some q)(new:VQ X.prog X.w (upd H a ob) J a ob):
  Inv X Z U (upd H a ob) {s with heap:=J,toks:=O}:=
 I.write (x:=a) (e:=a) G (.inl rfl) (λb q N z=>(L.2 b N).trans z) M new
def Xq(z:Z.length<=sizeLine)(hd:(a==sysModules)=false)(J:KV Z G)(M:L.DictOf (VA P w) a G):
  VQ P w N L a (.dK Z):=⟨z,hd,G,J,M⟩
def Fd(d:A.units+1<cLine)(I:Inv X L U H s)(g:Uw H a y v H')(S:RelV y u)(C:RelV v r)(h:∀F,Inv X L U H' F->Q () F):
  wpAny (model X.prog X.w) A (setItem (.ref a) u r) Q E s:=by
 rcases g with⟨J,k,e,T,l,B⟩|⟨J,k,b,e,T,t,l,B⟩
 .subst T B
  obtain⟨z,hd,p,Z,D⟩:=El I.hok e;have N:p.length<=sizeLine:=by rw[<-Z.length];exact z
  have R:(putK J k v).length<=sizeLine:=by have:=Vd J k v;omega
  refine wpAny_setItem_pairs (hsz:=N) (XA S) D λP G O=>h _ ?_;have f:∃q,P.get? a=some q:=let⟨q,_,_,M,_⟩:=G;⟨q,M⟩
  exact Gf I (by rw[e];exact True.intro) O f<|Xq R hd (Z.put k C) G
 .subst T B
  cases(show u=Value.ref b from S);obtain⟨z,hd,m,Z,D⟩:=yE I.hok e;have N:m.length<=sizeLine:=by rw[<-Paired.length Z];exact z
  have R:(putK J k v).length<=sizeLine:=by have:=Vd J k v;omega
  refine wpAny_setItem_heap (hsz:=N) (qD d) (Wt I.hok t) D λP G O=>h _ ?_;obtain⟨q,x,ep,M,n,i,o,_,w⟩:=G;refine Gf I (by rw[e];exact True.intro) O ⟨q,M⟩ ⟨R,hd,_,(Z.put k t C).keeps λc ys j=>?_,q,x,ep,M,n,i,o,w⟩;rw[Yg (Jl j e λz=>nomatch z)];exact j
end
section
def yH(I:Inv X J U H s)(e:Rd H a (.dK G))(h:∀t L,Inv X J U H L->Q (.int G.length t) L):wpAny (model X.prog X.w) A (call (.builtin "len") [.ref a]) Q E s:=by
 obtain⟨z,hd,N,Z,M⟩:=WG I.hok e;refine call_len_dict hd M (by rw[<-Z.length];rw[pJ]at z;omega) ?_;rw[<-Z.length];exact h _ _<|I.tok _
end
def QR(i:Expr):Prop:=∀Z J,subscripted i false Z J=operate [Z,J] (getItem Z J)
def Rq{T B:String}(F:typeLookup (.type T) "__getitem__"=pure (some<|.builtin B))(D:QR slice)(h:wpAny (model prog w) A (eval value env) (λo L=>wpAny (model prog w) A (eval slice env) (λi Z=>Z.TypeIs o T/\wpAny (model prog w) A (getItem o i) Q E Z) E L) E s):
  wpAny (model prog w) A (eval (.Subscript value slice pos) env) Q E s:=by
 refine Subscript_<|Zn h (λo L O=>Zn O (λi Z J=>?_) λ_ _ x=>x) λ_ _ x=>x;obtain⟨R,J⟩:=J;unfold subscriptTail;refine Zl ?_;rw[getitemInPython_of_ne R.not_modules];refine Zl<|qB R F ?_
 have M:wpAny (model prog w) A (subscripted slice false o i) (λr G=>wpAny (model prog w) A (letTemporaryGo value o r >>=λ_=>pure r) Q E G) E Z:=by
  rw[D o i];exact wpAny_operating (Zn J (λr G N=>Zl<|wpAny_letTemporaryGo<|Zm N) λ_ _ x=>x)
 first
  |exact Zm<|Zl M
  |exact Zl<|Zm<|Zl M
  |exact Zl M
def Nj(I:Inv X J U H s)(g:V9 H a y o):s.TypeIs (.ref a) "dict":=by
 rcases g with⟨Z,k,e,_,_⟩|⟨Z,k,b,e,_,_,_⟩
 .obtain ⟨_,_,vs,_,dd⟩:=WG I.hok e
  exact dd.typeIs
 .obtain ⟨_,_,xs,_,dd⟩:=Tf I.hok e
  exact dd.typeIs
def Cb(td ty:TE):TE:=λU H Q=>td U H λx J=>ty U J λy Z=>JA x λa=>∃v,V9 Z a y (some v)/\Q v Z
def yi(ty td:TE):TE:=λU H Q=>ty U H λy J=>td U J λx Z=>JA x λa=>∃o,V9 Z a y o/\Q (.bl o.isSome) Z
def Om(ty td:TE):TE:=λU H Q=>ty U H λy J=>td U J λx Z=>JA x λa=>∃o,V9 Z a y o/\Q (.bl<|!o.isSome) Z
def Cr(td ty tv:TE):TS:=λD U H=>tv U H λv L=>td U L λx G=>ty U G λy J=>JA x λa=>∃Z,Uw J a y v Z/\D.nx U Z
section
def JN(T:X.A.units+1<cLine)(D:PE X o td)(E:PE X i ty)(B:QR i):PE X (.Subscript o i pos) (Cb td ty):=by
 intro Z s U H Q I h;refine Rq PySem.F.slot_dict_getitem.lookup B<|thn (D Z s U H _ I h) λu M ⟨x,P,S,O,R⟩=>thn (E Z M U P _ S R) λt q ⟨y,C,L,N,J⟩=>?_;replace J:=JA.old J;obtain⟨a,F,v,g,J⟩:=J;subst F;obtain rfl:u=Value.ref a:=O;exact⟨Nj L g,Fe T L g N λj z A G=>⟨v,C,A,G,J⟩⟩
def Xk(R:X.A.units+1<cLine)(B:PE X i ty)(T:PE X o td):PC X .In i o (yi ty td):=by
 intro Z s U H Q I h;refine thn (B Z s U H _ I h) λz G ⟨y,C,A,L,N⟩=>thn (T Z G U C _ A N) λu j ⟨x,S,F,M,J⟩=>?_;replace J:=JA.old J;obtain⟨a,D,O,g,J⟩:=J;subst D;obtain rfl:u=Value.ref a:=M;exact vk R F g L λP E=>⟨.bl O.isSome,S,E,Y,J⟩
def FK(R:X.A.units+1<cLine)(B:PE X i ty)(T:PE X o td):PC X .NotIn i o (Om ty td):=by
 intro Z s U H Q I h;refine thn (B Z s U H _ I h) λz G ⟨y,C,A,L,N⟩=>thn (T Z G U C _ A N) λu j ⟨x,S,F,M,J⟩=>?_;replace J:=JA.old J;obtain⟨a,D,O,g,J⟩:=J;subst D;obtain rfl:u=Value.ref a:=M;exact QL R F g L λP E=>⟨.bl<|!O.isSome,S,E,rfl,J⟩
def Vw(E:X.A.units+1<cLine)(A:PE X o td)(S:PE X i ty)(B:PE X value tv)(F:swapsWith value (some<|.Subscript o i pos') pos.line X.env=pure false):
  PS X (.Assign [.Subscript o i pos'] value pos) (Cr td ty tv):=by
 intro Z s U H D I h;refine wpAny_Assign_Subscript (thn (B Z s U H _ I h) λr L ⟨v,m,z,O,T⟩=>thn (A Z L U m _ z T) λu G ⟨x,t,j,N,R⟩=>thn (S Z G U t _ j R) λc p ⟨y,d,Q,M,J⟩=>?_) F;replace J:=JA.old J;obtain⟨a,C,q,g,J⟩:=J;subst C;obtain rfl:u=Value.ref a:=N;exact Fd E Q g M O λk P=>⟨U,q,P,J⟩
end
def Ni(h:Heap)(Z:sysModules<h.objs.size):VQ P w H (h.push {cls:=.type "dict",data:=.dict #[]}) h.objs.size (.dK []):=
 ⟨Zc _,beq_eq_false_iff_ne.mpr<|Zs<|Ze Z,[],.nil,Heap.DictOf.new h⟩
def L5(h:Heap)(Z:sysModules<h.objs.size):VQ P w H (h.push {cls:=.type "dict",data:=.dict #[]}) h.objs.size (.dT []):=
 ⟨Zc _,beq_eq_false_iff_ne.mpr<|Zs<|Ze Z,[],.nil,_,#[],0,ZY _ rfl,⟨rfl,rfl,rfl⟩,rfl,rfl,qw⟩
def SH:TE:=λ_ H Q=>∀p,H p=none->Q (.ref p) (upd H p<|.dK [])
def SG:TE:=λ_ H Q=>∀p,H p=none->Q (.ref p) (upd H p<|.dT [])
section
def Vz:PE X (.Dict [] [] pos) SH:=λZ s U H Q I h=>
 wpAny_Dict_empty ⟨.ref s.heap.objs.size,_,I.laid (a:=s.heap.objs.size) (o:=.dK []) (t':=s.toks) (λ_ _ q=>ZE _ q) (ZG _)<|Ni s.heap I.big,rfl,h _<|I.hok.fresh<|ZG _⟩
def KS:PE X (.Dict [] [] pos) SG:=λZ s U H Q I h=>
 wpAny_Dict_empty ⟨.ref s.heap.objs.size,_,I.laid (a:=s.heap.objs.size) (o:=.dT []) (t':=s.toks) (λ_ _ q=>ZE _ q) (ZG _)<|L5 s.heap I.big,rfl,h _<|I.hok.fresh<|ZG _⟩
end
def BC:List (TE×TE)->St->Hp->(List (V×V)->Hp->Prop)->Prop
 |[],_,H,Q=>Q [] H
 |(tk,tv)::r,U,H,Q=>tk U H λx H1=>tv U H1 λy H2=>BC r U H2 λps H3=>Q ((x,y)::ps) H3
abbrev VV:List (V×V)->List (Value×Value)->Prop:=Paired λp q=>RelV p.1 q.1/\RelV p.2 q.2
def PPs(X:Cx)(pos:Pos)(keys:List (Option Expr))(values:xv)(trs:List (TE×TE)):Prop:=
 ∀(Z:pU)(s:Shared)(U:St)(H:Hp)(Q:List (V×V)->Hp->Prop),Inv X Z U H s->BC trs U H Q->
  wpAny (model X.prog X.w) X.A (evalPairs<|pairTrees keys values X.env pos) (λL M=>∃J G,Inv X Z U G M/\VV J L/\Q J G) X.xe s
def PM:PPs X pos [] [] []:=λZ s U H Q I h=>pairTrees_nil_walk ⟨[],H,I,.nil,h⟩
def KP(S:PE X k tk)(F:PE X v tv)(A:PPs X pos E G trs):
  PPs X pos (some k::E) (v::G) ((tk,tv)::trs):=λZ s U H Q I h=>
 pairTrees_cons_walk (thn (S Z s U H _ I h) λu M ⟨x,t,j,O,B⟩=>thn (F Z M U t _ j B) λg L ⟨y,q,P,N,T⟩=>
  thn (A Z L U q _ P T) λm p ⟨D,z,C,J,R⟩=>⟨(x,y)::D,z,C,.cons ⟨O,N⟩ J,R⟩)
def TF(kvs more:xf):xf:=more.foldl (λZ J=>putK Z J.1 J.2) kvs
def KV.merge:∀{more:xf}{G:List (Key×Value)}{Z:xf}{J:List (Key×Value)},KV more G->KV Z J->KV (TF Z more) (merged J G):=by
 intro more G Z J r;unfold KV at r
 induction r generalizing Z J with
 |nil=>intro q;exact q
 | @cons p q N M h t ih=>
  intro L
  have e:KV (putK Z p.1 p.2) (stored J q.1 q.2):=by
   have:=L.put p.1 h.2;rw[<-h.1];exact this
  exact ih e
theorem XZ:∀(more Z:xf),(TF Z more).length<=Z.length+more.length
 |[],Z=>by show Z.length<=Z.length+0;omega
 |p::r,Z=>by
  have G:=XZ r<|putK Z p.1 p.2;have J:=Vd Z p.1 p.2;show(TF (putK Z p.1 p.2) r).length<=_;rw[Zf];omega
theorem To:∀{Z:xf}{G:List (Value×Value)},VV (Z.map λL=>(kV L.1,L.2)) G->∃J,Carries (VA P w) G J/\KV Z J
 |[],_,r=>by rw[j9]at r;cases r;exact⟨[],True.intro,.nil⟩
 |p::Z,_,r=>by
  rw[ZV]at r
  cases r with
  | @cons a b R N h t=>
   obtain⟨J,c,q⟩:=To (P:=P) (w:=w) t;obtain⟨O,M⟩:=b;exact⟨(p.1,M)::J,⟨XA h.1,Y,c⟩,.cons ⟨Y,h.2⟩ q⟩
def Ca(trs:List (TE×TE)):TE:=λU H Q=>∀p,H p=none->BC trs U (upd H p<|.dK []) λL G=>G p=some (.dK [])/\∃Z:xf,L=Z.map (λJ=>(kV J.1,J.2))/\Z.length<=15/\Q (.ref p) (upd G p<|.dK<|TF [] Z)
def PV(h:PPs X pos keys values trs)(G:keys.all (·.isSome)=true)(j:keys.length=values.length)(m:keys≠[])(N:keys.length<=15):PE X (.Dict keys values pos) (Ca trs):=by
 intro Z s U H Q I q;have C:=I.hok.fresh<|ZG s.heap.objs.size;have p:=I.laid (a:=s.heap.objs.size) (o:=.dK []) (h':=s.heap.push {cls:=.type "dict",data:=.dict #[]}) (t':=s.toks) (λ_ _ q=>ZE _ q) (ZG _)<|Ni s.heap I.big;refine wpAny_Dict_walk (knd:=VA X.prog X.w) G j m N<|thn (h Z _ U _ _ p<|q _ C) λd f ⟨u,r,O,M,e,J,g,v,E⟩=>?_;subst g;obtain⟨T,c,B⟩:=To (P:=X.prog) (w:=X.w) M;obtain⟨z,hd,R,D,k⟩:=El O.hok e;cases D;refine⟨T,c,k,λh' L A=>⟨.ref s.heap.objs.size,_,?_,Y,E⟩⟩
 have F:(TF [] J).length<=sizeLine:=by
  have t:=XZ J [];rw[kM]at t;rw[pJ];omega
 have y:∃q,h'.get? s.heap.objs.size=some q:=let⟨q,_,_,S,_⟩:=L;⟨q,S⟩
 exact Gf O (by rw[e];exact True.intro) A y<|Xq F hd (B.merge .nil) L
structure M1(X:Cx)(o:Expr)(m:Str)(apos:Pos)(e:Expr)(cpos:Pos):Prop where
 base:attributeBase o m X.env (eval o X.env)=eval o X.env
 few:((backTo cpos (starEach [e] X.env)).all (λx=>!x.1) && (backToKw cpos (keywordEach [] X.env)).all (λx=>x.1.isSome)
  && decide (([e]:List Expr).length+([]:List Keyword).length+(if([]:List Keyword).isEmpty then 0 else 1)<30))=true
 line:(apos.endLine==cpos.line)=true
 trees:backTo cpos (starEach [e] X.env)=[(false,eval e X.env)]
def IsD(H:Hp)(a:Addr):Prop:=(∃Z,Rd H a<|.dK Z) \/ ∃Z,Rd H a<|.dT Z
def Aj(I:Inv X M U H s)(d:IsD H a):
  s.TypeIs (.ref a) "dict" /\(∀b,Value.ref a=.ref b->∃Z,s.heap.get? b=some Z/\Z.dict=none)/\(a==sysModules)=false:=by
 rcases d with⟨J,e⟩|⟨J,e⟩
 .obtain ⟨_,hd,vs,_,dd⟩:=WG I.hok e
  refine⟨dd.typeIs,λb q=>?_,hd⟩;cases q;obtain⟨Z,_,_,L,G,_⟩:=dd;exact⟨Z,L,G.2.1⟩
 .obtain ⟨_,hd,xs,_,dd⟩:=Tf I.hok e
  refine⟨dd.typeIs,λb q=>?_,hd⟩;cases q;obtain⟨Z,_,_,L,G,_⟩:=dd;exact⟨Z,L,G.2.1⟩
section
def A0(B:A.units+1<cLine)(I:Inv X J U H s)(g:V9 H a y o)(R:RelV y u)(h:∀N O,Inv X J U H O->RelV (o.getD .non) N->Q N O):
  wpAny (model X.prog X.w) A (call (.builtin "dict.get") [.ref a,u]) Q E s:=by
 rcases g with⟨L,k,e,M,l⟩|⟨L,k,b,e,M,D,l⟩
 .subst M
  obtain⟨z,hd,F,Z,G⟩:=WG I.hok e;refine call_meetsIn kQ G.typeIs PySem.F.entry_dict_get (PySem.F.args_dict_get_2 _ _) (meets_dict_get (VA X.prog X.w) a (XA R) hd) ⟨_,G.mapOf,h _ _ (I.tok _) ?_⟩;rw[l];exact(Z.val k).getD rfl
 .subst M
  cases(show u=Value.ref b from R);obtain⟨z,hd,T,Z,G⟩:=Tf I.hok e;refine call_meetsIn kQ G.typeIs PySem.F.entry_dict_get (PySem.F.args_dict_get_2 _ _) (meetsH_dict_get (tupleKind<|VA X.prog X.w) a b hd) ⟨qD B,k,T,Wt I.hok D,G,h _ _ (I.tok _) ?_⟩;rw[l];exact(Z.val k).getD rfl
end
def SN(td ty:TE):TE:=λU H Q=>td U H λx J=>JA x λa=>IsD J a/\ty U J λy Z=>∃o,V9 Z a y o/\Q (o.getD .non) Z
section
def G9(D:X.A.units+1<cLine)(E:PE X o td)(F:PE X e ty)(m:M1 X o "get" apos e cpos):PE X (.Call (.Attribute o "get" apos) [e] [] cpos) (SN td ty):=by
 intro Z s U H Q I h;refine wpAny_Call_method m.base m.few m.line PySem.F.plainAttrs_dict kQ PySem.F.type_dict_get<|thn (E Z s U H _ I h) λu O ⟨x,j,L,T,J⟩=>?_;replace J:=JA.old J;obtain⟨a,A,d,J⟩:=J;subst A;obtain rfl:u=Value.ref a:=T;obtain⟨N,M,_⟩:=Aj L d;exists N,M;rw[m.trees];refine Calls.callWith_builtin Y (Calls.evalArgs_plain<|Calls.spliced_cons<|thn (F Z O U j _ L J) λp t ⟨y,P,C,R,k,g,B⟩=>Calls.spliced_nil ?_);exact A0 D C g R λz q S G=>⟨_,P,S,G,B⟩
end
end L2
namespace Att
open PySem PySem.W PySem.Calls PyProof.Rows
def GD:∀(Z:List Int)(J:List Value),WellAll P h J (Z.map WData.int)->IntsAre J Z:=by
 intro Z
 induction Z with
 |nil=>
  intro J w;rw[j9]at w;cases w;exact .nil
 |cons n Z ih=>
  intro J w;rw[ZV]at w
  cases w with
  |cons a b=>
   cases a;exact .cons _ _<|ih _ b
def FB{l:OpenLaw}(I:l.most=some n)(J:l.row.toRowW.claim.pre args=true)(O:WellAll P h vals args):
  ∃a T Z,vals=[Value.ref a]/\args=[WData.list (Z.map WData.int)]/\h.get? a=some {cls:=.type "list",data:=.seq T.toArray}/\IntsAre T Z/\Z.length<=n:=by
 have R:WShape.hasAll [] args [.list .int]=true:=(pre_splitW J).1;have B:l.pre.holds [] {args:=args}=true:=(pre_splitW J).2;obtain⟨d,r,rfl,C,U⟩:=hasAllW_cons R;obtain rfl:=hasAllW_nil U;obtain⟨X,rfl,S⟩:=hasW_list C;obtain⟨Z,rfl⟩:=items_int S
 have G:Z.length<=n:=by
  unfold OpenLaw.pre at B
  have N:(WTm.not<|.lt (.lit<|.int (n:Int))<|.len<|.arg 0).holds [] {args:=[.list (Z.map .int)]}=true:=by
   have N:=(holds_andW B).1;rw[I]at N;exact N
  have M:=condW_of N<|w_not<|w_lt w_lit<|w_len_list<|w_arg rfl;rw[ZA]at M;refine qa λq=>?_;have F:(n:Int)<((Z.length:Nat):Int):=by omega
  first
   |(rw[decide_eq_true F]at M;exact Zr M<|by decide)
   |(simp at M;omega)
 cases O with
 |cons E D=>
  cases D
  cases E with
  |list A L=>exact⟨_,_,Z,Y,Y,A,GD Z _ L,G⟩
def FJ(l:OpenLaw)(args:List WData):l.row.toRowW.claim.post args (.bool true) args=true:=
 postW_of (r:=l.row.toRowW) (X:=(true==true))
  (show WShape.has [] (.bool true) .bool=true by first|rfl|decide|simp[WShape.has,WShape.arms,WShape.armsAll])
  (show(WTm.eq .res<|.lit<|.bool true).value [] {args:=args,res:=some<|.bool true,after:=args}=some (.bool<|true==true)from w_eq_bool (w_res rfl) w_lit) rfl
theorem attach_call{l:OpenLaw}(g:l.most=some n)(X:d.params.defaults=[])(call:∀(w:World)(J Z:Shared)(F S:Str->Option Value)(B:Addr)(o:Obj)(I A M:Value)(a:Addr)(N:List Value)(E:List Int),
   Ground q loose [] XP w J F S Z.heap->YP w Z.heap->
   Z.heap.get? B=some o->o.data=.func (docDef d.name d.params d.body d.scope I A M)->Z.heap.CodeRec A d.name->F d.name=some (.ref B)->
   Z.heap.get? a=some {cls:=.type "list",data:=.seq N.toArray}->IntsAre N E->E.length<=n->Z.gens= #[]->
   codeAny (model l.prog w) callerA (.call (.ref B) ⟨[.ref a],[]⟩) (λr D=>r=.ok (.ret<|.bool true)/\OldK Z.heap D.heap/\D.os=Z.os/\AllBare D.gens) Z):
  WalkO q loose XP YP l.row.toRowW d [] (λf N=>PySem.call f N):=by
 intro w J Z F S G Y B o I A M e kV m hd P y C c args Q i O j z U p;obtain rfl:e=.none:=Dflts.none y X;obtain rfl:kV=.none:=Dflts.noKw y;obtain⟨a,N,E,rfl,rfl,R,L,T⟩:=FB g O U;refine enter_call<|pj (call w J Z F S B o I A M a N E G Y m (fd_plain hd) P C R L T c) λr D t=>?_;obtain⟨rfl,b,v,u⟩:=t;exact⟨.inl ⟨.bool true,.bool true,[],rfl,λ_=>rfl,.bool true,FJ l _,λ_=>⟨List.Pairwise.nil,λ_ k=>(nomatch k)⟩⟩,b,v,u⟩
end Att
namespace L2
open PySem PySem.Spec PyProof.Rows
theorem Tx:∀{Z:pW}{J:pZ},IntsAre Z J->Vals (J.map V.int) Z
 |_,_,.nil=>.nil
 |_,_,.cons n t h=>.cons ⟨t,rfl⟩<|Tx h
def A4(H:Hp):Prop:=∀b,H b=none \/ ∃o Z,H b=some (.frz o<|.lst Z)
def LJ{K:W.Frag}(KX:K.In s₁.heap)(D:s₁.heap.Ns mainGlobals C)(J:s₁.heap.Ns builtinsNs mb)(y:∀x:Str,x≠"__name__" ->mb x=bootBuiltins x)(E:s₁.heap.NoLimit)(hg:s₁.gens= #[])(X:s₁.heap.get? a=some {cls:=.type "list",data:=.seq N.toArray})(l:IntsAre N U)(f:U.length<=sizeLine)(hr:Vn k callerA)(F:∀base:Heap,K.In base->base.Ns mainGlobals C->Ye P w K C base CX k fa fd [x] sp)(M:∀(s:Shared)(u:Value),BindsTo s fd ⟨[u],[]⟩ [(x,u)])(j:∀H:Hp,A4 H->SqL K H a (U.map V.int)->sp [.ref a] H (λv _=>v=.bl true) λ_ _ _=>False)(t:∀H e G,CX [] H s₁ (λ_ _ _=>False) e G->False):
  codeAny (model P w) callerA (.call (.ref fa) ⟨[.ref a],[]⟩) (λr G=>r=.ok (.ret<|.bool true)/\OldK s₁.heap G.heap/\G.os=s₁.os/\AllBare G.gens) s₁:=by
 have c:=Tx l;have R:=l.length;have core:∀H:Hp,A4 H->SqL K H a (U.map V.int)->HOk P w H s₁.heap->(∀b,H b≠none->b=a)->(H a≠none->K.lookup a=none)->
   codeAny (model P w) callerA (.call (.ref fa) ⟨[.ref a],[]⟩) (λr G=>r=.ok (.ret<|.bool true)/\OldK s₁.heap G.heap/\G.os=s₁.os/\AllBare G.gens) s₁:=by
  intro H i hS B hA hK;have Z:∀{b:Addr}{o:Obj},s₁.heap.get? b=some o->H b=none->(Mf s₁.heap H).get? b=some o:=λe n=>LV e n
  have Q:∀{b:Addr}{o:Obj}{I:Array DictEntry}{S:Nat},s₁.heap.get? b=some o->o.data=.dict I S->H b=none:=λ{b o I S} e d=>by
   cases q:H b with
   |none=>rfl
   |some u=>
    have g:b=a:=hA b (by rw[q];simp);subst g;rw[X]at e;cases e;have d':Data.seq N.toArray _=Data.dict I S:=d;cases d'
  have L:∀{b:Addr}{m:Str->Option Value},s₁.heap.Ns b m->(Mf s₁.heap H).Ns b m:=λ{b m} ⟨o,I,S,e,d,r⟩=>⟨o,I,S,Z e<|Q e d,d,r⟩
  have A:K.In (Mf s₁.heap H):=λb o e=>Z (KX b o e) (by
   cases q:H b with
   |none=>rfl
   |some u=>
    have g:b=a:=hA b (by rw[q];simp);subst g;rw[hK (by rw[q];simp)]at e;cases e)
  have hM:Mod K C (Mf s₁.heap H):=⟨A,L D,⟨mb,L J,y⟩,let⟨mc,h1,h2⟩:=E;⟨mc,L h1,h2⟩⟩;have e0:Dx P w K C (Mf s₁.heap H) callerA [] s₁ H:=⟨rfl,hM,λb o e=>Pt e,kF<|FX _ _,trivial,λb J=>Zr (show b∈([]:xa)from J) (by simp),B,.of_eq hg⟩;refine pj ((F _ A<|L D).run callerA [] s₁ H ⟨[.ref a],[]⟩ [.ref a] [.ref a] _ _ hr e0 (M s₁<|.ref a) (.cons rfl .nil)<|j H i hS) λr G h=>?_
  cases r with
  |error e=>exact(t H e G h).elim
  |ok fl=>
   cases fl with
   |next=>exact False.elim h
   |brk=>exact False.elim h
   |cont=>exact False.elim h
   |ret u=>
    obtain⟨v,H',os,bare,p,T,r',q⟩:=h;have q':v=.bl true:=q;subst q';obtain rfl:u=Value.bool true:=r';refine⟨Y,OldK.of_keep λb o e=>?_,os,bare⟩
    cases q:H b with
    |none=>exact p.keep b o e q (by intro z;exact Zr (show b∈([]:xa)from z)<|by simp)<|by simp
    |some u=>
     rcases i b with z|⟨ob,xs,z⟩
     .rw [q]at z;cases z
     .have z2:=p.frzs b ob _ z
      obtain⟨e1,_⟩:=B b _ z;obtain⟨e2,_⟩:=T b _ z2;rw[e]at e1;cases e1;exact e2
 cases hk:K.lookup a with
 |some o=>
  have e:=KX a o hk;rw[X]at e;cases e;refine core (λ_=>none) (λ_=>.inl Y) (.inr ⟨_,N.toArray,_,hk,Y,Y,Y,by rw[ZO,R];exact f,by simpa using c⟩) (λb u z=>by have O:(none:Option HO)=some u:=z;cases O) (λb z=>Zr Y z) λz=>Zr Y z
 |none=>
  refine core (λb=>if b=a then some (.frz {cls:=.type "list",data:=.seq N.toArray}<|.lst<|U.map V.int)else none) (λb=>?_) (.inl<|.inr ⟨{cls:=.type "list",data:=.seq N.toArray},Zp rfl⟩) (λb u z=>?_) (λb z=>?_) λ_=>hk
  .by_cases J:b=a
   .exact .inr ⟨_,_,Zp J⟩
   .exact .inl (Zq J)
  .by_cases J:b=a
   .have O:=(Zp J).symm.trans z
    cases O;subst J;exact⟨X,by rw[ZA];exact f,N,_,c,X⟩
   .have O:=(Zq J).symm.trans z
    cases O
  .by_cases J:b=a
   .exact J
   .exact Zr (Zq J) z
theorem walk_of{l:W.OpenLaw}{K:Params->W.Frag}{CX:World->CXT}{sp:World->Sp}(Q:l.most=some n)(D:n<=sizeLine)(A:d.params.defaults=[])(P:Vn k callerA)(t:∀(w:World)(h:Heap),YP w h->(K w.params).In h)(F:∀(w:World)(L:Str->Option Value)(R:Addr)(h:Heap),(K w.params).In h->h.Ns mainGlobals L->L d.name=some (.ref R)->
   ∃S:FuncData,(∀(s:Shared)(u:Value),BindsTo s S ⟨[u],[]⟩ [(x,u)])/\
    ∀base:Heap,(K w.params).In base->base.Ns mainGlobals L->Ye l.prog w (K w.params) L base (CX w) k R S [x] (sp w))(B:∀(w:World)(H:Hp)(a:Addr)(O:pZ),O.length<=n->A4 H->SqL (K w.params) H a (O.map V.int)->sp w [.ref a] H (λv _=>v=.bl true) λ_ _ _=>False)(I:∀(w:World)(H:Hp)(s:Shared)(e:Value)(T:Shared),CX w [] H s (λ_ _ _=>False) e T->False):
  W.WalkO q loose XP YP l.row.toRowW d [] (λf U=>PySem.call f U):=by
 refine Att.attach_call Q A λw C M L b R o r cd c a U O G Y i hd y E N J Z j=>?_;have X:=t w _ Y;obtain⟨S,z,p⟩:=F w L R _ X G.T.g E;exact LJ X G.T.g G.T.b G.T.builtins G.T.nolimit j N J (Zb Z D) P p z (λH g m=>B w H a O Z g m) λH e T=>I w H M e T
def inClass(s:Stmt)(j:Nat):Stmt:=match s with
 |.ClassDef _ _ _ body _ _ _ _ _ _ _=>body.getD j<|.Pass ⟨0,0,0,0⟩
 |_=>.Pass ⟨0,0,0,0⟩
def JG(s:Stmt):Arguments:=match s with
 |.FunctionDef _ a _ _ _ _ _ _ _ _=>a
 |_=>{posonlyargs:=[],args:=[],vararg:=none,kwonlyargs:=[],kw_defaults:=[],kwarg:=none,defaults:=[]}
def Vl(s:Stmt):List Stmt:=match s with
 |.FunctionDef _ _ b _ _ _ _ _ _ _=>b
 |_=>[]
def Yd(s:Stmt):Scope:=match s with
 |.FunctionDef _ _ _ _ _ _ sc _ _ _=>sc
 |_=>{kind:=.function,names:=[],isGenerator:=false,isCoroutine:=false}
abbrev CX0:CXT:=λ_ _ _ _ _ _=>False
abbrev E0:XK:=λ_ _ _=>False
def Y3:Uv CX0 X E0:=λ_ _ _ _ _ _ _ h=>h.elim
structure Fun(K:W.Frag)(x qual:Str)(st:Stmt)(f:Addr)(fd:FuncData):Prop where
 ex:∃(oc:Value)(od:Option Addr)(kV doc pm:Value)(an:Option Addr)(cdv ct:Value)(osl:Array (Option Value)),
  fd=W.fnOf x qual (JG st) (Vl st) (Yd st) .none kV doc pm an cdv ct/\K.lookup f=some ⟨oc,od,.func fd,osl⟩/\W.codeIn K cdv qual=true
 kp:W.keepIn K (.ref f)=true
section
variable{K:W.Frag}
def Fun.ok{st:Stmt}(F:Fun K x qual st f X)(S:Yh N B (Yd st))(M:∀G H Q E,T G H Q E->G.length=B.length)(L:∀(J:Value)(A:Around)(Z:List Env)(s:Shared)(H:Hp)(G:xg)(Q:VK)(E:XK),Vn k (A.deeper<|envOfC qual (Yd st) s.heap.objs.size f J)->T G H Q E->
   ∃t,PSs (Vb CX0 P w K I base N qual (Yd st) f J A Z s H E).nox (Vl st) t/\t {nx:=λ_ y=>Q .non y,rt:=Q} (start N G) H):Ye P w K I base CX0 (k+1) f X B T:=by
 obtain⟨g,m,kV,j,z,c,J,p,D,rfl,U,R⟩:=F.ex;refine Qz U R S M λA Z s H G Q E C O=>?_;obtain⟨t,h,q⟩:=L J A Z s H G Q E C O;exact⟨t,h.nox,q⟩
def Fun.oq{st:Stmt}(F:Fun K x qual st f B)(S:Yh N R (Yd st))(J:∀(L:Value)(A:Around)(Z:List Env)(s:Shared)(H:Hp)(G:xg)(Q:VK)(E:XK),Vn k (A.deeper<|envOfC qual (Yd st) s.heap.objs.size f L)->O G H Q E->
   ∃t,PSs (Vb CX0 P w K T base N qual (Yd st) f L A Z s H E).nox (Vl st) t/\t {nx:=λ_ D=>Q .non D,rt:=Q} (start N G) H)(M:∀G H Q E,O G H Q E->G.length=R.length:=by intro G H Q E h;repeat (obtain⟨e,h⟩:=h;first|(subst e;exact Y)|skip)):Ye P w K T base CX0 (k+1) f B R O:=F.ok S M J
def Fun.binds{st:Stmt}(F:Fun K x qual st f B)(h:∀(kV Z L:Value)(N:xb)(J M:Value)(G:pW),G.length=O.length->bindArgs (W.fnOf x qual (JG st) (Vl st) (Yd st) .none kV Z L N J M) ⟨G,[]⟩=pure (O.zip G)):Binds K B O []:=by
 obtain⟨E,D,kV,Z,L,N,J,M,R,rfl,A,T⟩:=F.ex;exact .all<|h kV Z L N J M
def Lv{st:Stmt}{kV J G Z L:Value}(l:K.lookup f=some ⟨oc,od,.func<|W.fnOf x qual (JG st) (Vl st) (Yd st) .none kV J G an Z L,osl⟩)(c:W.codeIn K Z qual=true)(k:W.keepIn K (.ref f)=true):Fun K x qual st f (W.fnOf x qual (JG st) (Vl st) (Yd st) .none kV J G an Z L):=⟨⟨oc,od,kV,J,G,an,Z,L,osl,rfl,l,c⟩,k⟩
end
def JI(Z:Vn k A):A.units+1<cLine:=qi (qN (by decide:1<=64) _) Z.units
def Yx(h:n<=1000):n<sizeLine:=qi h<|by decide
section
def pv(i:Nat)(G:X.N[i]?=some x:=by rfl)(J:Vis X.env.scope x:=by first|exact Or.inl Y|exact Or.inr (Or.inl Y)|exact Or.inr<|Or.inr rfl)(hd:(x==("__debug__":Str))=false:=by decide)(Z:(x==("__classdict__":Str))=false:=by decide):PE X (.Name x pos) (IM i):=AC G J hd Z
end
def Ai{c A B:Prop}[Decidable c](J:c->A)(Z:¬c->B):if c then A else B:=by
 by_cases h:c
 .rw [Zp h]
  exact J h
 .rw [Zq h]
  exact Z h
def Same(H H':Hp):Prop:=∀b o,H b=some o->H' b=some o
def Same.refl(H:Hp):Same H H:=λ_ _ h=>h
abbrev Z8:=@Same.refl
def Same.trans(a:Same H J)(b:Same J Z):Same H Z:=λc o h=>b c o<|a c o h
def Same.free(e:Same H Z)(h:Z l=Option.none):H l=Option.none:=by
 cases q:H l with
 |none=>rfl
 |some o=>
  rw[e l o q]at h;cases h
def Same.seq{K:W.Frag}(e:Same H J)(h:SqL K H a Z):SqL K J a Z:=by
 rcases h with(h|⟨o,h⟩)|h
 .exact .inl (.inl<|e _ _ h)
 .exact .inl (.inr ⟨o,e _ _ h⟩)
 .exact .inr h
section
def Fj:J1 X (.builtin "len") (λJ H Q=>∃a Z,J=[V.ref a]/\H a=some (.dK Z)/\Q (.int Z.length) H):=by
 intro G s U H J O Q I r h;obtain⟨a,Z,rfl,M,q⟩:=h;obtain⟨u,rfl,L⟩:=vals1 r;cases L;exact yH I (.inl M) λt R N=>⟨.int Z.length,H,N,⟨t,Y⟩,q⟩
end
end L2
namespace PySem.W
open PySem PyProof.Rows
end PySem.W
namespace L2
open PySem PySem.Spec PyProof.Rows
def Dl(O:List (Str×NameKind)):∀(Z:List (Str×Addr)),(∀x∈O,x.2=.free->∃c,env.cells.lookup x.1=some c)->
  ∃L,(forIn O Z (λ(x:Str×NameKind)(r:List (Str×Addr))=>(if(x.2==NameKind.free)=true then do let c <-cellOf env x.1;pure (ForInStep.yield ((x.1,c)::r))else pure (ForInStep.yield r):Sem (ForInStep<|List<|Str×Addr)))=pure L)/\
   (∀x c,L.lookup x=some c->env.cells.lookup x=some c\/Z.lookup x=some c)/\(∀x,(x,NameKind.free)∈O->∃c,L.lookup x=some c)/\(∀x c,Z.lookup x=some c->∃N,L.lookup x=some N):=by
 induction O with
 |nil=>intro Z _;exact⟨Z,Y,λx c h=>.inr h,λx h=>(nomatch h),λx c h=>⟨c,h⟩⟩
 |cons y r ih=>
  intro Z h;obtain⟨n,k⟩:=y
  by_cases hk:k=.free
  .subst hk
   obtain⟨c,D⟩:=h (n,.free) Za rfl;obtain⟨L,B,T,R,M⟩:=ih ((n,c)::Z) λx J=>h x<|ZM _ J;refine⟨L,?_,λx N J=>?_,λx J=>?_,λx N J=>?_⟩
   .rw [<-B]
    simp only[qf,beq_self_eq_true,if_true,cellOf,D]
    rfl
   .rcases T x N J with q|q
    .exact .inl q
    .rw [jq]at q
     cases G:x==n with
     |true=>
      rw[G]at q;have:x=n:=by simpa using G
      subst this;cases q;exact .inl D
     |false=>rw[G]at q;exact .inr q
   .rcases Zd.mp J with q|q
    .cases q
     exact M n c<|by simp[jq]
    .exact R x q
   .cases G:x==n with
    |true=>exact M x c<|by simp[jq,G]
    |false=>exact M x N<|by simp[jq,G,J]
  .obtain ⟨L,B,T,R,M⟩:=ih Z λx J=>h x<|ZM _ J
   have G:(k==NameKind.free)=false:=by simpa using hk
   refine⟨L,?_,T,λx J=>?_,M⟩
   .rw [<-B]
    simp only[qf,G,j0,if_false]
    rfl
   .rcases Zd.mp J with q|q
    .cases q;exact Zr Y hk
    .exact R x q
def Dk(h:∀x∈scope.names,x.2=.free->∃c,env.cells.lookup x.1=some c):
  ∃Z,closureFor scope env=pure Z/\(∀x c,Z.lookup x=some c->env.cells.lookup x=some c)/\(∀x,(x,NameKind.free)∈scope.names->∃c,Z.lookup x=some c):=by
 obtain⟨Z,M,L,G,_⟩:=Dl scope.names [] h;refine⟨Z,?_,λx c J=>(L x c J).resolve_right (by simp),G⟩;rw[<-bind_pure (pure Z:Sem (List<|Str×Addr)),<-M]
 rfl
theorem Xx{scope:Scope}{Z:Env}{x:Str}:∀{names:List (Str×NameKind)},(names.map λ(n,k)=>if(k==NameKind.free && Z.scope.kind==.function && Z.kindOf n==some .cell)then(n,NameKind.cell)else(n,k)).lookup x=some .cell \/
  (names.map λ(n,k)=>if(k==NameKind.free && Z.scope.kind==.function && Z.kindOf n==some .cell)then(n,NameKind.cell)else(n,k)).lookup x=some .free->(∀y∈names,y.2≠.cell)->(x,NameKind.free)∈names
 |[],h,_=>by simp at h
 |(n,k)::r,h,hc=>by
  have ih:= @Xx scope Z x r;rw[ZV]at h
  have G:∀M:NameKind,(∀J,((n,M)::(r.map λ(n,k)=>if(k==NameKind.free && Z.scope.kind==.function && Z.kindOf n==some .cell)then(n,NameKind.cell)else(n,k))).lookup x=some J->(x=n/\M=J)\/(r.map λ(n,k)=>if(k==NameKind.free && Z.scope.kind==.function && Z.kindOf n==some .cell)then(n,NameKind.cell)else(n,k)).lookup x=some J):=λM J q=>by
   rw[jq]at q
   cases hb:x==n with
   |true=>rw[hb]at q;exact .inl ⟨by simpa using hb,ZT q⟩
   |false=>rw[hb]at q;exact .inr q
  dsimp only at h
  split at h
  .rename_i hk
   have O:k=.free:=by
    cases k <;> simp at hk
    rfl
   subst O;rcases h with h|h
   .rcases G _ _ h with⟨e,_⟩|q
    .subst e;exact Za
    .exact ZM _ (ih (.inl q) λy L=>hc y<|ZM _ L)
   .rcases G _ _ h with⟨e,_⟩|q
    .subst e;exact Za
    .exact ZM _ (ih (.inr q) λy L=>hc y<|ZM _ L)
  .rcases h with h|h
   .rcases G _ _ h with⟨e,N⟩|q
    .exact Zr N (hc (n,k) Za)
    .exact ZM _ (ih (.inl q) λy L=>hc y<|ZM _ L)
   .rcases G _ _ h with⟨e,N⟩|q
    .subst e;subst N;exact Za
    .exact ZM _ (ih (.inr q) λy L=>hc y<|ZM _ L)
def Nl(I:Nat->Shared->Prop)(turn:∀n s,I n s->wpAny (model prog w) A (pyNext L) (λr G=>match r with
   |none=>R (.ok .next) G
   |some v=>wpAny (model prog w) A (letOwnedTupleGo target L v) (λ_ J=>wpAny (model prog w) A (assign target env v) (λ_ T=>wpAny (model prog w) A (eval elt env) (λx O=>
     wpAny (model prog w) A (call (.builtin "list.append") [acc,x]) (λ_ N=>∃m,m<n/\I m N) (λ_ _=>False) O)
     (λ_ _=>False) T) (λ_ _=>False) J) (λ_ _=>False) G) (λ_ _=>False) s)(n:Nat)(h:I n s):codeAny (model prog w) A
   (.compLoop (.ListComp elt [⟨target,iter,[],0⟩] scope pos) 0 L acc env) R s:=by
 refine codeAny_loop Y I (λn s D=>wpAny_noted (m:=compTurn (.ListComp elt [⟨target,iter,[],0⟩] scope pos) 0 L acc env) ?_) n h;rw[compTurn_list1];refine Zl<|jZ<|Zl<|Zn (turn n s D) (λr G B=>?_) λ_ _ Z=>Z.elim
 cases r with
 |none=>exact Zm B
 |some v=>
  exact Zl (Zn B (λ_ J M=>Zl (Zn M (λ_ T S=>Zl (Zl (Zn S (λx O F=>Zl (Zn F
   (λ_ N E=>Zm<|Zm ⟨rfl,E⟩) λ_ _ Z=>Z.elim)) λ_ _ Z=>Z.elim))) λ_ _ Z=>Z.elim)) λ_ _ Z=>Z.elim)
theorem W5{Z:Env}{x:Str}:∀{names:List (Str×NameKind)},names.lookup x=some .free->
  (names.map λ(n,k)=>if(k==NameKind.free && Z.scope.kind==.function && Z.kindOf n==some .cell)then(n,NameKind.cell)else(n,k)).lookup x≠some .local
 |[],h=>by simp at h
 |(n,k)::r,h=>by
  have ih:= @W5 Z x r;rw[ZV];dsimp only[rI0,rI,XB];rw[jq]at h
  cases hb:x==n with
  |true=>
   rw[hb]at h;have J:k=.free:=ZT h;subst J
   split <;> simp[jq,hb]
  |false=>
   rw[hb]at h
   split <;> (simp only[jq,hb];exact ih h)
def Vk(X:Cx)(N':pX)(scope:Scope)(cl:List (Str×Addr))(C:Addr)(fp:xa)(s:Shared)(H:Hp):Cx:=
 {X with N:=N',s₀:=s,H₀:=H,env:=compEnvC scope cl C X.env,outer:=X.stack,stack:=X.stack,ex:=fp,fn:=λ_=>false,pn:=[],xe:=λ_ _=>False}
def V8(X:Cx)(own:pX)(ix:List Nat):pX:=own++ ix.map λj=>X.N.getD j ("":Str)
def JD(k:Nat)(ix:List Nat)(U:St):St:=List.replicate k none++ ix.map λj=>U.getD j none
def GK(k:Nat)(g:TG):Prop:=∀x U H Q,g x U H Q->g x U H fun σ2 Z=>Q σ2 Z/\σ2.length=U.length/\σ2.drop k=U.drop k
def V7(h:i<k):GK k (V2 i):=λx U H Q q=>⟨q,by simp,by rw[List.drop_set,Zp h]⟩
def GKs(k:Nat)(g:TGs):Prop:=∀x U H Q,g x U H Q->g x U H fun σ2 Z=>Q σ2 Z/\σ2.length=U.length/\σ2.drop k=U.drop k
def DZ:GKs k TY:=λx U H Q q=>by
 match x,q with
 |[],q=>exact⟨q,Y,Y⟩
def XT(R:GK k g)(O:GKs k gs)(N:∀x U H (Q Z:xj),(∀a b,Q a b->Z a b)->g x U H Q->g x U H Z)(M:∀x U H (Q Z:xj),(∀a b,Q a b->Z a b)->gs x U H Q->gs x U H Z):GKs k (Jo g gs):=λx U H Q q=>by
 match x,q with
 |v::r,q=>
  refine N _ _ _ _ _ (λa b z=>?_)<|R _ _ _ _ q;obtain⟨L,G,J⟩:=z;refine M _ _ _ _ _ (λc d y=>?_)<|O _ _ _ _ L;exact⟨y.1,y.2.1.trans G,y.2.2.trans J⟩
def DY{K:W.Frag}(h:GKs k gs):GK k (Nf K n gs):=λx U H Q q=>by
 match x,q with
 |.ref a,q=>
  obtain⟨Z,G,J,q⟩:=q;exact⟨Z,G,J,h _ _ _ _ q⟩
def Re(J:It)(g:TG)(te:TE)(s0:St)(Q:VK)(H1:Hp):Prop:=∃W:Nat->Nat->List V->Hp->Prop,(∃m,W 0 m [] H1)/\∀i m Z H,W i m Z H->
 Z.length<sizeLine/\((J.stop i H/\∀p,H p=none->Q (.ref p) (upd H p<|.lst Z)) \/
  (J.go i H/\∀x L,J.yld i H x L->g x s0 L fun σ2 N=>te σ2 N λy M=>∃G,G<m/\W (i+1) G (Z++[y]) M))
def Qa(k:Nat)(ix:List Nat)(wi:TI)(g:TG)(te:TE):TE:=λU H Q=>wi U H λJ Z=>Re J g te (JD k ix U) Q Z
def Inv.retrack(I:Inv X Z U H s)(N:H D=none)(f:UN X Z H D)(new:VQ X.prog X.w (upd H D o) s.heap D o):Inv X Z U (upd H D o) s:=by
 have G:∀b u,H b=some u->b≠D:=λb u e=>Yb e N;have r:=I.step (h':=s.heap) (H':=upd H D o) (g':=s.gens) (d':=s.drawn) (t':=s.toks) (ch:=[D])
  (λb J=>by
   have e:b=D:=by simpa using J
   subst e;exact⟨f.2.2.2.1,f.2.1,f.2.2.2.2.1,f.2.2.2.2.2⟩)
  (λb o _ _ _ e _=>e) (λb o _ _ _ e _=>⟨o.slots,e⟩) (λb o J e n=>by rw[Yg (λz=>J<|by simp[z])];exact n) (λb o _ e=>⟨o,e⟩)
  (λb L e=>by rw[Yg (G _ _ e)];exact e) (λb o u e=>by rw[Yg (G _ _ e)];exact e) (λb O e=>⟨#[],by rw[Yg (G _ _ e),e];simp⟩) (λm M=>M)
  (λb u e=>by
   by_cases J:b=D
   .subst J;rw[Yf]at e;cases e;exact new
   .rw [Yg J]at e
    exact(I.hok b u e).stay (λc v _ q=>q) (λc q=>by rw[Yg (G _ _ q)];exact q) λc L q=>by rw[Yg (G _ _ q)];exact q) I.bare
 exact r
def XD(sc:Scope)(outer:List (Str×NameKind))(N:pX)(ix:List Nat):Bool:=
 sc.names.all (λx=>(decide (x.2≠.local) || decide (sc.names.lookup x.1=some .local)) && decide (x.2≠.cell) && (decide (x.2≠.free) || decide (outer.lookup x.1=some .cell) || decide (outer.lookup x.1=some .free))) &&
  ix.all λj=>match N[j]? with
   |some y=>decide<|sc.names.lookup y=some .free
   |none=>false
def XD.all(Z:XD sc outer N ix=true):
  (∀x∈sc.names,x.2=.local->sc.names.lookup x.1=some .local)/\(∀x∈sc.names,x.2≠.cell)/\(∀x∈sc.names,x.2=.free->outer.lookup x.1=some .cell\/outer.lookup x.1=some .free)/\∀j∈ix,∃y,N[j]?=some y/\sc.names.lookup y=some .free:=by
 unfold XD at Z;rw[ZZ,List.all_eq_true,List.all_eq_true]at Z;have each:=λx J=>Z.1 x J;simp only[ZZ,Bool.or_eq_true,decide_eq_true_eq]at each;refine⟨λx J G=>(each x J).1.1.resolve_left λz=>z G,λx J=>(each x J).1.2,λx J M=>?_,λj L=>?_⟩
 .rcases (each x J).2 with(z|z)|z
  .exact Zr M z
  .exact .inl z
  .exact .inr z
 .have q:=Z.2 j L
  cases e:N[j]? with
  |none=>rw[e]at q;cases q
  |some y=>rw[e]at q;exact⟨y,Y,Zt q⟩
structure CB(X:Cx)(own:List Str)(ix:List Nat)(scope:Scope)(pins:List (Addr×Obj))(U:St)(tg:Expr)(cl:List (Str×Addr))(D C:Addr)(fp:List Addr)(it:Addr)(tn:Nat->Heap->Prop)(J:It)(H2:Hp)(s3:Shared):Prop where
 T:Turn X.prog X.w X.K tg J fp it tn
 ok:(Vk X (V8 X own ix) scope cl C (D::fp) s3 H2).Ok
 nfp:∀b∈fp,b≠D
 f2:∀b∈fp,UN X pins H2 b
 fD:UN X pins H2 D
 I3:Inv X pins U H2 s3
 CD:C≠D
 fC:∀H':Hp,H' C=none->UN X pins H' C
section
def Tn{rest:List Comprehension}(own:pX)(E:List Nat)(hi:PI X tg iter wi)(M:scope.kind=.function)(T4:XD scope X.env.scope.names X.N E=true)(hs:∀x,foldedSetIterable iter X.env x=pure x)(I:Inv X G U H s)(h:wi U H R)(loop:∀(cl:List (Str×Addr))(D C:Addr)(fp:xa)(it:Addr)(tn:Nat->Heap->Prop)(J:It)(A:Hp)(s3 s5:Shared),CB X own E scope G U tg cl D C fp it tn J A s3->R J A->Inv (Vk X (V8 X own E) scope cl C (D::fp) s3 A) [] (JD own.length E U) A s5->tn 0 s5.heap->s5.heap.PlainList D (List.toArray [])->
   codeAny (model X.prog X.w) X.A (.compLoop (.ListComp elt (⟨tg,iter,ifs,0⟩::rest) scope pos) 0 (.ref it) (.ref D)<|compEnvC scope cl C X.env) (compPost (model X.prog X.w) X.A X.xe use POST (.ref D) C) s5):
  wpAny (model X.prog X.w) X.A (comprehension (.ListComp elt (⟨tg,iter,ifs,0⟩::rest) scope pos) scope X.env cpos (newList []) false (eval iter X.env) use) POST X.xe s:=by
 obtain⟨G1,Q,O1,T5⟩:=XD.all T4;have G2:∀x∈scope.names,x.2=.free->∃c,X.env.cells.lookup x.1=some c:=λx hx hf=>I.ok.has x.1<|O1 x hx hf;obtain⟨cl,T6,Z,M2⟩:=Dk G2;refine wpAny_comprehension_free Y hs T6 M G1 ?_;refine thn (hi G s U H _ I h) λv s1 h1=>thn h1 λD0 w h2=>?_;obtain⟨it,fp,tn,J,A,e,O,T,R4,f2,hR⟩:=h2;subst e;refine jX<|wpAny_newFunctionEnv Q (by intro y hy;simp at hy) (λh4 J2 n=>?_) M;dsimp only at J2 n |-;generalize hh3:w.heap.push {cls:=.type "list",dict:=none,data:=.seq ([]:pW).toArray}=h3 at J2 n |-;have R6:h3.objs.size=w.heap.objs.size+1:=by rw[<-hh3,jI]
 have l:∀b u,w.heap.get? b=some u->h3.get? b=some u:=λb u q=>by rw[<-hh3];exact ZE _ q
 have D3:h3.get? w.heap.objs.size=some {cls:=.type "list",data:=.seq #[]}:=by rw[<-hh3];exact ZY _ Y
 obtain⟨D,g⟩:∃D,D=w.heap.objs.size:=⟨_,rfl⟩;obtain⟨C,hC⟩:∃C,C=h3.objs.size:=⟨_,rfl⟩;rw[<-hC]at J2 n;rw[<-g]at D3 R6;have F:C=D+1:=hC.trans R6
 let s3:Shared:={w with heap:=h3}
 have I3:Inv X G U A s3:=O.kept (t':=w.toks) l;have T3:∀b u,h3.get? b=some u->b<C:=λb u q=>by rw[hC];exact ZP q
 have L:∀b u,h3.get? b=some u->h4.get? b=some u:=λb u q=>n.extBut b u (Ze<|T3 b u q)<|ZE _ q;have T8:A D=none:=O.hok.fresh (by rw[g];exact ZG _);have T9:A C=none:=O.hok.fresh (by rw[F,g];exact qV _);have fD:UN X G A D:=O.fpOk (by rw[g];exact ZG _) T8
 have f:∀x c,X.env.cells.lookup x=some c->c<D:=λx c e=>by
  obtain⟨v,z⟩:=O.cell x c e;rw[g];exact z.lt
 have R1:∀b∈fp,b<D:=λb N=>by
  obtain⟨o,e,_⟩:=T.obj 0 _ R4 b N;rw[g];exact ZP e
 let X':Cx:=Vk X (V8 X own E) scope cl C (D::fp) s3 A
 have R3:∀b∈frs X.stack,b∉D::fp:=λb N z=>by
  rcases Zd.mp z with z|z
  .have q:=O.stack
   obtain⟨_,o,e,_⟩:=q.mem N;have:=ZP e;rw[z,g]at this;exact jt _ this
  .rcases Zd.mp (O.stkSub b N)with q|q
   .exact (f2 b z).2.1 q
   .exact (f2 b z).2.2.1 q
 have R7:X'.Ok:=by
  refine⟨I.ok.mod,M,I.ok.glob,I.ok.blt,?_,λx y c h1 h2=>I.ok.inj x y c (Z x c h1)<|Z y c h2,λx hx=>M2 x<|Xx (scope:=scope) hx Q,(λx c z=>Bool.noConfusion (show false=true from z)),I.ok.hd,I.ok.frames,.inl rfl,λb N=>⟨?_,λx c h1=>?_⟩,λb o e=>?_,?_,λb o e N=>?_,λb N z=>R3 b z N,?_,λb N=>O.stkFree b N⟩
  .show h3.objs.size<=C
   rw[hC];exact ZG _
  .show b≠C
   rcases Zd.mp N with z|z
   .rw [z,F];exact Ze<|jj _
   .rw [F];exact Ze<|Nat.lt_succ_of_lt<|R1 b z
  .rcases Zd.mp N with z|z
   .rw [z];exact Ze<|f x c<|Z x c h1
   .exact (f2 b z).2.2.2.2.1 x c (Z x c h1)
  .exact I3.bs b o e
  .show X.base.objs.size<=h3.objs.size
   have:=Zb I.ok.bsz O.sz;rw[<-g]at this;rw[<-hC,F];exact qW this
  .rcases Zd.mp N with z|z
   .have:=ZP<|O.bk b o e
    rw[z,g]at this;exact jt _ this
   .rcases (f2 b z).2.2.2.1 with q|q
    .exact I.ok.noex b o e q
    .have:=Zx (ZP (I.ok.bs b o e).1) q
     exact jt _ this
  .exact I3.stack
 have R8:(JD own.length E U).length=(V8 X own E).length:=by simp[JD,V8]
 have I4:∀t,Inv X' [] (JD own.length E U) A {w with heap:=h4,toks:=t}:=λt=>by
  refine⟨R7,Y,O.bare,Un.kept L,⟨_,J2,λi x v e1 e2 e3=>?_⟩,λx c e=>?_,T9,λx c e=>O.freeC x c<|Z x c e,λp hp=>Zr (show p∈([]:pU)from hp) (by simp),(I3.hok).kept L,R8⟩
  .-- a name of the def that the block reads
   have T2:own.length<=i:=by
    apply qa;intro T1;unfold JD at e2;rw[vz (by simpa using T1),qm,Zp T1]at e2;cases e2
   have d:(E.map λj=>X.N.getD j ("":Str))[i-own.length]?=some x:=by
    have z:(own++ E.map λj=>X.N.getD j ("":Str))[i]?=some x:=e1
    rwa [vx T2]at z
   have R5:(E.map λj=>U.getD j none)[i-own.length]?=some (some v):=by
    unfold JD at e2;rw[vx (by simpa using T2)]at e2;simpa using e2
   rw[ZH]at d R5
   cases hj:E[i-own.length]? with
   |none=>rw[hj]at d;cases d
   |some j=>
    rw[hj]at d R5;obtain⟨y,hy,P⟩:=T5 j<|ZJ hj
    have ex:x=y:=by
     have z:X.N.getD j ("":Str)=x:=ZT d;rw[<-z,jm,hy];rfl
    subst ex
    have ev:U[j]?=some (some v):=by
     have z:U.getD j none=some v:=ZT R5;rw[jm]at z
     cases q:U[j]? with
     |none=>rw[q]at z;cases z
     |some a=>rw[q]at z;exact congrArg some z
    have T0:=jT P;have G3:=O1 _ T0 rfl;obtain⟨m,hn,hl⟩:=O.loc;obtain⟨u,r,lk⟩:=hl j x v hy ev<|.inr G3;refine⟨u,r,.inr ⟨?_,?_⟩⟩
    .rcases e3 with z|z
     .exact Zr z (W5 P)
     .exact z
    .rcases lk with⟨k,_⟩|⟨_,c,T7,z⟩
     .rcases G3 with q|q
      .exact Zr (k.symm.trans q) (by simp)
      .exact Zr (k.symm.trans q) (by simp)
     .obtain ⟨c',hc'⟩:=M2 x T0
      have:=Z x c' hc';rw[T7]at this;cases this;obtain⟨o,ho,hd⟩:=z;exact⟨c,hc',o,L _ _<|l _ _ ho,hd⟩
  .obtain ⟨v,z⟩:=I3.cell x c<|Z x c e
   obtain⟨o,ho,hd⟩:=z;exact⟨v,o,L _ _ ho,hd⟩
 have B:CB X own E scope G U tg cl D C fp it tn J A s3:=⟨T,R7,λb N=>Ze<|R1 b N,f2,fD,I3,by rw[F];exact jM<|jj _,λH' hn=>O.fpOk (by rw[F,g];exact qV _) hn⟩;have S:=λt=>loop cl D C fp it tn J A s3 {w with heap:=h4,toks:=t} B hR (I4 t) (T.keep 0 _ _ R4 λb _ o e=>L _ _<|l _ _ e) ⟨_,L _ _ D3⟩;rw[<-hC,<-g];exact codeAny_compStart_list (S _)<|T.self _ 0 _ _ _ (T.keep 0 _ _ R4 λb _ o e=>L _ _<|l _ _ e)<|S _
def CB.stop(B:CB X own ix scope Z U tg cl D C fp P tn J S s3)(G:Inv (Vk X (V8 X own ix) scope cl C (D::fp) s3 S) [(D,oD)] τ H5 s6)(T:M.length<sizeLine)(R:Vals M L)(A:oD={cls:=.type "list",data:=.seq L.toArray nn}):
  Inv X Z U (upd H5 D<|.lst M) s6/\UN X Z (upd H5 D<|.lst M) C/\(∃m,s6.heap.Ns C m)/\H5 D=none:=by
 obtain⟨m,O,_⟩:=id G.loc
 have I:Inv X Z U H5 s6:=B.I3.call' (ch:=D::fp) G.os G.base G.hok G.bare λb E=>by
  rcases Zd.mp E with z|z
  .subst z
   exact⟨B.fD.2.2.2.1,B.fD.2.1,B.fD.2.2.2.2.1,B.fD.2.2.2.2.2⟩
  .have f:=B.f2 b z
   exact⟨f.2.2.2.1,f.2.1,f.2.2.2.2.1,f.2.2.2.2.2⟩
 obtain⟨F,N,_⟩:=G.pin (D,oD) (by simp);subst A;exact⟨I.retrack (o:=.lst M) N ⟨N,B.fD.2⟩ ⟨Zh T,L,nn,R,F⟩,B.fC _ (by rw[Yg B.CD];exact G.free),⟨m,O⟩,N⟩
def Au(R:Inv X Z U L s6)(J:UN X Z L C)(N:∃m,s6.heap.Ns C m)(q:Q (.ref D) L):compPost (model X.prog X.w) X.A X.xe none (EP X Z U Q) (.ref D) C (.ok .next) s6:=by
 obtain⟨m,M⟩:=N;exact⟨m,M,λT G=>⟨.ref D,_,R.turned (it:=C) (t':=s6.toks) (λb o O e=>(G.2 b O).trans e) J.1 J.2.1 J.2.2.2.1 J.2.2.2.2.1 J.2.2.2.2.2,Y,q⟩⟩
def Lz{F:Ends}(j:X.N.Nodup)(T:X.N[i0]?=some x0)(N:Loc X.env.scope x0)(P:X.fn x0=true\/X.env.scope.names.lookup x0=some .local)(t:Inv X Z U M s6)(G:UN X Z M C)(S:∃m,s6.heap.Ns C m)(q:V2 i0 (.ref D) U M F.nx):
  compPost (model X.prog X.w) X.A X.xe (some<|assign (.Name x0 py) X.env) (λ_ I=>∃E M,Inv X Z E M I/\F.nx E M) (.ref D) C (.ok .next) s6:=by
 obtain⟨m,R⟩:=S;show wpAny _ X.A (assign (.Name x0 py) X.env<|.ref D) _ _ _;refine wpAny_assign_Name<|RB (v:=.ref D) t j T N rfl (λA y J=>?_) P;obtain⟨a,J,L⟩:=J
 have B:C≠a:=by
  rcases L with L|L
  .rw [L];exact G.2.1
  .exact λz=>G.2.2.2.2.1 x0 a L z.symm
 exact⟨m,R.sameBut J B,λg O=>⟨_,_,y.turned (it:=C) (t':=A.toks) (λb o Q e=>(O.2 b Q).trans e) G.1 G.2.1 G.2.2.2.1 G.2.2.2.2.1 G.2.2.2.2.2,q⟩⟩
def EL(J:swapsWith (.ListComp e gens scope pos) (some<|.Name x0 py) spos.line X.env=pure true)(h:wpAny (model X.prog X.w) X.A (comprehension (.ListComp e gens scope pos) scope X.env (firstIterPos gens pos) (newList []) (firstAsync gens) (firstIter gens X.env)<|some<|assign (.Name x0 py) X.env) (λ_ G=>∃L M,Inv X Z L M G/\D0.nx L M) X.xe s):
  wpAny (model X.prog X.w) X.A (exec (.Assign [.Name x0 py] (.ListComp e gens scope pos) spos) X.env) (SP X Z D0) X.xe s:=by
 rw[exec_Assign_Name_used _ _ _ _ J];refine Zl<|jZ<|Zl (?_:wpAny _ X.A (do let _ <-comprehension (.ListComp e gens scope pos) scope X.env _ (newList []) _ _ (some<|assign (.Name x0 py) X.env)) _ _ s);exact Zl<|Zn h (λ_ G N=>Zm<|Zm N) λ_ _ e=>e
def CB.loop1(B:CB X own ix scope I U tg F D C M it tn J h s3)(hc:X.calm=true)(R6:GK own.length g)(hg:∀F C M s H,PG (Vk X (V8 X own ix) scope F C M s H) tg g)(he:∀F C M s H,PE (Vk X (V8 X own ix) scope F C M s H) elt te)(cw:Re J g te (JD own.length ix U) Q h)(R8:∀a A O,Inv X I U (upd A D<|.lst O) a->UN X I (upd A D<|.lst O) C->(∃m,a.heap.Ns C m)->Q (.ref D) (upd A D<|.lst O)->Rs (.ok .next) a)(I4:Inv (Vk X (V8 X own ix) scope F C (D::M) s3 h) [] (JD own.length ix U) h t)(O1:tn 0 t.heap)(lD:t.heap.PlainList D (List.toArray [])):
  codeAny (model X.prog X.w) X.A (.compLoop (.ListComp elt [⟨tg,iter,[],0⟩] scope pos) 0 (.ref it) (.ref D)<|compEnvC scope F C X.env) Rs t:=by
 obtain⟨W,⟨m0,w0⟩,turn⟩:=cw;have T:=B.T;have N:=B.ok;have G1:=B.nfp
 let E:Cx:=Vk X (V8 X own ix) scope F C (D::M) s3 h
 have f:∀{S:Hp}{pl:pU},(∀p∈pl,p.1=D)->(∀b∈M,S b=none)->∀b∈M,UN E pl S b:=λ{S pl} R hn b L=>
  ⟨hn b L,(N.exf b<|ZM _ L).1,N.exfs b<|ZM _ L,.inl<|ZM _ L,(N.exf b<|ZM _ L).2,λp R3 z=>G1 b L (z ▸ R p (by
   have q:p∈([]:pU)++ pl:=R3;simpa using q))⟩
 have dX:D≠E.env.locals:=(N.exf D Za).1;have dF:D∉E.fs:=N.exfs D Za;refine Nl (λn s'=>∃i O Z S,Inv E [] (JD own.length ix U) S s'/\tn i s'.heap/\(∀b∈M,S b=none)/\S D=none/\s'.heap.PlainList D (List.toArray Z)/\Vals O Z/\W i n O S) ?_ m0
  ⟨0,[],[],h,I4,O1,λb L=>(B.f2 b L).1,B.fD.1,lD,.nil,w0⟩
 rintro n t ⟨i,O,Z,A,I5,J2,G3,d5,⟨nn,l5⟩,v5,w5⟩;obtain⟨hz,c⟩:=turn i n O A w5
 let oD:Obj:={cls:=.type "list",data:=.seq Z.toArray nn}
 have G:∀p∈ [((D,oD):Addr×Obj)],p.1=D:=λp R=>by
  have e:p=(D,oD):=by simpa using R
  rw[e]
 have M2:Inv E [(D,oD)] (JD own.length ix U) A t:=I5.pins_of λp R=>by
  have e:p=(D,oD):=by simpa using R
  subst e;exact⟨l5,d5,dX,dF,λv z=>nomatch z⟩
 rcases c with⟨stop,qn⟩|⟨go,step⟩
 .refine thn (T.done E rfl rfl rfl hc i _ t _ A _ M2 (f G G3) J2 stop) λr a ⟨hr,I6⟩=>?_
  subst hr;obtain⟨z1,z2,z3,nD⟩:=B.stop I6 hz v5 rfl;exact R8 a A O z1 z2 z3<|qn D nD
 .refine thn (T.item E rfl rfl rfl hc i _ t _ A _ M2 (f G G3) J2 go) λr a ⟨u,hr,h6⟩=>?_
  subst hr;refine thn h6 λ_ s7 ⟨x,H7,I7,r7,y7,P,R7⟩=>?_;have T1:=I7.pinned (f G R7)<|T.obj _ _ P;refine thn (hg F C (D::M) s3 h _ s7 _ H7 x u _ T1 r7<|R6 _ _ _ _<|step x H7 y7) λ_ s8 ⟨σ8,H8,I8,q8,l8,k8⟩=>?_;refine thn (he F C (D::M) s3 h _ s8 σ8 H8 _ I8 q8) λyv s9 ⟨y,H9,I9,r9,m',R4,w9⟩=>?_;obtain⟨gD,nD,_⟩:=I9.pin (D,oD) (by simp);have G2:Z.length=O.length:=v5.length.symm;refine wpAny_list_append_plain (l:=D) (items:=Z.toArray) ⟨nn,gD⟩ (λh' R5 R1=>?_) (by rw[ZO,G2];exact Zh hz);have kp:∀b o,b≠D->s9.heap.get? b=some o->h'.get? b=some o:=λb o L q=>(R1.2 b L).trans q
  have T0:Inv E (VY M s7.heap) σ8 H9 s9:=I9.pins_of λp R=>I9.pin p (by
   refine ZU _<|ZU _ R)
  have k:∀p∈E.pn++ VY M s7.heap,p.1≠D:=λp R=>by
   have q:p∈([]:pU)++ VY M s7.heap:=R;exact G1 _ (Wl<|by simpa using q).1
  have w:Inv E (VY M s7.heap) σ8 H9 {s9 with heap:=h',toks:=s9.toks}:=T0.turned (it:=D) kp nD dX (.inl Za) (N.exf D Za).2 k;refine⟨m',R4,i+1,O++[y],Z++[yv],H9,?_,?_,?_,nD,?_,v5.append<|.cons r9 .nil,w9⟩
  .refine Inv.weak (w.pins_of (pins':=[]) λp R=>nomatch R) (by rw[l8]) λj v hj=>?_
   by_cases hlt:j<own.length
   .unfold JD at hj
    rw[vz (by simpa using hlt),qm,Zp hlt]at hj;cases hj
   .have e:σ8[j]?=(JD own.length ix U)[j]?:=by
     have q:=congrArg (λl:List (xm)=>l[j-own.length]?) k8;simp only[List.getElem?_drop]at q
     rwa [Nat.add_sub_cancel' (qa hlt)]at q
    rw[e];exact hj
  .exact T.keep _ _ _ P λb L o e=>(w.pin (b,o)<|ZU _<|JR L e).1
  .intro b L
   obtain⟨o,e,d⟩:=T.obj _ _ P b L;exact(w.pin (b,o)<|ZU _<|JR L e).2.1
  .have e:(Z++[yv]).toArray=Z.toArray.push yv:=by simp
   rw[e];exact R5
end
abbrev two(elt tg iter tg2 iter2:Expr)(scope:Scope)(pos:Pos):Expr:=.ListComp elt [⟨tg,iter,[],0⟩,⟨tg2,iter2,[],0⟩] scope pos
section
theorem Bx:compTurn (two elt tg iter tg2 iter2 scope pos) 0 Z acc env=(standAt iter.pos >>=λ_=>pyNext Z >>=λr=>match r with
  |none=>pure<|.done .next
  |some v=>letOwnedTupleGo tg Z v >>=λ_=>assign tg env v >>=λ_=>eval iter2 env >>=λx=>standAt iter2.pos >>=λ_=>foldedSetIterable iter2 env x >>=λx=>holding [x] (pyIter x) >>=λj=>
    runOwn (.compStart (two elt tg iter tg2 iter2 scope pos) 1 j acc env) env >>=λ_=>again<|.compLoop (two elt tg iter tg2 iter2 scope pos) 0 Z acc env):=by rfl
theorem DU:compTurn (two elt tg iter tg2 iter2 scope pos) 1 Z acc env=(standAt iter2.pos >>=λ_=>pyNext Z >>=λr=>match r with
  |none=>pure<|.done .next
  |some v=>letOwnedTupleGo tg2 Z v >>=λ_=>assign tg2 env v >>=λ_=>(eval elt env >>=λx=>call (.builtin "list.append") [acc,x] >>=λ_=>pure ()) >>=λ_=>
    again (.compLoop (two elt tg iter tg2 iter2 scope pos) 1 Z acc env)):=by rfl
def LS(I:Nat->Shared->Prop)(turn:∀n s,I n s->wpAny (model prog w) A (pyNext J) (λr Z=>match r with
   |none=>R (.ok .next) Z
   |some v=>wpAny (model prog w) A (letOwnedTupleGo tg2 J v) (λ_ N=>wpAny (model prog w) A (assign tg2 env v) (λ_ M=>wpAny (model prog w) A (eval elt env) (λx L=>
     wpAny (model prog w) A (call (.builtin "list.append") [acc,x]) (λ_ G=>∃m,m<n/\I m G) (λ_ _=>False) L) (λ_ _=>False) M) (λ_ _=>False) N) (λ_ _=>False) Z) (λ_ _=>False) s)(n:Nat)(h:I n s):codeAny (model prog w) A (.compLoop (two elt tg iter tg2 iter2 scope pos) 1 J acc env) R s:=by
 refine codeAny_loop Y I (λn s T=>wpAny_noted (m:=compTurn (two elt tg iter tg2 iter2 scope pos) 1 J acc env) ?_) n h;rw[DU];refine Zl<|jZ<|Zl<|Zn (turn n s T) (λr Z O=>?_) λ_ _ z=>z.elim
 cases r with
 |none=>exact Zm O
 |some v=>
  exact Zl (Zn O (λ_ N F=>Zl (Zn F (λ_ M E=>Zl (Zl (Zn E (λx L D=>Zl (Zn D
   (λ_ G B=>Zm<|Zm ⟨rfl,B⟩) λ_ _ z=>z.elim)) λ_ _ z=>z.elim))) λ_ _ z=>z.elim)) λ_ _ z=>z.elim)
def Na(G:codeAny (model prog w) A (.compLoop (two elt tg iter tg2 iter2 scope pos) 1 Z acc env) R s)(h:wpAny (model prog w) A (pyIter Z) (λj J=>codeAny (model prog w) A (.compLoop (two elt tg iter tg2 iter2 scope pos) 1 j acc env) R J) (λ_ _=>False) s):
  codeAny (model prog w) A (.compStart (two elt tg iter tg2 iter2 scope pos) 1 Z acc env) R s:=by
 refine codeAny_of_tree<|wpAny_notedAt (m:=compStart (two elt tg iter tg2 iter2 scope pos) 1 Z acc env) (pos:=theWindowsPlace) ?_;simp only[compStart];refine Zl (m:=ask)<|wpAny_askSetting ?_
 split
 .exact Zl (Zm<|Zm ⟨rfl,G⟩)
 .exact Zl (qe<|Zl<|jZ<|Zl<|Zn h (λj J L=>Zm ⟨rfl,L⟩) λ_ _ z=>z.elim)
def Kf(I:Nat->Shared->Prop)(turn:∀n s,I n s->wpAny (model prog w) A (pyNext J) (λr Z=>match r with
   |none=>R (.ok .next) Z
   |some v=>wpAny (model prog w) A (letOwnedTupleGo tg J v) (λ_ O=>wpAny (model prog w) A (assign tg env v) (λ_ N=>wpAny (model prog w) A (eval iter2 env) (λx M=>
     wpAny (model prog w) A (pyIter x) (λj L=>codeAny (model prog w) (A.mark none) (.compStart (two elt tg iter tg2 iter2 scope pos) 1 j acc env) (λr G=>match r with|.ok _=>∃m,m<n/\I m G|.error _=>False) L) (λ_ _=>False) M) (λ_ _=>False) N) (λ_ _=>False) O) (λ_ _=>False) Z) (λ_ _=>False) s)(D:∀x,foldedSetIterable iter2 env x=pure x)(n:Nat)(h:I n s):codeAny (model prog w) A (.compLoop (two elt tg iter tg2 iter2 scope pos) 0 J acc env) R s:=by
 refine codeAny_loop Y I (λn s E=>wpAny_noted (m:=compTurn (two elt tg iter tg2 iter2 scope pos) 0 J acc env) ?_) n h;rw[Bx];refine Zl<|jZ<|Zl<|Zn (turn n s E) (λr Z B=>?_) λ_ _ z=>z.elim
 cases r with
 |none=>exact Zm B
 |some v=>
  refine Zl<|Zn B (λ_ O C=>Zl<|Zn C (λ_ N U=>Zl<|Zn U (λx M S=>Zl<|jZ ?_) λ_ _ z=>z.elim) λ_ _ z=>z.elim) λ_ _ z=>z.elim;rw[D x];refine Zl<|Zm<|Zl<|wpAny_holding<|Zn S (λj L F=>Zl<|wpAny_runOwn<|pj F λr G T=>?_) λ_ _ z=>z.elim
  cases r with
  |error e=>exact T.elim
  |ok f=>exact Zm ⟨Y,T⟩
end
def In2(wi2:TI)(te:TE)(W:Nat->Nat->List V->Hp->Prop)(i m:Nat)(ys:xg):xj:=λU H=>wi2 U H λN B=>∃M:Nat->Nat->List V->Hp->Prop,(∃L,M 0 L ys B)/\∀j L G J,M j L G J->
 G.length<sizeLine/\((N.stop j J/\∃O,O<m/\W (i+1) O G J) \/
  (N.go j J/\∀y R,N.yld j J y R->te (U.set 1<|some y) R λv T=>∃Z,Z<L/\M (j+1) Z (G++[v]) T))
def Dy(J:It)(wi2:TI)(te:TE)(s0:St)(Q:VK)(H1:Hp):Prop:=∃W:Nat->Nat->List V->Hp->Prop,(∃m,W 0 m [] H1)/\∀i m Z H,W i m Z H->
 Z.length<sizeLine/\((J.stop i H/\∀p,H p=none->Q (.ref p) (upd H p<|.lst Z)) \/
  (J.go i H/\∀x G,J.yld i H x G->In2 wi2 te W i m Z (s0.set 0<|some x) G))
def SO(ix:List Nat)(wi wi2:TI)(te:TE):TE:=λU H Q=>wi U H λJ Z=>Dy J wi2 te (JD 2 ix U) Q Z
def Qw(h:V2 i x U H Q):V2 i x U H fun σ2 Z=>Q σ2 Z/\σ2=U.set i (some x):=⟨h,rfl⟩
section
def CB.loop2(B:CB X [x1,x2] ix scope G1 U (.Name x1 p1) E D C Z it tn J w s3)(hc:X.calm=true)(hg:∀E C Z s H,PG (Vk X (V8 X [x1,x2] ix) scope E C Z s H) (.Name x1 p1)<|V2 0)(S3:∀E C Z s H,PI (Vk X (V8 X [x1,x2] ix) scope E C Z s H) (.Name x2 p2) iter2 wi2)(hg2:∀E C Z s H,PG (Vk X (V8 X [x1,x2] ix) scope E C Z s H) (.Name x2 p2)<|V2 1)(he:∀E C Z s H,PE (Vk X (V8 X [x1,x2] ix) scope E C Z s H) elt te)(I2:∀env x,foldedSetIterable iter2 env x=pure x)(cw:Dy J wi2 te (JD 2 ix U) Q w)(fin:∀g f A,Inv X G1 U (upd f D<|.lst A) g->UN X G1 (upd f D<|.lst A) C->(∃m,g.heap.Ns C m)->Q (.ref D) (upd f D<|.lst A)->Rs (.ok .next) g)(I4:Inv (Vk X (V8 X [x1,x2] ix) scope E C (D::Z) s3 w) [] (JD ([x1,x2]:pX).length ix U) w s5)(F5:tn 0 s5.heap)(lD:s5.heap.PlainList D (List.toArray [])):
  codeAny (model X.prog X.w) X.A (.compLoop (two elt (.Name x1 p1) iter (.Name x2 p2) iter2 scope pos) 0 (.ref it) (.ref D)<|compEnvC scope E C X.env) Rs s5:=by
 have hgk:GK ([x1,x2]:pX).length (V2 0):=V7 (i:=0) (by simp);obtain⟨W,⟨m0,w0⟩,turn⟩:=cw;have T:=B.T;have I:=B.ok;have T7:=B.nfp
 let N:Cx:=Vk X (V8 X [x1,x2] ix) scope E C (D::Z) s3 w
 have R7:∀{R:Hp}{pl:pU},(∀p∈pl,p.1=D)->(∀b∈Z,R b=none)->∀b∈Z,UN N pl R b:=λ{R pl} M hn b G=>
  ⟨hn b G,(I.exf b<|ZM _ G).1,I.exfs b<|ZM _ G,.inl<|ZM _ G,(I.exf b<|ZM _ G).2,λp y z=>T7 b G (z ▸ M p (by
   have q:p∈([]:pU)++ pl:=y;simpa using q))⟩
 have dX:D≠N.env.locals:=(I.exf D Za).1;have dF:D∉N.fs:=I.exfs D Za;refine Kf (λn s'=>∃i A L R,Inv N [] (JD ([x1,x2]:pX).length ix U) R s'/\tn i s'.heap/\(∀b∈Z,R b=none)/\R D=none/\s'.heap.PlainList D (List.toArray L)/\Vals A L/\W i n A R) ?_ (I2 _) m0
  ⟨0,[],[],w,I4,F5,λb G=>(B.f2 b G).1,B.fD.1,lD,.nil,w0⟩
 rintro n s5 ⟨i,A,L,f,I5,T5,F1,d5,⟨nn,l5⟩,v5,w5⟩;obtain⟨hz,R5⟩:=turn i n A f w5
 let oD:Obj:={cls:=.type "list",data:=.seq L.toArray nn}
 have F:∀p∈ [((D,oD):Addr×Obj)],p.1=D:=λp M=>by
  have e:p=(D,oD):=by simpa using M
  rw[e]
 have F3:Inv N [(D,oD)] (JD ([x1,x2]:pX).length ix U) f s5:=I5.pins_of λp M=>by
  have e:p=(D,oD):=by simpa using M
  subst e;exact⟨l5,d5,dX,dF,λv z=>nomatch z⟩
 rcases R5 with⟨stop,qn⟩|⟨go,step⟩
 .refine thn (T.done N rfl rfl rfl hc i _ s5 _ f _ F3 (R7 F F1) T5 stop) λr g ⟨hr,I6⟩=>?_
  subst hr;obtain⟨z1,z2,z3,nD⟩:=B.stop I6 hz v5 rfl;exact fin g f A z1 z2 z3<|qn D nD
 .refine thn (T.item N rfl rfl rfl hc i _ s5 _ f _ F3 (R7 F F1) T5 go) λr g ⟨u,hr,h6⟩=>?_
  subst hr;refine thn h6 λ_ O ⟨x,H7,I7,r7,y7,R3,fr7⟩=>?_;have I7':=I7.pinned (R7 F fr7)<|T.obj _ _ R3;refine thn (hg E C (D::Z) s3 w _ O _ H7 x u _ I7' r7<|hgk _ _ _ _<|Qw (Q:=In2 wi2 te W i n A)<|step x H7 y7) λ_ s8 ⟨σ8,H8,I8,q8,l8,k8⟩=>?_;have e8:σ8=(JD ([x1,x2]:pX).length ix U).set 0 (some x):=by exact q8.2
  replace q8:=q8.1;refine thn (S3 E C (D::Z) s3 w _ s8 σ8 H8 _ I8 q8) λv9 s9 h9=>thn h9 λjv P h10=>?_;obtain⟨F9,S,G3,J2,T3,ej,T1,T2,a,R8,W2,⟨F8,F4⟩,G2⟩:=h10;subst ej;rw[Around.mark_none];obtain⟨gD0,F7,_⟩:=T1.pin (D,oD) (by simp);have T8:∀b∈S,b≠D:=λb G z=>(R8 b G).2.2.2.2.2 (D,oD) (by simp) z.symm
  have cut:∀{H9:Hp}{σ9:St}{s9:Shared}{more:pU},Inv N (([(D,oD)]++ VY Z O.heap)++ more) σ9 H9 s9->Inv N (VY Z O.heap) σ9 H9 s9:=λ{H9 σ9 s9 more} I9=>
   I9.pins_of λp M=>I9.pin p<|ZU _<|jh _<|ZU _ M
  have R4:∀p∈N.pn++ VY Z O.heap,p.1≠D:=λp M=>by
   have q:p∈([]:pU)++ VY Z O.heap:=M;exact T7 _ (Wl<|by simpa using q).1
  have R6:∀{H9:Hp}{o9:Obj},(∀b∈S,H9 b=none)->∀b∈S,UN N ([(D,o9)]++ VY Z O.heap) H9 b:=λ{H9 o9} hn b G=>by
   obtain⟨_,k1,k2,k3,k4,k5⟩:=R8 b G;refine⟨hn b G,k1,k2,k3,k4,λp M=>?_⟩
   have y:p=(D,o9)\/p∈VY Z O.heap:=by
    have q:p∈([]:pU)++ ([(D,o9)]++ VY Z O.heap):=M;simpa using q
   rcases y with rfl|y
   .exact (T8 b G).symm
   .exact k5 p (by
     show p∈([]:pU)++ ([(D,oD)]++ VY Z O.heap);simp[y])
  let R2:Result->Shared->Prop:=λr g=>match r with
   |.ok _=>∃m,m<n/\∃i A L R,Inv N [] (JD ([x1,x2]:pX).length ix U) R g/\tn i g.heap/\(∀b∈Z,R b=none)/\R D=none/\g.heap.PlainList D (List.toArray L)/\Vals A L/\W i m A R
   |.error _=>False
  have inner:∀(sA:Shared),(Inv N (VY Z O.heap) σ8 T3 sA/\G3 0 sA.heap/\sA.heap.PlainList D (List.toArray L))->codeAny (model X.prog X.w) X.A (.compLoop (two elt (.Name x1 p1) iter (.Name x2 p2) iter2 scope pos) 1 (.ref F9) (.ref D)<|compEnvC scope E C X.env) R2 sA:=λsA hA=>by
   refine LS (λk s'=>∃j h t R,Inv N (VY Z O.heap) σ8 R s'/\G3 j s'.heap/\(∀b∈S,R b=none)/\R D=none/\s'.heap.PlainList D (List.toArray t)/\Vals h t/\W2 j k h R) ?_ F8
    ⟨0,A,L,T3,hA.1,hA.2.1,λb G=>(R8 b G).1,F7,hA.2.2,v5,F4⟩
   rintro k sB ⟨j,h,t,HB,IB,T4,D3,dB,⟨nB,lB⟩,vB,wB⟩;obtain⟨I1,hcB⟩:=G2 j k h HB wB
   let oB:Obj:={cls:=.type "list",data:=.seq t.toArray nB}
   have F2:Inv N ([(D,oB)]++ VY Z O.heap) σ8 HB sB:=IB.pins_of λp M=>by
    rcases ZX.mp M with here|there
    .have e:p=(D,oB):=by simpa using here
     subst e;exact⟨lB,dB,dX,dF,λv z=>nomatch z⟩
    .exact IB.pin p (ZU _ there)
   rcases hcB with⟨M2,m',S1,wO⟩|⟨go2,O1⟩
   .refine thn (T2.done N rfl rfl rfl hc j _ sB _ HB _ F2 (R6 D3) T4 M2) λr sC ⟨hr,IC⟩=>?_
    subst hr
    obtain⟨gC,nC,_⟩:=IC.pin (D,oB) (by
     show(D,oB)∈([]:pU)++ ([(D,oB)]++ VY Z O.heap);simp)
    have T0:Inv N (VY Z O.heap) σ8 HB sC:=IC.pins_of λp M=>IC.pin p<|ZU _<|ZU _ M;refine⟨m',S1,i+1,h,t,HB,?_,?_,?_,nC,⟨nB,gC⟩,vB,wO⟩
    .refine Inv.weak (T0.pins_of (pins':=[]) λp M=>nomatch M) (by rw[l8]) λj v hj=>?_
     by_cases hlt:j<([x1,x2]:pX).length
     .unfold JD at hj
      rw[vz (by simpa using hlt),qm,Zp hlt]at hj;cases hj
     .have e:σ8[j]?=(JD ([x1,x2]:pX).length ix U)[j]?:=by
       have q:=congrArg (λl:List (xm)=>l[j-([x1,x2]:pX).length]?) k8;simp only[List.getElem?_drop]at q
       rwa [Nat.add_sub_cancel' (qa hlt)]at q
      rw[e];exact hj
    .exact T.keep _ _ _ R3 λb G o e=>(T0.pin (b,o)<|ZU _<|JR G e).1
    .intro b G
     obtain⟨o,e,d⟩:=T.obj _ _ R3 b G;exact(T0.pin (b,o)<|ZU _<|JR G e).2.1
   .refine thn (T2.item N rfl rfl rfl hc j _ sB _ HB _ F2 (R6 D3) T4 go2) λr sC ⟨u2,hr,hC6⟩=>?_
    subst hr;refine thn hC6 λ_ sD ⟨y2,HD,ID,rD,yD,R1,frD⟩=>?_;have ID':=ID.pinned (R6 frD)<|T2.obj _ _ R1;refine thn (hg2 E C (D::Z) s3 w _ sD _ HD y2 u2 _ ID' rD<|Qw (Q:=λU H=>te U H λv H6=>∃c,c<k/\W2 (j+1) c (h++[v]) H6)<|O1 y2 HD yD) λ_ sE ⟨σE,HE,IE,qE⟩=>?_;have eE:σE=σ8.set 1 (some y2):=by exact qE.2
    replace qE:=qE.1;refine thn (he E C (D::Z) s3 w _ sE σE HE _ IE qE) λyv sF ⟨yy,HF,IF,rF,c,T9,wF⟩=>?_
    obtain⟨gD,nD,_⟩:=IF.pin (D,oB) (by
     show(D,oB)∈([]:pU)++ (([(D,oB)]++ VY Z O.heap)++ VY S sD.heap);simp)
    have D0:t.length=h.length:=vB.length.symm;refine wpAny_list_append_plain (l:=D) (items:=t.toArray) ⟨nB,gD⟩ (λh' S2 I3=>?_) (by rw[ZO,D0];exact Zh I1);have kp:∀b o,b≠D->sF.heap.get? b=some o->h'.get? b=some o:=λb o G q=>(I3.2 b G).trans q;have IF':Inv N (VY Z O.heap) σE HF sF:=IF.pins_of λp M=>IF.pin p<|ZU _<|jh _<|ZU _ M;have IG:Inv N (VY Z O.heap) σE HF {sF with heap:=h',toks:=sF.toks}:=IF'.turned (it:=D) kp nD dX (.inl Za) (I.exf D Za).2 R4
    have at2:∀b∈S,∀o,sD.heap.get? b=some o->sF.heap.get? b=some o/\HF b=none:=λb G o q=>by
     have z:=IF.pin (b,o)<|ZU _<|ZU _<|JR G q;exact⟨z.1,z.2.1⟩
    refine⟨c,T9,j+1,h++[yy],t++[yv],HF,?_,?_,?_,nD,?_,vB.append<|.cons rF .nil,wF⟩
    .refine Inv.weak IG (by rw[eE,List.length_set]) λq v hq=>?_
     rw[eE]
     have F6:q≠1:=λz=>by
      subst z;rw[e8]at hq;simp[JD,List.getElem?_append]at hq
     rw[kU (Zs F6)];exact hq
    .exact T2.keep _ _ _ R1 λb G o q=>kp b o (T8 b G) (at2 b G o q).1
    .intro b G
     obtain⟨o,q,_⟩:=T2.obj _ _ R1 b G;exact(at2 b G o q).2
    .have e:(t++[yv]).toArray=t.toArray.push yv:=by simp
     rw[e];exact S2
  have T6:Inv N (VY Z O.heap) σ8 T3 P/\G3 0 P.heap/\P.heap.PlainList D (List.toArray L):=⟨T1.pins_of λp M=>T1.pin p<|ZU _<|ZU _ M,a,⟨nn,gD0⟩⟩;exact Na (inner P T6)<|T2.self _ 0 _ _ _ a<|inner P T6
def JO(own:pX)(G:List Nat)(j:PI X tg iter wi)(R:GK own.length g)(y:∀M C L s H,PG (Vk X (V8 X own G) scope M C L s H) tg g)(z:∀M C L s H,PE (Vk X (V8 X own G) scope M C L s H) elt te)(t:X.calm=true:=by rfl)(Z:scope.kind=.function:=by rfl)(O:XD scope X.env.scope.names X.N G=true:=by rfl)(P:∀x,foldedSetIterable iter X.env x=pure x:=by intro _;rfl):
  PE X (.ListComp elt [⟨tg,iter,[],0⟩] scope pos) (Qa own.length G wi g te):=by
 intro T s U H Q I h;rw[eval_ListComp];exact Tn own G j Z O P I h λM D C L v c J r u f B m k N S=>B.loop1 t R y z m (λd w p A F E q=>Au A F E q) k N S
def EM(own:pX)(G:List Nat)(c:X.N.Nodup)(E:X.N[i0]?=some x0)(O:Loc X.env.scope x0)(z:PI X tg iter wi)(F:GK own.length g)(t:∀M C L s H,PG (Vk X (V8 X own G) scope M C L s H) tg g)(k:∀M C L s H,PE (Vk X (V8 X own G) scope M C L s H) elt te)(p:X.calm=true:=by rfl)(Z:scope.kind=.function:=by rfl)(T:XD scope X.env.scope.names X.N G=true:=by rfl)(R:swapsWith (.ListComp elt [⟨tg,iter,[],0⟩] scope pos) (some<|.Name x0 py) spos.line X.env=pure true:=by rfl)(m:X.fn x0=true\/X.env.scope.names.lookup x0=some .local:=by first|exact .inl Y|exact .inr Y|assumption)(y:∀x,foldedSetIterable iter X.env x=pure x:=by intro _;rfl):
  PS X (.Assign [.Name x0 py] (.ListComp elt [⟨tg,iter,[],0⟩] scope pos) spos) (E5 (Qa own.length G wi g te)<|V2 i0):=by
 intro A s U H i I h;exact EL R<|Tn own G z Z T y I h λM D C L b v J o l r B d f N j=>B.loop1 p F t k d (λw e u Q P S q=>Lz c E O m Q P S q) f N j
def PK(L:List Nat)(f:X.N.Nodup)(A:X.N[i0]?=some x0)(O:Loc X.env.scope x0)(g:PI X (.Name x1 p1) iter wi)(k:∀G C Z s H,PG (Vk X (V8 X [x1,x2] L) scope G C Z s H) (.Name x1 p1)<|V2 0)(F:∀G C Z s H,PI (Vk X (V8 X [x1,x2] L) scope G C Z s H) (.Name x2 p2) iter2 wi2)(S:∀G C Z s H,PG (Vk X (V8 X [x1,x2] L) scope G C Z s H) (.Name x2 p2)<|V2 1)(c:∀G C Z s H,PE (Vk X (V8 X [x1,x2] L) scope G C Z s H) elt te)(d:X.calm=true:=by rfl)(M:scope.kind=.function:=by rfl)(E:XD scope X.env.scope.names X.N L=true:=by rfl)(R:swapsWith (.ListComp elt [⟨.Name x1 p1,iter,[],0⟩,⟨.Name x2 p2,iter2,[],0⟩] scope pos) (some<|.Name x0 py) spos.line X.env=pure true:=by rfl)(p:X.fn x0=true\/X.env.scope.names.lookup x0=some .local:=by first|exact .inl Y|exact .inr Y|assumption)(m:∀x,foldedSetIterable iter X.env x=pure x:=by intro _;rfl)(T:∀P x,foldedSetIterable iter2 P x=pure x:=by intro _ _;rfl):
  PS X (.Assign [.Name x0 py] (.ListComp elt [⟨.Name x1 p1,iter,[],0⟩,⟨.Name x2 p2,iter2,[],0⟩] scope pos) spos) (E5 (SO L wi wi2 te)<|V2 i0):=by
 intro Q s U H a I h;exact EL R<|Tn [x1,x2] L g M E m I h λG D C Z o r J n e b B u v N t=>B.loop2 d k F S c T u (λl i w z y j q=>Lz f A O p z y j q) v N t
end
def Dj(n:Nat)(L:Nat->List V->Hp->Prop)(t:L 0 [] H)(T:∀i Z H,L i Z H->Z.length<sizeLine)(A:∀i Z H,i<n->L i Z H->J.go i H)(M:∀Z H,L n Z H->J.stop n H)(X:∀i Z H x F (R:List V->Hp->Prop),i<n->L i Z H->J.yld i H x F->(∀G D,L (i+1) G D->R G D)->wi2 (s0.set 0<|some x) F λS D=>∃I:Nat->Nat->List V->Hp->Prop,(∃E,I 0 E Z D)/\∀j E G B,I j E G B->
   G.length<sizeLine/\((S.stop j B/\R G B)\/(S.go j B/\∀y U,S.yld j B y U->te ((s0.set 0<|some x).set 1<|some y) U λv g=>∃O,O<E/\I (j+1) O (G++[v]) g)))(hd:∀Z H p,L n Z H->H p=none->Q (.ref p) (upd H p<|.lst Z)):Dy J wi2 te s0 Q H:=by
 refine⟨λi m Z H=>m=n-i/\i<=n/\L i Z H,⟨n,by simp,Zc _,t⟩,λi m Z H z=>?_⟩;obtain⟨rfl,k,p⟩:=z;exists T i Z H p;rcases jS i n with N|P
 .exact .inr ⟨A i Z H N p,λx F y=>X i Z H x F _ N p y λG D C=>⟨n-(i+1),by omega,rfl,N,C⟩⟩
 .have e:i=n:=by omega
  subst e;exact .inl ⟨M Z H p,λb q=>hd Z H b p q⟩
def LT{M:It}{S:TE}{U:St}{R:List V->Hp->Prop}(n:Nat)(J:Nat->List V->Hp->Prop)(g:J 0 X H3)(O:∀j Z H,J j Z H->Z.length<sizeLine)(A:∀j Z H,j<n->J j Z H->M.go j H)(G:∀Z H,J n Z H->M.stop n H)(q:∀j Z H y C (T:V->Hp->Prop),j<n->J j Z H->M.yld j H y C->(∀v B,J (j+1) (Z++[v]) B->T v B)->S (U.set 1<|some y) C T)(hd:∀Z H,J n Z H->R Z H):
  ∃I:Nat->Nat->List V->Hp->Prop,(∃E,I 0 E X H3)/\∀j E Z D,I j E Z D->
   Z.length<sizeLine/\((M.stop j D/\R Z D)\/(M.go j D/\∀y F,M.yld j D y F->S (U.set 1<|some y) F λv B=>∃N,N<E/\I (j+1) N (Z++[v]) B)):=by
 refine⟨λj m Z H=>m=n-j/\j<=n/\J j Z H,⟨n,by simp,Zc _,g⟩,λj m Z H z=>?_⟩;obtain⟨rfl,k,p⟩:=z;exists O j Z H p;rcases jS j n with L|t
 .exact .inr ⟨A j Z H L p,λy F P=>q j Z H y F _ L p P λv B Q=>⟨n-(j+1),by omega,rfl,L,Q⟩⟩
 .have e:j=n:=by omega
  subst e;exact .inl ⟨G Z H p,hd Z H p⟩
end L2
namespace L2
open PySem PySem.Spec PyProof.Rows
section
def Cv(K:W.Frag):List V->Hp->VK->Prop:=λZ H Q=>∃x T t b,Z=[x,.ty T]/\Xr K H x t/\W.kitOne K t (.type T)=some b/\Q (.bl b) H
def OH:J1 X (.builtin "isinstance") (Cv X.K):=by
 intro J s U H L N Q I r h;obtain⟨x,T,t,b,rfl,ty,e,q⟩:=h;obtain⟨u,M,rfl,G,Z⟩:=vals2 r;cases Z;exact FV I G ty e λO=>⟨.bl b,H,I.tok _,Y,q⟩
theorem Tw:∀{Z:pX}{J:pW},Vals (Z.map V.str) J->StrsAre J Z
 |[],_,r=>by cases r;exact .nil
 |y::Z,_,r=>by
  cases r with
  |cons h t=>
   obtain⟨G,e⟩:=h;subst e;exact .cons _ _<|Tw t
def rJoin(K:W.Frag):V->List V->Hp->VK->Prop:=λx J H Q=>∃z p Z,x=.str z/\J=[.ref p]/\SqL K H p (Z.map V.str)/\(Z.map (·.length)).sum+Z.length*z.length<=16777216/\Q (.str<|Txt.join z Z) H
def Pz:MtR X "str.join" (rJoin X.K):=by
 intro Z s U H x B v D Q I J G h;obtain⟨z,p,T,rfl,rfl,R,O,q⟩:=h;obtain⟨t,rfl⟩:=J;obtain⟨u,rfl,L⟩:=vals1 G;cases L;obtain⟨N,r,M,F⟩:=I.list R;exact join_list M.isList (by simpa using Tw r) O λE k=>⟨.str _,H,I.tok _,⟨_,Y⟩,q⟩
def S5:V->List V->Hp->VK->Prop:=λx Z H Q=>∃z y i rest,x=.str z/\Z=[.str y]/\Builtin.Str.occurrences z y 0 z.length 1=i::rest/\Q (.int (i:Nat)) H
def LF:MtR X "str.index" S5:=by
 intro Z s U H x M v N Q I J G h;obtain⟨z,y,i,rest,rfl,rfl,L,q⟩:=h;obtain⟨t,rfl⟩:=J;obtain⟨u,rfl,O,rfl⟩:=vals1 G;exact SC.index L ⟨.int _,H,I.tok _,⟨_,Y⟩,q⟩
def vG:V->Option Int->Option Int->Hp->VK->Prop:=λx Z J H Q=>∃z,x=.str z/\z.length<=sizeLine/\Q (.str<|Txt.slice z Z J) H
def Gr:SlR X vG:=by
 intro J s U H x v g m E C sl Q I B S D T h;obtain⟨z,rfl,A,q⟩:=h;obtain⟨t,rfl⟩:=B;exists "str",_,F.slot_str_getitem.lookup,typeIs_str _ _ _
 have Z:∀(l u:Option (Int×Tok)),l.map (·.1)=E->u.map (·.1)=C->s.heap.IsSlice sl l u none->wpAny (model X.prog X.w) X.A (getItem (.str z t)<|.ref sl) (EP X J U Q) X.xe s:=λl u y P O=>by
  subst y;subst P;exact wpAny_getItem_str_slice O Y (post_val_or_str ⟨Zb (Txt.slice_le z (l.map (·.1))<|u.map (·.1)) A,λp k=>⟨.str _,H,I.tok _,⟨_,rfl⟩,q⟩⟩)
 obtain⟨o,M,L,G⟩:=S
 cases D with
 |none=>
  cases T with
  |none=>exact Z none none Y Y ⟨o,M,L,G⟩
  |int j N=>exact Z none (some (j,N)) Y Y ⟨o,M,L,G⟩
 |int i R=>
  cases T with
  |none=>exact Z (some (i,R)) none Y Y ⟨o,M,L,G⟩
  |int j N=>exact Z (some (i,R)) (some (j,N)) Y Y ⟨o,M,L,G⟩
theorem W1:∀{Z:List Bool}{J:pW},Vals (Z.map V.bl) J->∀(i:Nat)(v:Value),J[i]?=some v->∃b,Z[i]?=some b/\v=.bool b
 |[],_,r,i,v,e=>by cases r;simp at e
 |b::Z,_,r,i,v,e=>by
  cases r with
  |cons h t=>
   cases i with
   |zero=>
    have G:some _=some v:=e;cases G;exact⟨b,Y,h⟩
   |succ j=>exact W1 t j v e
def all_range:∀(Z:List Bool),((List.range Z.length).all λi=>(Z[i]?).getD true)=Z.all id:=λZ=>by
 have e:((List.range Z.length).map λi=>(Z[i]?).getD true)=Z:=List.ext_getElem (by simp) λi G J=>by simp[J]
 have z:=List.all_map (l:=List.range Z.length) (f:=λi=>(Z[i]?).getD true) (p:=id);rw[e]at z;exact z.symm
def Nr(E:X.calm=true):J1 X (.builtin "all") (λM H Q=>∃(p:Addr)(J:List Bool),M=[.ref p]/\SqL X.K H p (J.map V.bl)/\Q (.bl<|J.all id) H):=by
 intro O s U H M C Q I r h;obtain⟨p,J,rfl,T,q⟩:=h;obtain⟨u,rfl,R⟩:=vals1 r;cases R;obtain⟨Z,N,L,P⟩:=I.list T
 have B:p<s.heap.objs.size:=by
  obtain⟨o,n,e,_⟩:=L;exact ZP e
 have G:Z.length=J.length:=by
  have:=N.length;rw[ZA]at this;exact this.symm
 refine call_all_walk<|qK L.isList ?_;exists s.heap.objs.size,_,_,Z.toArray.size,_,_,λi=>(J[i]?).getD true,Y,Walks.list (A:=X.A.in1) (I.ok.hd E) _ p (Ze B) Z.toArray,?_,?_
 .exact ⟨⟨_,ZY _ rfl,rfl,rfl⟩,L.isList.push _⟩
 .intro i v s' Q' E' hP hQ
  obtain⟨b,e,rfl⟩:=W1 N i v (by simpa using hP);have F:(J[i]?).getD true=b:=by rw[e];rfl
  exact jz<|F ▸ hQ
 .intro h' tk hk
  rw[ZO,G,all_range];refine⟨.bl<|J.all id,H,I.kept λb o e=>hk b o (λD=>?_)<|ZE _ e,rfl,q⟩;have S:b=s.heap.objs.size:=by simpa using D
  rw[S]at e;exact jt _<|ZP e
theorem W4:∀{Z:xg}{J:pW},Z.length=J.length->(∀(j:Nat)(x:V)(u:Value),Z[j]?=some x->J[j]?=some u->RelV x u)->Vals Z J
 |[],[],_,_=>.nil
 |[],_::_,h,_=>Zr h<|by simp
 |_::_,[],h,_=>Zr h<|by simp
 |x::Z,u::J,h,hr=>.cons (hr 0 x u rfl rfl)<|W4 (by simpa using h) λj a b L G=>hr (j+1) a b L G
def XF(b:X.calm=true):J1 X (.type "list") (λE H Q=>∃a kvs,E=[.ref a]/\H a=some (.dK kvs)/\∀l,H l=none->Q (.ref l) (upd H l<|.lst<|kvs.map λZ=>kV Z.1)):=by
 intro S s U H E us Q I r h;obtain⟨a,kvs,rfl,e,q⟩:=h;obtain⟨u,rfl,m⟩:=vals1 r;cases m;obtain⟨C,g,F,A,hd⟩:=El I.hok e;obtain⟨ep,R⟩:=hd.dictAt;have J:=A.length;refine W.kdl_call (W.kdl_dict (knd:=VA X.prog X.w) (kvs:=F) (ep:=ep) g) (I.ok.hd b) R (by rw[<-J];exact C) λh' tk D c w v L=>?_;refine⟨.ref s.heap.objs.size,_,I.laid (o:=.lst<|kvs.map λZ=>kV Z.1) w (ZG _) ⟨by rw[ZA];exact C,D.toList,c,?_,by rw[Array.toArray_toList];exact v⟩,rfl,q _<|I.hok.fresh<|ZG _⟩;obtain⟨f,d⟩:=L;refine W4 (by simp[f,J]) λj x u M e2=>?_;obtain⟨k,y,p,O⟩:=d j u (by rw[<-Array.getElem?_toList];exact e2);rw[ZH]at M
 cases hkv:kvs[j]? with
 |none=>rw[hkv]at M;cases M
 |some Z=>
  rw[hkv]at M;cases M;have G:=A.keys;have P:(kvs.map (·.1))[j]?=(F.map (·.1))[j]?:=by rw[G]
  rw[ZH,ZH,hkv,p]at P;have n:Z.1=k:=ZT P;have N:V1 Z.1 u=true:=by rw[n];exact O
  rcases VP N with⟨i,t,B,T⟩|⟨z,t,B,T⟩
  .show RelV (kV Z.1) u
   rw[B,T];exact⟨t,Y⟩
  .show RelV (kV Z.1) u
   rw[B,T];exact⟨t,Y⟩
end
end L2
namespace PySem.W
open PySem PySem.Spec PyProof.Rows
end PySem.W
namespace PySem
open Sem (wp)
section
variable{prog:Program}{w:World}{A:Around}{E:Value->Shared->Prop}{h:Heap}{g:Array GenState}{d:Drawn}{t:Nat}{os:OsState}
variable{nm q:Str}{C N:Addr}{bs bm bmB:List Value}{hdct:Bool}{sn:List Str}{sub:List Value}{ab:Bool}{col:Option Bool}{dd:Option Addr}{k0 k1 k2 k3 k5:Option Value}{B newId initId:String}
end
end PySem
namespace PySem.W
open PySem PySem.Spec PyProof.Rows PySem.Builtin PySem.Builtin.ObjectAttr
end PySem.W
namespace L2
open PySem PySem.Spec PyProof.Rows
end L2
namespace PySem.W
open PySem PySem.Spec PyProof.Rows
end PySem.W
namespace PySem
section
variable{M:Model}{A:Around}{E:Value->Shared->Prop}{env:Env}
variable{nm q:Str}{C N:Addr}{bs bm:List Value}{hdct:Bool}{sn:List Str}{sub:List Value}{ab:Bool}{col:Option Bool}{dd:Option Addr}{k0 k1 k2 k3 k5:Option Value}{newId:String}
end
end PySem
namespace L2
open PySem PySem.Spec PyProof.Rows
def SI(tp:Bool)(h:Heap)(i l:Addr)(k:Nat)(xs:xc):Prop:=match tp with
 |false=>h.IsListIter i l k/\h.IsList l xs
 |true=>h.IsTupleIter i l k/\h.IsTuple l xs
def SI.to(z:SI J h i l k G)(Z:∀b o,(b=i\/b=l)->h.get? b=some o->L.get? b=some o):SI J L i l k G:=by
 cases J with
 |false=>exact⟨let⟨o,e,r⟩:=z.1;⟨o,Z _ _ (.inl Y) e,r⟩,let⟨o,e,r⟩:=z.2;⟨o,Z _ _ (.inr Y) e,r⟩⟩
 |true=>exact⟨let⟨o,e,r⟩:=z.1;⟨o,Z _ _ (.inl Y) e,r⟩,let⟨o,e,r⟩:=z.2;⟨o,Z _ _ (.inr Y) e,r⟩⟩
def SI.but(z:SI G h i l k J)(e:Heap.ExtBut b h L)(N:i≠b)(M:l≠b):SI G L i l k J:=
 z.to λc o Z q=>e c o (by rcases Z with Z|Z <;> rw[Z] <;> assumption) q
def D1{a b:Sem α}{Q:α->Shared->Prop}(Z:c=false)(h:wpAny M A b Q E s):wpAny M A (if c=true then a else b) Q E s:=by
 subst Z
 rwa [Zq (by decide)]
section
def XN(z:SI R s.heap i l k O)(B:l≠i)(D:O[k]?=some x)(I:∀g,SI R g i l (k+1) O->Heap.SameBut i s.heap g->Q x {s with heap:=g}):wpAny (model prog w) A (Builtin.SmallTypes.nextOf<|.ref i) Q E s:=by
 cases R with
 |false=>exact wpAny_nextOf_list_item z.1 z.2 D λg a T=>I g ⟨a,z.2.extBut T.extBut B⟩ T
 |true=>
  obtain⟨G,N⟩:=z;obtain⟨C,J,M,Z⟩:=id G;obtain⟨U,L,_,X,S⟩:=id N;have sn:=F.slot_tuple_iterator_next;simp only[Builtin.SmallTypes.nextOf];refine Zl<|wpAny_callSpecial?_slot (name:=Str.ofString "__next__") G.typeIs sn<|jA sn G.typeIs F.entry_tuple_iterator_next ?_<|F.args_tuple_iterator_next_1 _;refine Zl (m:=field (.ref i) 0)<|Zo J Z (x:=.ref l) rfl (D1 (c:=Value.ref l==.none) rfl ?_);refine Zl (m:=field (.ref i) 1)<|Zo J Z (x:=.int k 0) rfl (Zl (m:=seqItems?<|.ref l)<|jC L S ?_);simp only[D,qr];refine Zl<|wpAny_setField J Z (by simp)<|Zm ⟨x,rfl,Zm<|I _ ⟨?_,?_⟩<|Heap.SameBut.update ..⟩
  .refine ⟨_,Heap.get?_update_self _ J<|Obj.isFreed_of_fields<|Obj.data_mapFields Z _,(Obj.cls_mapFields ..).trans M,?_⟩
   rw[Obj.data_mapFields Z];simp[rawInt]
  .exact N.extBut (Heap.SameBut.update ..).extBut B
def MF(N:A.handled=none)(z:SI B s.heap i l k T)(M:T[k]?=none)(O:∀g e,Heap.ExtBut i s.heap g->(∃o,g.get? e=some o/\o.cls=.type "StopIteration")->E (.ref e) {s with heap:=g}):wpAny (model prog w) A (Builtin.SmallTypes.nextOf<|.ref i) Q E s:=by
 cases B with
 |false=>exact wpAny_nextOf_list_end N z.1 z.2 M O
 |true=>
  obtain⟨G,R⟩:=z;obtain⟨C,Z,S,J⟩:=id G;obtain⟨U,L,_,X,I⟩:=id R;have sn:=F.slot_tuple_iterator_next;simp only[Builtin.SmallTypes.nextOf];refine Zl<|wpAny_callSpecial?_slot (name:=Str.ofString "__next__") G.typeIs sn<|jA sn G.typeIs F.entry_tuple_iterator_next ?_<|F.args_tuple_iterator_next_1 _;refine Zl (m:=field (.ref i) 0)<|Zo Z J (x:=.ref l) rfl (D1 (c:=Value.ref l==.none) rfl ?_);refine Zl (m:=field (.ref i) 1)<|Zo Z J (x:=.int k 0) rfl (Zl (m:=seqItems?<|.ref l)<|jC L I ?_);simp only[M,qr];refine Zl (qe<|Zl<|wpAny_setField Z J (by simp) ?_);refine Zl (m:=newExc (.type "StopIteration") []) ?_;simp only[newExc,newTuple];refine Zl (jX (Zl (m:=firstArgMember _ _)<|wpAny_of_eq (a:=.none) (by simp only[firstArgMember];rfl)<|jX ?_<|by size_fits)<|by size_fits);have D:A.in1.handled=none:=N;simp only[raiseNew];refine Zl<|wpAny_handled<|?_;rw[D];exact Zl<|Zm<|wpAny_throw<|O _ _ (((Heap.SameBut.update ..).extBut.push _).push _) ⟨_,ZY _ rfl,rfl⟩
structure ZS(h:Heap)(z TI TO:Addr)(f0:Value)(t1:Bool)(i1 l1:Addr)(xs:Array Value)(t2:Bool)(i2 l2:Addr)(ys:Array Value)(k:Nat):Prop where
 zip:IsZip h z TI TO f0
 its:IsPair h TI (.ref i1) (.ref i2)
 out:∃a b,IsPair h TO a b
 one:SI t1 h i1 l1 k xs
 two:SI t2 h i2 l2 k ys
def Dz{z TI TO G J t U:Addr}(D:ZipApart z TI TO G J t U)(S:ZS s.heap z TI TO .none t1 G t u t2 J U P k)(hx:u[k]?=some x)(hy:P[k]?=some y)(hQ:∀g,ZS g z TI TO (rawInt s.heap.objs.size) t1 G t u t2 J U P (k+1)->IsPair g s.heap.objs.size x y->g.objs.size=s.heap.objs.size+1->
   (∀c o,c≠z->c≠TO->c≠G->c≠J->s.heap.get? c=some o->g.get? c=some o)->Q (some<|.ref s.heap.objs.size) {s with heap:=g}):wpAny (model prog w) A (pyNext<|.ref z) Q E s:=by
 have hT:s.TypeIs (.ref z) "zip":=⟨_,S.zip,rfl⟩;obtain⟨a,b,So⟩:=S.out;simp only[pyNext];refine Zl<|qR<|wpAny_callSpecial?_slot (name:=Str.ofString "__next__") hT jU<|jA jU hT kW ?_<|kO _;refine Zl (m:=field (.ref z) 2)<|Zo S.zip rfl (x:=.bool false) rfl (Zl (m:=field (.ref z) 3)<|Zo S.zip rfl (x:=.ref TI) rfl (Zl<|jC S.its rfl ?_));refine Zl (m:=Builtin.SmallTypes.ownedTupleIsFree<|.ref z)<|Zl (m:=field (.ref z) 0)<|Zo S.zip rfl (x:=.none) rfl (Zm ?_);simp only[if_true];refine Zl (qe<|Zl<|Zo S.zip rfl (x:=.ref TO) rfl (Zl<|jo S.zip (by simp) λg1 f I=>Zl ?_));replace f:IsZip g1 z TI TO .ellipsis:=f;simp only[qf,kX,List.zipIdx_cons,List.zipIdx_nil];refine Zl<|Zl<|wpAny_onRaise (?_:wpAny _ _ (Builtin.SmallTypes.nextOf (.ref G) >>=_) _ _ _);refine Zl<|XN (S.one.but I.extBut D.i1z D.l1z) D.l1i1 hx λg2 a2 F=>Zm ?_;have o2:IsPair g2 TO a b:=F.extBut _ _ D.TOi1<|I.extBut _ _ D.TOz So;refine Zl<|jC o2 rfl ?_;refine Zl<|pL o2 λg3 l B=>?_;replace l:IsPair g3 TO x b:=l;refine Zl<|wpAny_letGo<|Zm<|Zl<|Zl<|wpAny_onRaise (?_:wpAny _ _ (Builtin.SmallTypes.nextOf (.ref J) >>=_) _ _ _);have b3:SI t2 g3 J U k P:=((S.two.but I.extBut D.i2z D.l2z).but F.extBut D.i12.symm D.l2i1).but B.extBut D.TOi2.symm D.l2TO;refine Zl<|XN b3 D.l2i2 hy λg4 b4 T=>Zm ?_;have o4:IsPair g4 TO x b:=T.extBut _ _ D.TOi2 l;refine Zl<|jC o4 rfl ?_;refine Zl<|pL o4 λZ j R=>?_;replace j:IsPair Z TO x y:=j;refine Zl<|wpAny_letGo<|Zm<|Zm<|Zl<|jC j rfl (Zl<|wpAny_newTuple ?_);have sz:Z.objs.size=s.heap.objs.size:=by rw[R.1,T.1,B.1,F.1,I.1]
 have z5:IsZip Z z TI TO .ellipsis:=R.extBut _ _ D.TOz.symm<|T.extBut _ _ D.i2z.symm<|B.extBut _ _ D.TOz.symm<|F.extBut _ _ D.i1z.symm f
 have k5:∀c o,c≠z->c≠TO->c≠G->c≠J->s.heap.get? c=some o->Z.get? c=some o:=λc o L p n h e=>
  R.extBut _ _ p (T.extBut _ _ h<|B.extBut _ _ p<|F.extBut _ _ n<|I.extBut _ _ L e)
 have a5:SI t1 Z G t (k+1) u:=((a2.but B.extBut D.TOi1.symm D.l1TO).but T.extBut D.i12 D.l1i2).but R.extBut D.TOi1.symm D.l1TO;have b5:SI t2 Z J U (k+1) P:=b4.but R.extBut D.TOi2.symm D.l2TO;have M:z<Z.objs.size:=ZP z5;show wpAny _ _ (Builtin.SmallTypes.ownedTupleHandOut (.ref z) (.ref Z.objs.size) >>=_) _ _ _;refine Zl ?_;simp only[Builtin.SmallTypes.ownedTupleHandOut];have z6:IsZip (Z.push {cls:=.type "tuple",data:=.seq #[x,y]}) z TI TO .ellipsis:=ZE _ z5;refine Zl<|jo z6 (by simp) λg7 d r=>?_;replace d:IsZip g7 z TI TO (rawInt Z.objs.size):=d;refine jo d (by simp) λC X v=>?_;replace X:IsZip C z TI TO (rawInt Z.objs.size):=X;have N:∀c o,c≠z->Z.get? c=some o->C.get? c=some o:=λc o L e=>v.extBut _ _ L<|r.extBut _ _ L<|ZE _ e;have t8:IsPair C Z.objs.size x y:=v.extBut _ _ (jM M)<|r.extBut _ _ (jM M)<|ZY _ rfl;have O:C.objs.size=Z.objs.size+1:=by rw[v.1,r.1,jI]
 rw[sz]at X t8 O;refine Zm ⟨_,Y,Zm ?_⟩;show Q (some<|.ref Z.objs.size) _;rw[sz];refine hQ C ⟨X,N _ _ D.TIz<|k5 _ _ D.TIz D.TITO D.TIi1 D.TIi2 S.its,⟨_,_,N _ _ D.TOz j⟩,?_,?_⟩ t8 O λc o L p n h e=>N c o L<|k5 c o L p n h e
 .exact a5.to λc o i e=>N c o (i.elim (λq=>q ▸ D.i1z) λq=>q ▸ D.l1z) e
 .exact b5.to λc o i e=>N c o (i.elim (λq=>q ▸ D.i2z) λq=>q ▸ D.l2z) e
def Fm{z TI TO O N v X:Addr}(r:A.handled=none)(D:ZipApart z TI TO O N v X)(S:ZS s.heap z TI TO .none t1 O v d t2 N X U k)(R:d[k]?=none\/U[k]?=none)(hQ:∀g,(∀c o,c≠z->c≠TO->c≠O->c≠N->s.heap.get? c=some o->g.get? c=some o)->Q none {s with heap:=g}):wpAny (model prog w) A (pyNext<|.ref z) Q E s:=by
 have l:s.TypeIs (.ref z) "zip":=⟨_,S.zip,rfl⟩;obtain⟨a,b,So⟩:=S.out;have stop:∀(g:Heap)(e:Addr),(∀c o,c≠z->c≠TO->c≠O->c≠N->s.heap.get? c=some o->g.get? c=some o)->(∃o,g.get? e=some o/\o.cls=.type "StopIteration")->
   wpAny (model prog w) A (do if(<-isInstance (.ref e) (.type "StopIteration"))then pure none else throw (.ref e):Sem (Option Value)) Q E {s with heap:=g}:=λg e n ⟨o,ho,hc⟩=>
  Zl (qP (T:="StopIteration") (b:=true) ⟨o,ho,hc⟩ isSubtype_stop<|Zm<|hQ g n)
 simp only[pyNext];refine Zl<|qR<|wpAny_callSpecial?_slot (name:=Str.ofString "__next__") l jU<|jA jU l kW ?_<|kO _;refine Zl (m:=field (.ref z) 2)<|Zo S.zip rfl (x:=.bool false) rfl (Zl (m:=field (.ref z) 3)<|Zo S.zip rfl (x:=.ref TI) rfl (Zl<|jC S.its rfl ?_));refine Zl (m:=Builtin.SmallTypes.ownedTupleIsFree<|.ref z)<|Zl (m:=field (.ref z) 0)<|Zo S.zip rfl (x:=.none) rfl (Zm ?_);simp only[if_true];refine Zl (qe<|Zl<|Zo S.zip rfl (x:=.ref TO) rfl (Zl<|jo S.zip (by simp) λg1 F M=>Zl ?_));replace F:IsZip g1 z TI TO .ellipsis:=F;simp only[qf,kX,List.zipIdx_cons,List.zipIdx_nil];refine Zl<|Zl<|wpAny_onRaise (?_:wpAny _ _ (Builtin.SmallTypes.nextOf (.ref O) >>=_) _ _ _)
 cases hx:d[k]? with
 |none=>
  refine Zl<|MF r (S.one.but M.extBut D.i1z D.l1z) hx λg2 e h P=>?_;obtain⟨C,Z,J⟩:=P;have p:IsZip g2 z TI TO .ellipsis:=h _ _ D.i1z.symm F;have G:e≠z:=λq=>by subst q;rw[p]at Z;cases Z;simp at J
  refine jo p (by simp) λj _ L=>?_;exact stop j e (λc o B _ y _ q=>L.extBut _ _ B<|h _ _ y<|M.extBut _ _ B q) ⟨C,L.extBut _ _ G Z,J⟩
 |some x=>
  have hy:U[k]?=none:=by rcases R with q|q;rw[hx]at q;cases q;exact q
  refine Zl<|XN (S.one.but M.extBut D.i1z D.l1z) D.l1i1 hx λg2 a2 I=>Zm ?_;have u:IsPair g2 TO a b:=I.extBut _ _ D.TOi1<|M.extBut _ _ D.TOz So;refine Zl<|jC u rfl ?_;refine Zl<|pL u λj o3 L=>?_;refine Zl<|wpAny_letGo<|Zm<|Zl<|Zl<|wpAny_onRaise (?_:wpAny _ _ (Builtin.SmallTypes.nextOf (.ref N) >>=_) _ _ _);have b3:SI t2 j N X k U:=((S.two.but M.extBut D.i2z D.l2z).but I.extBut D.i12.symm D.l2i1).but L.extBut D.TOi2.symm D.l2TO;refine Zl<|MF r b3 hy λg4 e i P=>?_;obtain⟨C,Z,J⟩:=P;have t:IsZip g4 z TI TO .ellipsis:=i _ _ D.i2z.symm<|L.extBut _ _ D.TOz.symm<|I.extBut _ _ D.i1z.symm F;have G:e≠z:=λq=>by subst q;rw[t]at Z;cases Z;simp at J
  refine jo t (by simp) λg5 _ f=>?_;exact stop g5 e (λc o B c2 y c4 q=>f.extBut _ _ B<|i _ _ c4<|L.extBut _ _ c2<|I.extBut _ _ y<|M.extBut _ _ B q) ⟨C,f.extBut _ _ G Z,J⟩
def Wk(tp:Bool)(h:Heap)(l:Addr)(xs:xc):Prop:=match tp with
 |false=>h.IsList l xs
 |true=>h.IsTuple l xs
def Jn(tp:Bool)(l:Addr):Obj:={cls:=.type<|if tp then "tuple_iterator" else "list_iterator",data:=.fields #[.ref l,.int 0 0]}
def GO(h:Wk Z s.heap l J)(q:Q (.ref s.heap.objs.size) {s with heap:=s.heap.push (Jn Z l)}):wpAny (model prog w) A (pyIter<|.ref l) Q E s:=by
 cases Z with
 |false=>exact qK h q
 |true=>exact wpAny_pyIter_tuple h q
def Wk.push(z:Wk Z h l J)(o:Obj):Wk Z (h.push o) l J:=by
 cases Z with
 |false=>exact Heap.IsList.push z o
 |true=>exact Heap.IsTuple.push z o
end
abbrev zg1(h:Heap)(t1:Bool)(l1:Addr):Heap:=h.push (Jn t1 l1)
abbrev zg2(h:Heap)(t1:Bool)(l1:Addr)(t2:Bool)(l2:Addr):Heap:=(zg1 h t1 l1).push (Jn t2 l2)
abbrev zg3(h:Heap)(t1:Bool)(l1:Addr)(t2:Bool)(l2:Addr):Heap:=(zg2 h t1 l1 t2 l2).push {cls:=.type "tuple",data:=.seq #[.ref h.objs.size,.ref (zg1 h t1 l1).objs.size]}
abbrev zg4(h:Heap)(t1:Bool)(l1:Addr)(t2:Bool)(l2:Addr):Heap:=(zg3 h t1 l1 t2 l2).push {cls:=.type "tuple",data:=.seq #[.none,.none]}
abbrev zg5(h:Heap)(t1:Bool)(l1:Addr)(t2:Bool)(l2:Addr):Heap:=(zg4 h t1 l1 t2 l2).push {cls:=.type "zip",data:=.fields #[.none,.bool false,.bool false,.ref (zg2 h t1 l1 t2 l2).objs.size,.ref (zg3 h t1 l1 t2 l2).objs.size]}
def N1(J L:Bool)(Z G:Addr)(N M:xc):
  Meets (Builtin.«zip.__new__» ⟨[.type "zip",.ref Z,.ref G],[]⟩) (λ_ R s=>Wk J s.heap Z N/\Wk L s.heap G M/\
   R (.ok<|.ret<|.ref (zg4 s.heap J Z L G).objs.size) {s with heap:=zg5 s.heap J Z L G}):=
 .of_wp λT w A R s h=>by
  obtain⟨E,g,d,O,B⟩:=s;obtain⟨U,S,h⟩:=h;have D:=sub_zip;have I:Wk J (Shared.heap ⟨E,g,d,O,B⟩) Z N:=U;have F:Wk L (Shared.heap ⟨E.push<|Jn J Z,g,d,O,B⟩) G M:=Wk.push S _
  wp_walk using GO I,GO F
  exact⟨_,Y,h⟩
def SJ(tp:Bool)(h:Heap)(i l:Addr)(k:Nat):Prop:=match tp with
 |false=>h.IsListIter i l k
 |true=>h.IsTupleIter i l k
def SJ.si(z:SJ Z h i l k)(c:Wk Z h l J):SI Z h i l k J:=by
 cases Z <;> exact⟨z,c⟩
def SI.sj(z:SI Z h i l k J):SJ Z h i l k:=by
 cases Z <;> exact z.1
def SJ.to(z:SJ Z h i l k)(J:∀o,h.get? i=some o->G.get? i=some o):SJ Z G i l k:=by
 cases Z with
 |false=>exact let⟨o,e,r⟩:=z;⟨o,J _ e,r⟩
 |true=>exact let⟨o,e,r⟩:=z;⟨o,J _ e,r⟩
def SJ.obj(z:SJ Z h i l k):∃o,h.get? i=some o/\∀v,o.data≠.cell v:=by
 cases Z with
 |false=>obtain⟨o,e,_,d⟩:=z;exact⟨o,e,λv q=>by rw[d]at q;cases q⟩
 |true=>obtain⟨o,e,_,d⟩:=z;exact⟨o,e,λv q=>by rw[d]at q;cases q⟩
def SJ.new(Z:Bool)(h:Heap)(l:Addr):SJ Z (h.push<|Jn Z l) h.objs.size l 0:=by
 cases Z <;> exact⟨_,ZY _ Y,Y,Y⟩
structure ZR(h:Heap)(z TI TO:Addr)(t1:Bool)(i1 l1:Addr)(t2:Bool)(i2 l2:Addr)(k:Nat):Prop where
 zip:IsZip h z TI TO .none
 its:IsPair h TI (.ref i1) (.ref i2)
 out:∃a b,IsPair h TO a b
 one:SJ t1 h i1 l1 k
 two:SJ t2 h i2 l2 k
section
def Nq(U:Wk t1 s.heap l1 D)(S:Wk t2 s.heap l2 B)(h:∀g,ZR g (s.heap.objs.size+4) (s.heap.objs.size+2) (s.heap.objs.size+3) t1 s.heap.objs.size l1 t2 (s.heap.objs.size+1) l2 0->
   (∀c o,s.heap.get? c=some o->g.get? c=some o)->Q (.ref<|s.heap.objs.size+4) {s with heap:=g}):wpAny (model prog w) A (call (.type "zip") [.ref l1,.ref l2]) Q E s:=by
 refine callType_new F.called_zip (by decide) (F.typeCall_zip_2 _ _) (F.newCall_zip_2 _ _) (λJ=>F.args_object_init_3 J _ _) F.entry_zip_new (N1 t1 t2 l1 l2 D B) ⟨U,S,?_⟩;have M:(zg1 s.heap t1 l1).objs.size=s.heap.objs.size+1:=jI ..;have L:(zg2 s.heap t1 l1 t2 l2).objs.size=s.heap.objs.size+2:=by rw[jI,M]
 have G:(zg3 s.heap t1 l1 t2 l2).objs.size=s.heap.objs.size+3:=by rw[jI,L]
 have T:(zg4 s.heap t1 l1 t2 l2).objs.size=s.heap.objs.size+4:=by rw[jI,G]
 have Z:(zg5 s.heap t1 l1 t2 l2).get? (zg4 s.heap t1 l1 t2 l2).objs.size=some _:=ZY _ rfl;have N:(zg5 s.heap t1 l1 t2 l2).get? (zg3 s.heap t1 l1 t2 l2).objs.size=some _:=ZE _<|ZY _ rfl;have O:(zg5 s.heap t1 l1 t2 l2).get? (zg2 s.heap t1 l1 t2 l2).objs.size=some _:=ZE _<|ZE _<|ZY _ rfl;have R:SJ t2 (zg5 s.heap t1 l1 t2 l2) (zg1 s.heap t1 l1).objs.size l2 0:=(SJ.new t2 (zg1 s.heap t1 l1) l2).to λo q=>ZE _<|ZE _<|ZE _ q;have I:SJ t1 (zg5 s.heap t1 l1 t2 l2) s.heap.objs.size l1 0:=(SJ.new t1 s.heap l1).to λo q=>ZE _<|ZE _<|ZE _<|ZE _ q;show _/\_;rw[L,G,T]at Z;rw[M,L]at O;rw[G]at N;rw[M]at R;rw[T]
 exact⟨⟨_,Z,Y⟩,h _ ⟨Z,O,⟨_,_,N⟩,I,R⟩ λc o q=>
  ZE _ (ZE _<|ZE _<|ZE _<|ZE _ q)⟩
end
def Sq(K:W.Frag)(tp:Bool)(H:Hp)(l:Addr)(xs:xg):Prop:=match tp with
 |false=>SqL K H l xs
 |true=>SqT K H l xs
def Inv.sq(I:Inv X G U H s)(h:Sq X.K J H l L):∃Z:pW,Vals L Z/\Wk J s.heap l Z.toArray:=by
 cases J with
 |false=>
  obtain⟨Z,r,p,_⟩:=I.list h;exact⟨Z,r,p.isList⟩
 |true=>
  obtain⟨Z,r,p,_⟩:=I.tuple h;exact⟨Z,r,p⟩
def Inv.sq_inj(I:Inv X J U H s)(h:Sq X.K Z H l M)(G:Sq X.K Z H l L):M=L:=by
 cases Z with
 |false=>exact I.list_inj h G
 |true=>exact I.tuple_inj h G
def Wk.lt(z:Wk Z h l J):l<h.objs.size:=by
 cases Z with
 |false=>obtain⟨_,e,_⟩:=z;exact ZP e
 |true=>obtain⟨_,e,_⟩:=z;exact ZP e
def Itz(K:W.Frag)(t1:Bool)(l1:Addr)(t2:Bool)(l2:Addr):It:=
  ⟨λi H=>∃J Z x y,Sq K t1 H l1 J/\Sq K t2 H l2 Z/\J[i]?=some x/\Z[i]?=some y,
   λi H v G=>∃p x y,v=.ref p/\H p=none/\G=upd H p (.tup [x,y])/\(∀J,Sq K t1 H l1 J->J[i]?=some x)/\∀Z,Sq K t2 H l2 Z->Z[i]?=some y,
   λi H=>∃J Z,Sq K t1 H l1 J/\Sq K t2 H l2 Z/\(J.length<=i\/Z.length<=i)⟩
def RT:bootBuiltins "zip"=some (.type "zip"):=by decide +kernel
def Inv.turnedL{ch:xa}(I:Inv X Z U H s)(k:∀b o,b∉ch->s.heap.get? b=some o->O.get? b=some o)(f:∀b∈ch,UN X Z H b):
  Inv X Z U H {s with heap:=O,toks:=t'}:=by
 have L:∀b u,H b=some u->b∉ch:=λb u e z=>by rw[(f b z).1]at e;cases e
 have M:X.env.locals∉ch:=λz=>(f _ z).2.1 rfl;refine I.step (g':=s.gens) (d':=s.drawn) (ch:=ch) (λb G=>⟨(f b G).2.2.2.1,(f b G).2.1,(f b G).2.2.2.2.1,(f b G).2.2.2.2.2⟩) (λb o _ _ J e _=>k b o J e) (λb o _ _ J e _=>⟨o.slots,k b o J e⟩) (λ_ _ _ _ n=>n)
  (λb o J e=>⟨o,k b o J e⟩) (λ_ _ e=>e) (λ_ _ _ e=>e) (λb R e=>⟨#[],by rw[e];simp⟩) (λm N=>?_) (λb u e=>?_) I.bare
 .obtain ⟨o,es,ep,ho,r⟩:=N
  exact⟨o,es,ep,k _ o M ho,r⟩
 .refine (I.hok b u e).stay (λc v J q=>k c v ?_ q) (λ_ q=>q) λ_ _ q=>q
  rcases J with z|z
  .rw [z];exact L b u e
  .exact L c _ z
def zT{a b c d x:Addr}(h:x∈ [a,b,c,d]):x=a\/x=b\/x=c\/x=d:=by simpa using h
def IA{P:Program}{w:World}{K:W.Frag}{B:xv}{x1}{r:Pos}{z TI TO L G l1 l2:Addr}{t1 t2:Bool}(D:ZipApart z TI TO L G l1 l2):
  Turn P w K (.Tuple B x1 r) (Itz K t1 l1 t2 l2) [z,TO,L,G,TI] z (λi h=>ZR h z TI TO t1 L l1 t2 G l2 i) where
 mem:=by simp
 obj:=λi h st b Z=>by
  have q:b=z\/b=TO\/b=L\/b=G\/b=TI:=by simpa using Z
  rcases q with q|q|q|q|q <;> rw[q]
  .exact ⟨_,st.zip,λv e=>nomatch e⟩
  .obtain ⟨a,b,e⟩:=st.out
   exact⟨_,e,λv e=>nomatch e⟩
  .exact st.one.obj
  .exact st.two.obj
  .exact ⟨_,st.its,λv e=>nomatch e⟩
 keep:=λi h h' st k=>⟨k z (by simp) _ st.zip,k TI (by simp) _ st.its,let⟨a,b,e⟩:=st.out;⟨a,b,k TO (by simp) _ e⟩,st.one.to λo e=>k L (by simp) o e,st.two.to λo e=>k G (by simp) o e⟩
 item:=by
  intro X hP hw hK hc i J s U H E I C st hg;subst hP hw hK;obtain⟨xs,ys,x,y,S,A,hx,hy⟩:=hg;obtain⟨R,u,j⟩:=I.sq S;obtain⟨O,d,Q⟩:=I.sq A;obtain⟨m,G2,c⟩:=u.get hx;obtain⟨t,G1,p⟩:=d.get hy;refine Dz D ⟨st.zip,st.its,st.out,st.one.si j,st.two.si Q⟩ (x:=m) (y:=t) (by simpa using G2) (by simpa using G1) λg F hp sz kp=>?_
  have f:∀b∈ [z,TO,L,G],UN X J H b:=λb Z=>C b (by
   rcases zT Z with q|q|q|q <;> rw[q] <;> simp)
  have J2:∀b o,b ∉ [z,TO,L,G]->s.heap.get? b=some o->g.get? b=some o:=λb o Z e=>kp b o (λq=>Z<|by simp[q]) (λq=>Z<|by simp[q]) (λq=>Z<|by simp[q]) (λq=>Z<|by simp[q]) e;have I1:Inv X J U H {s with heap:=g}:=I.turnedL (t':=s.toks) J2 f;have hn:H s.heap.objs.size=none:=I.hok.fresh<|ZG _;have N:z<s.heap.objs.size:=ZP st.zip;exists _,Y;refine wpAny_letOwnedTupleGo_zip (s:={s with heap:=g}) F.zip λg2 z2 M=>?_
  have I2:Inv X J U H {s with heap:=g2}:=I1.turnedL (s:={s with heap:=g}) (t':=s.toks) (ch:=[z]) (λb o Z e=>M.extBut b o (λq=>Z<|by simp[q]) e) λb Z=>by
   have q:b=z:=by simpa using Z
   rw[q];exact f z<|by simp
  have l:IsPair g2 s.heap.objs.size m t:=M.extBut _ _ (jM N) hp;have I3:Inv X J U (upd H s.heap.objs.size<|.tup [x,y]) {s with heap:=g2}:=I2.retrack hn (I.fpOk (ZG _) hn) ⟨sl 2,[m,t],.cons c<|.cons p .nil,⟨_,l,rfl,rfl,_,rfl⟩⟩
  have n:∀b∈ [z,TO,L,G,TI],b<s.heap.objs.size:=λb Z=>by
   have q:b=z\/b=TO\/b=L\/b=G\/b=TI:=by simpa using Z
   rcases q with q|q|q|q|q <;> rw[q]
   .exact N
   .obtain ⟨a,b,e⟩:=st.out
    exact ZP e
   .obtain ⟨o,e,_⟩:=st.one.obj
    exact ZP e
   .obtain ⟨o,e,_⟩:=st.two.obj
    exact ZP e
   .exact ZP st.its
  refine⟨.ref s.heap.objs.size,_,I3,Y,⟨_,x,y,Y,hn,Y,λzs h=>by rw[I.sq_inj h S];exact hx,λzs h=>by rw[I.sq_inj h A];exact hy⟩,?_,λb Z=>?_⟩
  .refine ⟨z2,M.extBut _ _ D.TIz F.its,let⟨a,b,e⟩:=F.out;⟨a,b,M.extBut _ _ D.TOz e⟩,F.one.sj.to λo e=>M.extBut _ _ D.i1z e,F.two.sj.to λo e=>M.extBut _ _ D.i2z e⟩
  .rw [Yg (Ze<|n b Z)]
   exact(C b Z).1
 done:=by
  intro X hP hw hK hc i J s U H E I C st hg;subst hP hw hK;obtain⟨xs,ys,S,A,T⟩:=hg;obtain⟨R,u,j⟩:=I.sq S;obtain⟨O,d,Q⟩:=I.sq A;have e1:=u.length;have e2:=d.length;refine Fm (I.ok.hd hc) D ⟨st.zip,st.its,st.out,st.one.si j,st.two.si Q⟩ ?_ λg kp=>⟨Y,?_⟩
  .rcases T with q|q
   .exact .inl (by simp;omega)
   .exact .inr (by simp;omega)
  .refine I.turnedL (t':=s.toks) (ch:=[z,TO,L,G]) (λb o Z e=>kp b o (λq=>Z<|by simp[q]) (λq=>Z<|by simp[q]) (λq=>Z<|by simp[q]) (λq=>Z<|by simp[q]) e) λb Z=>C b (by
    rcases zT Z with q|q|q|q <;> rw[q] <;> simp)
 self:=λ_ _ _ _ _ st h=>wpAny_pyIter_zip st.zip h
def zap(n J Z:Nat)(M:J<n)(L:Z<n):ZipApart (n+4) (n+2) (n+3) n (n+1) J Z:=by
 constructor <;> (intro q;have G:(_:Nat)=_:=q;omega)
def vR(K:W.Frag)(ta:TA):TI:=λU H R=>ta U H λN Z=>∃a b G J M L,N=[.ref a,.ref b]/\Sq K G Z a M/\Sq K J Z b L/\R (Itz K G a J b) Z
def S9(f:Gl X "zip")(d:X.mg "zip"=none)(w:PA X [a,b] ta)(c:starEach [a,b] X.env=[(false,eval a X.env),(false,eval b X.env)]:=by rfl)(G:starEach [b] X.env=[(false,eval b X.env)]:=by rfl):PI X (.Tuple elts x1 tpos) (.Call (.Name "zip" p) [a,b] [] pos) (vR X.K ta):=by
 intro J s U H R I h;refine Call_ (U9 I f d RT<|jG (thn (w pos J s U H _ I h) λx Z ⟨n,A,M,j,O⟩=>?_) (by rw[c,G]) (by rw[G];rfl));obtain⟨l1,l2,t1,t2,o,l,e,O,y,q⟩:=O;subst e;obtain⟨u,i,rfl,C,N⟩:=vals2 j;cases C;cases N;obtain⟨F,Q,B⟩:=M.sq O;obtain⟨E,P,T⟩:=M.sq y;have m:=B.lt;have t:=T.lt;refine Nq B T λg S k=>?_;refine wpAny_pyIter_zip (s:={Z with heap:=g}) S.zip ?_;have D:=zap _ _ _ m t;have r:Inv X J U A {Z with heap:=g}:=M.kept (t':=Z.toks) k;refine⟨_,[Z.heap.objs.size+4,Z.heap.objs.size+3,Z.heap.objs.size,Z.heap.objs.size+1,Z.heap.objs.size+2],_,_,A,Y,r,IA D,S,λb v=>?_,q⟩
 have L:Z.heap.objs.size<=b:=by
  have z:b=Z.heap.objs.size+4\/b=Z.heap.objs.size+3\/b=Z.heap.objs.size\/b=Z.heap.objs.size+1\/b=Z.heap.objs.size+2:=by simpa using v
  rcases z with z|z|z|z|z <;> rw[z] <;> first|exact ZG _|exact jy _ _
 exact M.fpOk L<|M.hok.fresh L
inductive Dat where
 |non|bl (b:Bool)|int (i:Int)|str (x:Str)|tup (ds:List Dat)|lst (ds:List Dat)
abbrev xo:=List Dat
mutual
def Has(H:Hp):V->Dat->Prop
 |v,.non=>v=.non
 |v,.bl b=>v=.bl b
 |v,.int i=>v=.int i
 |v,.str x=>v=.str x
 |v,.tup ds=>∃a xs,v=.ref a/\H a=some (.tup xs)/\HasL H xs ds
 |v,.lst ds=>∃a xs,v=.ref a/\H a=some (.lst xs)/\HasL H xs ds
def HasL(H:Hp):List V->List Dat->Prop
 |[],[]=>True
 |x::xs,d::ds=>Has H x d/\HasL H xs ds
 |_::_,[]=>False
 |[],_::_=>False
end
mutual
theorem Has.mono{H M:Hp}(e:Same H M):∀(d:Dat){v:V},Has H v d->Has M v d
 |.non,_,h=>by unfold Has at h |-;exact h
 |.bl _,_,h=>by unfold Has at h |-;exact h
 |.int _,_,h=>by unfold Has at h |-;exact h
 |.str _,_,h=>by unfold Has at h |-;exact h
 |.tup ds,_,h=>by
  unfold Has at h |-;obtain⟨a,Z,L,G,J⟩:=h;exact⟨a,Z,L,e _ _ G,HasL.mono e ds J⟩
 |.lst ds,_,h=>by
  unfold Has at h |-;obtain⟨a,Z,L,G,J⟩:=h;exact⟨a,Z,L,e _ _ G,HasL.mono e ds J⟩
theorem HasL.mono{H G:Hp}(e:Same H G):∀(Z:xo){J:xg},HasL H J Z->HasL G J Z
 |[],[],h=>by unfold HasL;trivial
 |[],_::_,h=>by unfold HasL at h;exact h.elim
 |_::_,[],h=>by unfold HasL at h;exact h.elim
 |d::Z,x::J,h=>by
  unfold HasL at h |-;exact⟨Has.mono e d h.1,HasL.mono e Z h.2⟩
end
theorem HasL.length:∀{J:xo}{Z:xg},HasL H Z J->Z.length=J.length
 |[],[],h=>rfl
 |[],_::_,h=>by unfold HasL at h;exact h.elim
 |_::_,[],h=>by unfold HasL at h;exact h.elim
 |d::J,x::Z,h=>by
  unfold HasL at h;rw[Zf,Zf,HasL.length h.2]
theorem HasL.get:∀{J:xo}{Z:xg}{i:Nat}{x:V},HasL H Z J->Z[i]?=some x->∃d,J[i]?=some d/\Has H x d
 |[],[],i,x,h,e=>by simp at e
 |[],_::_,_,_,h,_=>by unfold HasL at h;exact h.elim
 |_::_,[],_,_,h,_=>by unfold HasL at h;exact h.elim
 |d::J,y::Z,0,x,h,e=>by
  unfold HasL at h;have G:some y=some x:=e;cases G;exact⟨d,Y,h.1⟩
 |d::J,y::Z,i+1,x,h,e=>by
  unfold HasL at h;exact HasL.get (i:=i) h.2 e
theorem HasL.append:∀{L G:xo}{J Z:xg},HasL H J L->HasL H Z G->HasL H (J++ Z) (L++ G)
 |[],_,[],_,_,h=>h
 |[],_,_::_,_,h,_=>by unfold HasL at h;exact h.elim
 |_::_,_,[],_,h,_=>by unfold HasL at h;exact h.elim
 |d::L,G,x::J,Z,h,h'=>by
  unfold HasL at h;show HasL H (x::(J++ Z)) (d::(L++ G));unfold HasL;exact⟨h.1,HasL.append h.2 h'⟩
abbrev Z7:=@HasL.append
def HasL.one(h:Has H x d):HasL H [x] [d]:=by
 unfold HasL;exact⟨h,by unfold HasL;trivial⟩
abbrev Z5:=@HasL.one
def HasL.nil:HasL H [] []:=by unfold HasL;trivial
abbrev Z6:=@HasL.nil
def HasL.cons(h:Has H x d)(t:HasL H Z J):HasL H (x::Z) (d::J):=by
 unfold HasL;exact⟨h,t⟩
abbrev Z4:=@HasL.cons
mutual
theorem Has.inj{H:Hp}:∀(d Z:Dat){v:V},Has H v d->Has H v Z->d=Z
 |.non,Z,_,h,h'=>by
  unfold Has at h;subst h;cases Z <;> unfold Has at h' <;> first|(obtain⟨_,_,q,_⟩:=h';cases q;done)|rfl|(cases h';done)
 |.bl _,Z,_,h,h'=>by
  unfold Has at h;subst h;cases Z <;> unfold Has at h' <;> first|(obtain⟨_,_,q,_⟩:=h';cases q;done)|(cases h';done)|(cases h';rfl)
 |.int _,Z,_,h,h'=>by
  unfold Has at h;subst h;cases Z <;> unfold Has at h' <;> first|(obtain⟨_,_,q,_⟩:=h';cases q;done)|(cases h';done)|(cases h';rfl)
 |.str _,Z,_,h,h'=>by
  unfold Has at h;subst h;cases Z <;> unfold Has at h' <;> first|(obtain⟨_,_,q,_⟩:=h';cases q;done)|(cases h';done)|(cases h';rfl)
 |.tup ds,Z,_,h,h'=>by
  unfold Has at h;obtain⟨a,B,T,L,R⟩:=h;subst T
  cases Z with
  |tup M=>
   unfold Has at h';obtain⟨b,O,G,J,N⟩:=h';cases G;rw[L]at J;cases J;rw[HasL.inj ds M R N]
  |lst M=>
   unfold Has at h';obtain⟨b,O,G,J,N⟩:=h';cases G;rw[L]at J;cases J
  |_=>unfold Has at h';cases h'
 |.lst ds,Z,_,h,h'=>by
  unfold Has at h;obtain⟨a,B,T,L,R⟩:=h;subst T
  cases Z with
  |lst M=>
   unfold Has at h';obtain⟨b,O,G,J,N⟩:=h';cases G;rw[L]at J;cases J;rw[HasL.inj ds M R N]
  |tup M=>
   unfold Has at h';obtain⟨b,O,G,J,N⟩:=h';cases G;rw[L]at J;cases J
  |_=>unfold Has at h';cases h'
theorem HasL.inj{H:Hp}:∀(G J:xo){Z:xg},HasL H Z G->HasL H Z J->G=J
 |[],[],_,_,_=>rfl
 |[],_::_,Z,h,h'=>by
  cases Z <;> unfold HasL at h h'
  .exact h'.elim
  .exact h.elim
 |_::_,[],Z,h,h'=>by
  cases Z <;> unfold HasL at h h'
  .exact h.elim
  .exact h'.elim
 |d::G,e::J,Z,h,h'=>by
  cases Z with
  |nil=>unfold HasL at h;exact h.elim
  |cons x Z=>
   unfold HasL at h h';rw[Has.inj d e h.1 h'.1,HasL.inj G J h.2 h'.2]
end
theorem Li{K:W.Frag}:∀{d:Dat},Has H v d->Xr K H v (.type<|match d with|.non=>"NoneType"|.bl _=>"bool"|.int _=>"int"|.str _=>"str"|.tup _=>"tuple"|.lst _=>"list")
 |.non,h=>by unfold Has at h;subst h;exact .non
 |.bl _,h=>by unfold Has at h;subst h;exact .bl _
 |.int _,h=>by unfold Has at h;subst h;exact .int _
 |.str _,h=>by unfold Has at h;subst h;exact .str _
 |.tup _,h=>by unfold Has at h;obtain⟨a,Z,rfl,e,_⟩:=h;exact .tup e
 |.lst _,h=>by unfold Has at h;obtain⟨a,Z,rfl,e,_⟩:=h;exact .lst e
end L2
namespace L2
open PySem
def Mp{K:PySem.W.Frag}{a:Addr}{xs:xg}{g:TG}{L:TS}{D:Ends}{U:St}{H:Hp}(Z:xi)(I:Z 0 U H)(A:∀i U H,i<=xs.length->Z i U H->SqL K H a xs)(F:∀(B:xj)(R:VK) i x U H,xs[i]?=some x->Z i U H->g x U H fun σ2 G=>L {nx:=Z<|i+1,rt:=R,bk:=B,ct:=Z (i+1)} σ2 G)(hd:∀U H,Z xs.length U H->D.nx U H):
  ∃W:Nat->Nat->St->Hp->Prop,(∃m,W 0 m U H)/\∀i m U H,W i m U H->
   ((Itl K a).stop i H/\D.nx U H)\/((Itl K a).go i H/\∃N:xj,(∀O J,N O J->∃M,M<m/\W (i+1) M O J)/\∀x J,(Itl K a).yld i H x J->g x U J fun σ2 G=>L {D with nx:=N,ct:=N,bk:=D.nx} σ2 G):=
 Lx Z I A (λi x U H E p=>F _ _ i x U H E p) hd
def Tb{K:PySem.W.Frag}{a:Addr}{xs:xg}{g:TG}{L:TS}{D:Ends}{U:St}{H:Hp}(Z:xi)(I:Z 0 U H)(A:∀i U H,i<=xs.length->Z i U H->SqT K H a xs)(F:∀(B:xj)(R:VK) i x U H,xs[i]?=some x->Z i U H->g x U H fun σ2 G=>L {nx:=Z<|i+1,rt:=R,bk:=B,ct:=Z (i+1)} σ2 G)(hd:∀U H,Z xs.length U H->D.nx U H):
  ∃W:Nat->Nat->St->Hp->Prop,(∃m,W 0 m U H)/\∀i m U H,W i m U H->
   ((Itt K a).stop i H/\D.nx U H)\/((Itt K a).go i H/\∃N:xj,(∀O J,N O J->∃M,M<m/\W (i+1) M O J)/\∀x J,(Itt K a).yld i H x J->g x U J fun σ2 G=>L {D with nx:=N,ct:=N,bk:=D.nx} σ2 G):=
 Ei Z I A (λi x U H E p=>F _ _ i x U H E p) hd
def Tc{G:Int}{n:Nat}{g:TG}{M:TS}{D:Ends}{U:St}{H:Hp}(Z:xi)(I:Z 0 U H)(F:∀(B:xj)(R:VK) i U H,i<n->Z i U H->g (.int<|G+i) U H fun σ2 L=>M {nx:=Z<|i+1,rt:=R,bk:=B,ct:=Z (i+1)} σ2 L)(hd:∀U H,Z n U H->D.nx U H):
  ∃W:Nat->Nat->St->Hp->Prop,(∃m,W 0 m U H)/\∀i m U H,W i m U H->
   ((Itr G n).stop i H/\D.nx U H)\/((Itr G n).go i H/\∃N:xj,(∀T J,N T J->∃O,O<m/\W (i+1) O T J)/\∀x J,(Itr G n).yld i H x J->g x U J fun σ2 L=>M {D with nx:=N,ct:=N,bk:=D.nx} σ2 L):=
 Fa Z I (λi U H A p=>F _ _ i U H A p) hd
def Ye.none{P:Program}{w:World}{K:W.Frag}{M:Str->Option Value}{base:Heap}{O:CXT}{k:Nat}{f:Addr}{N:FuncData}{L:pX}{G:Sp}(h:∀Z H Q E,G Z H Q E->False):Ye P w K M base O k f N L G:=
 ⟨λZ H Q E q=>(h _ _ _ _ q).elim,λA J s H args R Z Q E _ _ _ _ q=>(h _ _ _ _ q).elim⟩
def Y2{N P:pX}{Z:Scope}(h:Z.kind=.function/\Z.isCoroutine=false/\Z.isGenerator=false/\N.Nodup/\N.take P.length=P/\(∀x∈P,Z.names.lookup x=some .local\/Z.names.lookup x=some .cell)/\∀y∈Z.names,y.2≠.free:=by decide +kernel):Yh N P Z:=
 ⟨h.1,h.2.1,h.2.2.1,h.2.2.2.1,h.2.2.2.2.1,h.2.2.2.2.2.1,h.2.2.2.2.2.2⟩
end L2
namespace K4
open PySem L2
def top(i:Nat):Stmt:=PySem.Challenge.pw_wantway_k93_many_cells_that_end.main.body.getD i<|.Pass ⟨0,0,0,0⟩
abbrev BW:Stmt:=top 2
abbrev Gx:Stmt:=top 3
abbrev sKP:Stmt:=top 5
abbrev Iw:Stmt:=top 6
abbrev Be:Stmt:=top 7
abbrev Bc:Stmt:=top 8
abbrev Iy:Stmt:=top 9
abbrev ML:Stmt:=top 10
abbrev Bb:Stmt:=top 11
abbrev Gz:Stmt:=top 12
abbrev I0:Stmt:=top 13
abbrev Iz:Stmt:=top 14
abbrev MN:Stmt:=top 26
abbrev Bf:Stmt:=top 27
abbrev BU:Stmt:=top 28
abbrev MK:Stmt:=top 30
abbrev Us:Stmt:=top 36
abbrev KA:Stmt:=inClass Us 0
abbrev Ba:Stmt:=inClass Us 1
abbrev Iv:Stmt:=inClass Us 2
abbrev BX:Stmt:=inClass Us 4
abbrev Wa:Stmt:=inClass Us 5
abbrev Gw:Stmt:=inClass Us 7
abbrev MM:Stmt:=inClass Us 9
abbrev Gy:Stmt:=inClass Us 10
abbrev Xw:Stmt:=inClass Us 11
abbrev Xb:Stmt:=top 42
abbrev Bk:Stmt:=inClass Xb 0
abbrev Bh:Stmt:=inClass Xb 1
abbrev Bl:Stmt:=inClass Xb 2
abbrev MR:Stmt:=inClass Xb 3
abbrev MQ:Stmt:=inClass Xb 4
abbrev MP:Stmt:=inClass Xb 5
abbrev Bi:Stmt:=inClass Xb 6
abbrev Bj:Stmt:=inClass Xb 7
abbrev Bm:Stmt:=inClass Xb 8
abbrev Bg:Stmt:=inClass Xb 10
abbrev Wd:Stmt:=top 43
abbrev Uh:Stmt:=top 44
abbrev Bo:Stmt:=top 45
abbrev Wc:Stmt:=top 46
abbrev Xg:Stmt:=top 47
abbrev Wb:Stmt:=top 48
abbrev Gg:Stmt:=top 50
abbrev UW:Stmt:=top 51
abbrev Wz:Stmt:=top 54
abbrev Nt:Stmt:=top 60
abbrev Ls:Stmt:=inClass Gg 0
abbrev Dc:Stmt:=inClass Gg 1
abbrev Xo:Stmt:=inClass Gg 7
abbrev Xp:Stmt:=inClass Gg 8
abbrev K6:Stmt:=inClass UW 0
abbrev B5:Stmt:=inClass UW 1
abbrev Wm:Stmt:=inClass UW 2
abbrev K7:Stmt:=inClass UW 3
abbrev Wo:Stmt:=inClass UW 4
abbrev Xm:Stmt:=inClass UW 5
abbrev Wn:Stmt:=inClass UW 6
abbrev TD:Stmt:=inClass UW 7
abbrev X3:Stmt:=inClass UW 8
abbrev XR:Stmt:=inClass UW 9
abbrev OB:Stmt:=inClass Wz 0
abbrev Tj:Stmt:=inClass Wz 1
abbrev Ti:Stmt:=inClass Wz 2
abbrev Ww:Stmt:=inClass Wz 4
abbrev Mr:Stmt:=inClass Wz 6
abbrev Tl:Stmt:=inClass Wz 8
abbrev Fw:Stmt:=inClass Nt 0
abbrev Gj:Stmt:=inClass Nt 1
abbrev Fx:Stmt:=inClass Nt 2
abbrev Fv:Stmt:=inClass Nt 3
abbrev SE:Stmt:=inClass Nt 4
abbrev BY:Stmt:=top 52
abbrev Xh:Stmt:=top 55
abbrev Bn:Stmt:=top 58
abbrev MI:Stmt:=top 59
abbrev BZ:Stmt:=top 62
abbrev MJ:Stmt:=top 63
abbrev Iu:Stmt:=top 64
abbrev BS:Stmt:=top 65
abbrev BV:Stmt:=top 66
abbrev Ma:Stmt:=top 67
abbrev LN:Stmt:=top 68
abbrev DJ:Stmt:=top 69
abbrev DI:Stmt:=top 70
def Ig:Yh ["stream","many","number"] ["stream","many"] (Yd Iu):=Y2
end K4
namespace L2
open PySem PySem.Spec PyProof.Rows
def TH(K:W.Frag)(T:String):W.kitOne K (.type T) (.type T)=some true:=by
 unfold W.kitOne;rw[Zp (by simp)]
def vQ{K:W.Frag}:∀{a b:String},(a,b)∈ [("NoneType","bool"),("NoneType","str"),("NoneType","int"),("NoneType","tuple"),("NoneType","list"),("int","bool"),("int","str"),("int","tuple"),("int","list"),("str","bool"),("str","int"),("str","tuple"),("str","list"),("bool","str"),("bool","tuple"),("bool","list"),("tuple","bool"),("tuple","str"),("tuple","int"),("tuple","list"),("list","bool"),("list","str"),("list","int"),("list","tuple")]->W.kitOne K (.type a) (.type b)=some false:=by
 intro a b h;simp only[Zd,Prod.mk.injEq,qH,or_false]at h;rcases h with⟨rfl,rfl⟩|⟨rfl,rfl⟩|⟨rfl,rfl⟩|⟨rfl,rfl⟩|⟨rfl,rfl⟩|⟨rfl,rfl⟩|⟨rfl,rfl⟩|⟨rfl,rfl⟩|⟨rfl,rfl⟩|⟨rfl,rfl⟩|⟨rfl,rfl⟩|⟨rfl,rfl⟩|⟨rfl,rfl⟩|⟨rfl,rfl⟩|⟨rfl,rfl⟩|⟨rfl,rfl⟩|⟨rfl,rfl⟩|⟨rfl,rfl⟩|⟨rfl,rfl⟩|⟨rfl,rfl⟩|⟨rfl,rfl⟩|⟨rfl,rfl⟩|⟨rfl,rfl⟩|⟨rfl,rfl⟩ <;> kernel_rfl
def Vm:bootBuiltins "tuple"=some (.type "tuple"):=by decide +kernel
def Jt:bootBuiltins "list"=some (.type "list"):=by decide +kernel
def W0:bootBuiltins "str"=some (.type "str"):=by decide +kernel
def UL:bootBuiltins "dict"=some (.type "dict"):=by decide +kernel
def Fk:bootBuiltins "isinstance"=some (.builtin "isinstance"):=by decide +kernel
def RV:bootBuiltins "all"=some (.builtin "all"):=by decide +kernel
def Wf(R:Gl X "isinstance")(O:X.mg "isinstance"=none)(J:Gl X x)(Z:X.mg x=none)(M:bootBuiltins x=some (.type T))(he:PE X e te)(N:x≠"__name__":=by decide)(G:(x==("__debug__":Str))=false:=by decide)(L:starEach [e,.Name x p'] X.env=(false,eval e X.env)::starEach [.Name x p'] X.env:=by rfl):
  PE X (.Call (.Name "isinstance" p) [e,.Name x p'] [] pos) (tCB (Cv X.K)<|JX te<|JX (tC<|.ty T) Rp):=
 VD OH R O Fk (pa2 he (PX J Z M rfl N G) L) (he:=L)
def tyD:Dat->String
 |.non=>"NoneType"|.bl _=>"bool"|.int _=>"int"|.str _=>"str"|.tup _=>"tuple"|.lst _=>"list"
def Mh{K:W.Frag}(h:Has H v d):Xr K H v (.type<|tyD d):=by
 have q:=Li (K:=K) h;cases d <;> exact q
def isD(T:String)(d:Dat):Bool:=decide (tyD d=T) || (T=="int" && decide (tyD d="bool"))
def Mb(K:W.Frag)(d:Dat)(Z:T∈ ["bool","str","int","tuple","list"]):W.kitOne K (.type<|tyD d) (.type T)=some (isD T d):=by
 simp only[Zd,qH,or_false]at Z;rcases Z with rfl|rfl|rfl|rfl|rfl <;> cases d <;> kernel_rfl
end L2
namespace L2
open PySem
mutual
def Dat.dep:Dat->Nat
 |.tup ds=>1+Dat.deps ds
 |.lst ds=>1+Dat.deps ds
 |_=>0
def Dat.deps:List Dat->Nat
 |[]=>0
 |d::ds=>max d.dep<|Dat.deps ds
end
theorem Dat.deps_get:∀{ds:xo}{i:Nat}{d:Dat},ds[i]?=some d->d.dep<=Dat.deps ds
 |[],i,d,e=>by simp at e
 |a::ds,0,d,e=>by
  have Z:some a=some d:=e;cases Z;unfold Dat.deps;exact j6 _ _
 |a::ds,i+1,d,e=>by
  have q:=Dat.deps_get (ds:=ds) (i:=i) e;unfold Dat.deps;exact Zb q<|jY _ _
def VI{c A B:Prop}[Decidable c](Z:c)(h:A):if c then A else B:=by
 rw[Zp Z];exact h
def Y1{c A B:Prop}[Decidable c](Z:¬c)(h:B):if c then A else B:=by
 rw[Zq Z];exact h
def Vu(n:Nat)(S:n<sizeLine)(G:Nat->List V->Hp->Prop)(A:G 0 [] H)(M:∀i Z H,G i Z H->Z.length=i)(O:∀i Z H,i<n->G i Z H->J.go i H)(L:∀Z H,G n Z H->J.stop n H)(E:∀i Z H x N (R:V->Hp->Prop),i<n->G i Z H->J.yld i H x N->(∀v T,G (i+1) (Z++[v]) T->R v T)->g x s0 N λB I=>te B I R)(hd:∀Z H p,G n Z H->H p=none->Q (.ref p) (upd H p<|.lst Z)):
  Re J g te s0 Q H:=by
 refine⟨λi m Z H=>m=n-i/\i<=n/\G i Z H,⟨n,by simp,Zc _,A⟩,?_⟩;rintro i m Z H ⟨rfl,C,p⟩;have U:=M i Z H p;exists by omega
 by_cases hlt:i<n
 .exact .inr ⟨O i Z H hlt p,λx N y=>E i Z H x N _ hlt p y λv T D=>⟨n-(i+1),by omega,rfl,hlt,D⟩⟩
 .have e:i=n:=by omega
  subst e;exact .inl ⟨L Z H p,λa F=>hd Z H a p F⟩
def Yv(h:H p=none)(o:HO):Same H (upd H p o):=λb u q=>by rw[Yg (Yb q h)];exact q
@[elab_as_elim] theorem up_in {motive:Hp->Prop}(h:H l=none) (o:HO) (k:∀H',Same H H'->H' l=some o->motive H'):motive (upd H l o):=k _ (Yv h o) Yf
def G6{α:Type}(f:Nat->α)(i:Nat):(List.range i).map f++[f i]=(List.range<|i+1).map f:=by
 rw[jQ,ZK];rfl
structure Blt(mg:Str->Option Value):Prop where
 len:mg "len"=none
 isi:mg "isinstance"=none
 bool:mg "bool"=none
 str:mg "str"=none
 int:mg "int"=none
 tuple:mg "tuple"=none
 list:mg "list"=none
 dict:mg "dict"=none
 all:mg "all"=none
 zip:mg "zip"=none
 max:mg "max"=none
 range:mg "range"=none
 sorted:mg "sorted"=none
end L2
namespace K4
open PySem L2
section
def TR:GK 2 (Nf K 2<|Jo (V2 0)<|Jo (V2 1) TY):=
 DY (XT (V7 (i:=0)<|by decide) (XT (V7 (i:=1)<|by decide) DZ (λ_ _ _ _ _ h z=>h _ _ z) (λx _ _ _ _ h z=>by
  match x,z with
  |[],z=>exact h _ _ z)) (λ_ _ _ _ _ h z=>h _ _ z) (λx _ _ _ _ h z=>by
  match x,z with
  |[v],z=>exact h _ _ z))
end
end K4
namespace L2
open PySem
inductive W where
 |non|tag (x:Str)|pair (a b:W)
def W.dat:W->Dat
 |.non=>.non
 |.tag x=>.str x
 |.pair a b=>.tup [a.dat,b.dat]
def W.part:W->List Int->W
 |w,[]=>w
 |.pair a b,i::r=>if i=0 then a.part r else b.part r
 |.non,_::_=>.non
 |.tag _,_::_=>.non
def WB(h:Has H v (W.pair a b).dat):∃p x y,v=.ref p/\H p=some (.tup [x,y])/\Has H x a.dat/\Has H y b.dat:=by
 unfold W.dat Has at h;obtain⟨p,L,rfl,M,Z⟩:=h
 match L,Z with
 |[x,y],Z=>
  unfold HasL at Z;obtain⟨N,J⟩:=Z;unfold HasL at J;exact⟨p,x,y,Y,M,N,J.1⟩
 |[],Z=>unfold HasL at Z;exact Z.elim
 |[x],Z=>unfold HasL at Z;obtain⟨_,J⟩:=Z;unfold HasL at J;exact J.elim
 |_::_::_::_,Z=>
  unfold HasL at Z;obtain⟨_,J⟩:=Z;unfold HasL at J;obtain⟨_,G⟩:=J;unfold HasL at G;exact G.elim
def Mi:Has H .non W.non.dat:=by unfold W.dat Has;rfl
def Way(ws:pZ):Prop:=∀i∈ws,i=0\/i=1
def RP{Z:pZ}(h:(Z.map V.int)[i]?=some x):∃n r,x=.int n/\Z.drop i=n::r/\Z.drop (i+1)=r/\n∈Z:=by
 rw[ZH]at h
 cases e:Z[i]? with
 |none=>rw[e]at h;cases h
 |some n=>
  rw[e]at h;cases h;obtain⟨J,q⟩:=ZF.mp e;exact⟨n,Z.drop<|i+1,rfl,by rw[List.drop_eq_getElem_cons J,q],rfl,ZJ e⟩
def PY{a b:V}(h:n=0\/n=1):atI [a,b] n=some (if n=0 then a else b):=by
 rcases h with rfl|rfl <;> rfl
def Jr(ws:pZ):Dat:=.tup<|ws.map Dat.int
def W.dep:W->Nat
 |.non=>0
 |.tag _=>0
 |.pair a b=>1+max a.dep b.dep
theorem Nc:∀{J:pZ}{Z:xg},HasL H Z (J.map Dat.int)->Z=J.map V.int
 |[],[],_=>rfl
 |[],_::_,h=>by unfold HasL at h;exact h.elim
 |_::_,[],h=>by rw[ZV]at h;unfold HasL at h;exact h.elim
 |n::J,x::Z,h=>by
  rw[ZV]at h;unfold HasL at h;obtain⟨G,L⟩:=h;unfold Has at G;rw[G,Nc L];rfl
theorem TQ:∀(Z:pZ),HasL H (Z.map V.int)<|Z.map Dat.int
 |[]=>Z6
 |n::Z=>Z4 (by unfold Has;rfl)<|TQ Z
def Jw(h:Has H v (Jr J)):∃a,v=.ref a/\H a=some (.tup<|J.map V.int):=by
 unfold Jr Has at h;obtain⟨a,L,rfl,Z,G⟩:=h;rw[Nc G]at Z;exact⟨a,Y,Z⟩
def JW(h:H a=some (.tup<|Z.map V.int)):Has H (.ref a) (Jr Z):=by
 unfold Jr Has;exact⟨a,_,Y,h,TQ Z⟩
def P1(h:H a=some (.lst Z))(t:HasL H Z J):Has H (.ref a) (.lst J):=by unfold Has;exact⟨a,Z,Y,h,t⟩
def J0(H:Hp)(p:Addr):Prop:=∃(a:Int)(b:Bool)(c d:Int),H p=some (.lst [.int a,.bl b,.int c,.int d])
def But(p:Addr)(H H':Hp):Prop:=∀b,b≠p->H' b=H b
def But.trans(a:But p H J)(b:But p J Z):But p H Z:=λc h=>(b c h).trans<|a c h
def But.upd{p:Addr}{H:Hp}(o:HO):But p H (upd H p o):=λ_ h=>Yg h
end L2
namespace K4
open PySem L2
def MH:Yh ["cell","k","number"] ["cell","k"] (Yd BZ):=Y2
def Ij:Yh ["cell"] ["cell"] (Yd MJ):=Y2
section
variable{K:W.Frag}
def EC:Sp:=λZ H Q _=>∃(c k:Int),Z=[.int c,.int k]/\∀r:Int,0<=r->r<2147483563->Q (.int r) H
def Kq(F:Fun K "_law_mixed" "_law_mixed" BZ f J):Ye P w K T base CX0 (n+1) f J ["cell","k"] EC:=by
 refine F.oq MH λG A Z s H R Q E I h=>?_;obtain⟨c,k,rfl,q⟩:=h;refine⟨_,YY (Y0 2 MH.nd<|Y9 JQ (Y9 Vp (Y9 Vp (Y9 Ul (Y9 JQ (pv 0) Ya) Ya)<|Y9 Ul Ya<|pv 1) Ya) Ya)
  (YY (Y0 2 MH.nd<|Y9 JQ (Y9 Vp (Y9 Vp (Y9 Ul (pv 2)<|pv 2)<|Y9 Ul Ya<|pv 1) Ya) Ya)
  (YZ<|Yj<|Y9 JQ (Y9 Ul (pv 2)<|Y9 Vp (pv 2) Ya) Ya)),?_⟩
 show let a:=_;let b:=Yn _ a;Yn _ b _ _ _
 intros
 have D:=j7 c (show(2147483647:Int)≠0 by decide);have B:=jO c (show(0:Int)<2147483647 by decide);refine⟨(by show(0:Int)<_;decide),.inl ⟨by omega,by omega⟩,.inl ⟨by decide,by decide⟩,(by show(0:Int)<_;decide),?_⟩;generalize hx:(c % 2147483647*48271+69621*k+7919) % 2147483629=x;have O:0<=x:=by rw[<-hx];exact j7 _<|by decide
 have N:x<2147483629:=by rw[<-hx];exact jO _<|by decide
 refine⟨.inl ⟨by omega,by omega⟩,.inl ⟨by decide,by decide⟩,(by show(0:Int)<_;decide),?_⟩;generalize hy:(x*x+31*k+5) % 2147483587=y;have M:0<=y:=by rw[<-hy];exact j7 _<|by decide
 have L:y<2147483587:=by rw[<-hy];exact jO _<|by decide
 refine⟨.inl ⟨by omega,by omega⟩,(by show(0:Int)<_;decide),?_⟩;exact q _ (j7 _<|by decide)<|jO _<|by decide
def NC:Sp:=λJ H Q _=>∃(c:Int),J=[.int c]/\∀p Z,H p=none->But p H Z->J0 Z p->Q (.ref p) Z
def FN(F:Fun K "_law_stream" "_law_stream" MJ f L):Ye P w K O base CX0 (n+1) f L ["cell"] NC:=by
 refine F.oq Ij λM A Z s H N Q E R h=>?_;obtain⟨c,rfl,q⟩:=h;exists _,YZ<|Yj<|V4<|pa4 (pv 0) (Cz (Jj Qh (pv 0) (Y9 Kg Ya Ya)<|Yz _)<|Xj<|Jj XY (pv 0) (X0 Ue<|Y9 Kg Ya Ya)<|Yz _) Ya<|Y9 JQ (pv 0) Ya;have G:yb 10 18:=⟨by decide,by decide,by decide⟩;exists G,_,Y;refine Ai (λ_=>?_) λ_=>?_
 .refine ⟨(by show(0:Int)<_;decide),sl 4,λp J=>?_⟩
  exact q p _ J (But.upd _) ⟨_,_,_,_,Yf⟩
 .refine ⟨G,_,rfl,?_⟩
  refine⟨(by show(0:Int)<_;decide),sl 4,λp J=>?_⟩;exact q p _ J (But.upd _) ⟨_,_,_,_,Yf⟩
def Rx:Sp:=λJ H Q _=>∃(p:Addr)(many:Int),J=[.ref p,.int many]/\J0 H p/\0<many/\many<1073741824/\∀(r:Int)(Z:Hp),0<=r->r<many->But p H Z->J0 Z p->Q (.int r) Z
def Pe(F:Fun K "_law_take" "_law_take" Iu f C)(G:Ye P w K R base CX0 n g U ["cell","k"] EC)(j:Binds K U ["cell","k"] [])(D:W.keepIn K (.ref g)=true)(T:R "_law_mixed"=some (.ref g)):
  Ye P w K R base CX0 (n+1) f C ["stream","many"] Rx:=by
 refine F.oq Ig λX A O s H y Q E I h=>?_;obtain⟨p,many,rfl,⟨a,b,c,d,J⟩,L,B,q⟩:=h;refine⟨_,YY (Y4 (JB<|Ym Y7 (pv 0) Ya)
   (YY (Y0 2 Ig.nd<|Y9 JQ (Ym Y7 (pv 0) Ya)<|pv 1)
   (YY (Jh (Y9 ES (Ym Y7 (pv 0) Ya)<|pv 1)<|MT (pv 0) Ya set_list)
   (YY (Jh (Wg (Jj UJ (Ym Y7 (pv 0) Ya) Ya<|Yz _)<|Xj<|Jj UJ (Ym Y7 (pv 0) Ya) (X0 Ue Ya)<|Yz _)<|MT (pv 0) Ya set_list)
   (YZ<|Yj<|pv 2)))) Yo)
  (YY (Jh (Y9 Vp (Ym Y7 (pv 0) Ya) Ya)<|MT (pv 0) Ya set_list)
  (YZ<|Yj<|Y9 JQ (Y9 ES (JP G I rfl T D j .nil Y3 (pa2 (Ym Y7 (pv 0) Ya)<|Ym Y7 (pv 0) Ya)) Ya)<|pv 1)),?_⟩
 show let a:=_;let b:=Yn _ a;let c:=_;let d:=Yn _ c;let e:=Yn _ d;let f:=Yn _ e;Yn (VH _ f _) b _ _ _
 intros
 exists _,_,Z3 J,Y,_,Y;refine Ai (λS=>?_) λS=>?_
 .refine ⟨_,_,Z3 J,rfl,L,?_⟩
  exists _,_,Z3 J,Y,⟨L,B⟩,p,_,0,0,Y,Y,J,Y;have Z:upd H p (.lst [.int (a / many),.bl b,.int c,.int d]) p=some (.lst [.int (a / many),.bl b,.int c,.int d]):=Yf;exists _,_,Z3 Z,Y,Y,_,Y;have N:=j7 a (show many≠0 by omega);have M:=jO a L;refine Ai (λ_=>?_) λ_=>?_
  .refine ⟨_,_,Z3 Z,rfl,_,rfl,rfl,p,_,1,1,rfl,rfl,Z,rfl,?_⟩
   exact q _ _ N M ((But.upd _).trans<|But.upd _) ⟨_,_,_,_,Yf⟩
  .refine ⟨p,_,1,1,rfl,rfl,Z,rfl,?_⟩
   exact q _ _ N M ((But.upd _).trans<|But.upd _) ⟨_,_,_,_,Yf⟩
 .refine ⟨_,_,Z3 J,rfl,p,_,2,2,rfl,rfl,J,rfl,?_⟩
  have Z:upd H p (.lst [.int a,.bl b,.int<|c+1,.int d]) p=some (.lst [.int a,.bl b,.int<|c+1,.int d]):=Yf;refine⟨_,_,Z3 Z,Y,_,_,Z3 Z,Y,_,_,Y,λr N M=>?_⟩;exists ⟨by decide,by decide⟩,L;exact q _ _ (j7 _<|by omega) (jO _ L) (But.upd _) ⟨_,_,_,_,Yf⟩
end
end K4
namespace L2
open PySem
def alpha(o:Nat):Str:=⟨((List.range 26).map (o + ·)).toArray⟩
def one(c:Nat):Str:=⟨#[c]⟩
def txt(cs:List Nat):Str:=⟨cs.toArray⟩
def W3(o:Nat):(alpha o).length=26:=by show((List.range 26).map (o + ·)).toArray.size=26;simp
def Nv(o:Nat)(j:Int)(J:0<=j)(Z:j<26):atI (alpha o).cps.toList j=some (o+j.toNat):=by
 obtain⟨n,rfl⟩:∃n:Nat,j=n:=⟨j.toNat,by omega⟩;refine VE ?_;show(((List.range 26).map (o + ·)).toArray.toList)[n]?=_;rw[List.toList_toArray,ZH,qc (by omega)]
 rfl
def K5(G:o=97\/o=65)(h:o<=c/\c<o+26):∃i rest,Builtin.Str.occurrences (alpha o) (one c) 0 (alpha o).length 1=i::rest:=by
 have J:∀j<26,(Builtin.Str.occurrences (alpha 97) (one<|97+j) 0 26 1).isEmpty=false/\(Builtin.Str.occurrences (alpha 65) (one<|65+j) 0 26 1).isEmpty=false:=by decide +kernel
 rw[W3]
 have Z:(Builtin.Str.occurrences (alpha o) (one c) 0 26 1).isEmpty=false:=by
  have a:=J (c-o) (by omega);rcases G with rfl|rfl
  .have e:97+(c-97)=c:=by omega
   rw[e]at a;exact a.1
  .have e:65+(c-65)=c:=by omega
   rw[e]at a;exact a.2
 cases q:Builtin.Str.occurrences (alpha o) (one c) 0 26 1 with
 |nil=>rw[q]at Z;cases Z
 |cons i r=>exact⟨i,r,Y⟩
def Ej{Z:List Nat}(h:Z.length=8):∃a b c d e f g i,Z=[a,b,c,d,e,f,g,i]:=by
 match Z,h with
 |[a,b,c,d,e,f,g,i],_=>exact⟨a,b,c,d,e,f,g,i,Y⟩
def zh(h:cs.length=8):Txt.join (Str.ofString "") (cs.map one)=txt cs:=by
 obtain⟨a,b,c,d,e,f,g,i,rfl⟩:=Ej h
 rfl
def Ms(h:cs.length=8)(j:Nat)(Z:j<=8):Txt.slice (txt cs) none (some (j:Int))=txt (cs.take j):=by
 obtain⟨a,b,c,d,e,f,g,i,rfl⟩:=Ej h
 match j,Z with
 |0,_|1,_|2,_|3,_|4,_|5,_|6,_|7,_|8,_=>rfl
def OC(h:cs.length=8)(j:Nat)(Z:j<=8):Txt.slice (txt cs) (some (j:Int)) none=txt (cs.drop j):=by
 obtain⟨a,b,c,d,e,f,g,i,rfl⟩:=Ej h
 match j,Z with
 |0,_|1,_|2,_|3,_|4,_|5,_|6,_|7,_|8,_=>
  unfold Txt.slice;rw[show(txt [a,b,c,d,e,f,g,i]).length=8 from rfl]
  first
   |(rw[Zp (by decide +kernel)];rfl)
   |(rw[Zq (by decide +kernel)];rfl)
def Rm(a b:List Nat):txt a++ txt b=txt (a++ b):=by
 show(⟨a.toArray++ b.toArray⟩:Str)=⟨(a++ b).toArray⟩;simp
def Of(h:txt a=txt b):a=b:=by
 have q:a.toArray=b.toArray:=congrArg Str.cps h;simpa using q
def Rl(a:List Nat):(txt a).length=a.length:=by show a.toArray.size=a.length;simp
def wd(o:Nat)(cs:List Nat)(at' way i k:Nat):List Nat:=
 if way=0 then cs.take at'++[o+(i+5*k) % 26]++ cs.drop (at'+1)
 else if way=1 then[o+(i+5*k) % 26]++ cs.take ((3*k+at') % 8)
 else if way=2 then cs.take (k % 8+1)
 else cs.take (8-k % 8)
def Oo(Z:k<l)(h:l<24):(i+5*k) % 26≠(i+5*l) % 26:=λe=>by
 have q:=Nat.sub_mod_eq_zero_of_mod_eq e.symm;have f:∀d:Fin 24,d.val≠0->5*d.val % 26≠0:=by decide
 refine f ⟨l-k,by omega⟩ (by show l-k≠0;omega) ?_;show 5*(l-k) % 26=0;rw[Nat.mul_sub,<-Nat.add_sub_add_left i (5*l) (5*k)];exact q
def CH(O:cs.length=8)(G:at'<8)(N:way<2/\l<24\/l<8)(Z:k<l):wd o cs at' way i k≠wd o cs at' way i l:=by
 intro e;have d:=Oo (i:=i) Z (N.elim (·.2) λz=>kI z<|by decide);unfold wd at e
 by_cases w0:way=0
 .rw [Zp w0,Zp w0]at e
  have L:(cs.take at').length=at':=by rw[ZN,O];exact jE<|Zh G
  have q:=congrArg (λx:List Nat=>x[at']?) e
  have g:∀x:Nat,(cs.take at'++[x]++ cs.drop (at'+1))[at']?=some x:=λx=>by
   rw[qx,vx<|kF L,L];simp
  exact d<|Nat.add_left_cancel<|ZT<|(g _).symm.trans<|q.trans<|g _
 rw[Zq w0,Zq w0]at e
 by_cases w1:way=1
 .rw [Zp w1,Zp w1]at e
  exact d<|Nat.add_left_cancel (List.cons.inj e).1
 rw[Zq w1,Zq w1]at e;have J:l<8:=N.elim (λz=>by omega) id;have M:=kI Z J;rw[Nat.mod_eq_of_lt J,Nat.mod_eq_of_lt M]at e
 have q:∀{a b:Nat},cs.take a=cs.take b->a<=8->b<=8->a=b:=λz G R=>by
  have:=congrArg List.length z;rw[ZN,ZN,O,jE G,jE R]at this;exact this
 by_cases w2:way=2
 .rw [Zp w2,Zp w2]at e
  exact Zr (Nat.succ.inj<|q e M J)<|Ze Z
 rw[Zq w2,Zq w2]at e;have:=q e (qj _ _)<|qj _ _;omega
def SD(J:cs.length=8)(G:at'<8):1<=(wd o cs at' way i k).length/\(wd o cs at' way i k).length<=8:=by
 have t:∀{n:Nat},n<=8->(cs.take n).length=n:=λh=>by rw[ZN,J];exact jE h
 unfold wd
 split
 .rw [ZL,ZL,t<|Zh G,qG,J,vy];omega
 split
 .rw [ZL,t<|Zh<|kJ _<|by decide,vy]
  have:=kJ (3*k+at') (show 8 > 0 by decide);omega
 have Z:=kJ k (show 8 > 0 by decide)
 split
 .rw [t Z];exact⟨Nat.succ_pos _,Z⟩
 .rw [t (qj _ _)];exact⟨Nat.sub_pos_of_lt Z,qj _ _⟩
def CI(Z:∀c∈cs,o<=c/\c<o+26):∀c∈wd o cs at' way i k,o<=c/\c<o+26:=by
 have z:o<=o+(i+5*k) % 26/\o+(i+5*k) % 26<o+26:=by omega
 intro c h;unfold wd at h
 split at h
 .simp only[ZX,ZQ]at h
  rcases h with(h|h)|h
  .exact Z c (Zk h)
  .rw [h];exact z
  .exact Z c (kY h)
 split at h
 .simp only[ZX,ZQ]at h
  rcases h with h|h
  .rw [h];exact z
  .exact Z c (Zk h)
 split at h
 .exact Z c (Zk h)
 .exact Z c (Zk h)
structure Wds(o:Nat)(ys:List Str):Prop where
 nd:ys.Nodup
 len:∀y∈ys,1<=y.length/\y.length<=8
 abc:∀y∈ys,∀c∈y.cps.toList,o<=c/\c<o+26
def SB(M:cs.length=8)(L:at'<8)(T:way<2/\m<=24\/m<=8)(N:∀c∈cs,o<=c/\c<o+26):Wds o ((List.range m).map λk=>txt<|wd o cs at' way i k):=by
 refine⟨?_,λy Z=>?_,λy Z c J=>?_⟩
 .show List.Pairwise _ _
  rw[qX];refine List.Pairwise.imp_of_mem ?_<|List.pairwise_lt_range (n:=m);intro a b R O G e;exact CH (i:=i) M L (by have:=jH.mp O;omega) G<|Of e
 .obtain ⟨k,_,rfl⟩:=ZW.mp Z
  rw[Rl];exact SD M L
 .obtain ⟨k,_,rfl⟩:=ZW.mp Z
  exact CI N c<|by simpa[txt]using J
def SameB(p:Addr)(H H':Hp):Prop:=∀b o,b≠p->H b=some o->H' b=some o
def SameB.refl(p:Addr)(H:Hp):SameB p H H:=λ_ _ _ h=>h
def SameB.trans(a:SameB p H J)(b:SameB p J Z):SameB p H Z:=λc o n h=>b c o n<|a c o n h
def But.sb(a:But p H Z):SameB p H Z:=λb o n h=>(a b n).trans h
def Same.sb(a:Same H Z):SameB p H Z:=λb o _ h=>a b o h
def SameB.free(a:SameB p H Z)(n:r≠p)(h:Z r=none):H r=none:=by
 cases e:H r with
 |none=>rfl
 |some o=>rw[a r o n e]at h;cases h
def SameB.put(a:SameB p H Z)(h:H r=none):SameB p H (upd Z r o):=λb u n e=>by
 rw[Yg (Yb e h)];exact a b u n e
def J0.ne(s:J0 H p)(h:H r=none):r≠p:=λe=>by
 obtain⟨a,b,c,d,q⟩:=s;rw[<-e,h]at q;cases q
def J0.keep(s:J0 H p)(e:Z p=H p):J0 Z p:=by
 obtain⟨a,b,c,d,q⟩:=s;exact⟨a,b,c,d,e.trans q⟩
def NB(a b:Str):(a++ b).length=a.length+b.length:=by
 show(a.cps++ b.cps).size=a.cps.size+b.cps.size;simp
def A1(h:cs.length=8)(Z J:pY):(Txt.slice (txt cs) Z J).length<=8:=by
 have q:=Txt.slice_le (txt cs) Z J;rw[Rl,h]at q;exact q
def Cy{J Z i k:Nat}(h:Z<4):atI [V.str (txt<|cs.take J++[o+(i+5*k) % 26]++ cs.drop (J+1)),V.str<|txt<|[o+(i+5*k) % 26]++ cs.take ((3*k+J) % 8),V.str<|txt<|cs.take<|k % 8+1,V.str (txt<|cs.take<|8-k % 8)] (Z:Int)=some (V.str<|txt<|wd o cs J Z i k):=by
 match Z,h with
 |0,_|1,_|2,_|3,_=>rfl
end L2
namespace K4
open PySem L2
def UP:Yh ["stream","many","letters","ways","k","base","at","way","words","sign","some"] ["stream","many","letters","ways"] (Yd BS):=Y2
def AY:List.Nodup [("k":Str),"letters","stream"]:=by decide +kernel
section
def GP:Sp:=λL H Q _=>∃(p:Addr)(many:Nat)(o:Nat)(Z:Nat),L=[.ref p,.int many,.str<|alpha o,.int Z]/\J0 H p/\(o=97\/o=65)/\0<Z/\(Z<=2/\many<=24\/Z<=4/\many<=8)/\
 ∀(r:Addr)(G:pX)(J:Hp),SameB p H J->J0 J p->H r=none->r≠p->J r=some (.lst<|G.map V.str)->G.length=many->Wds o G->Q (.ref r) J
def Kk(B:Blt mg)(F:Fun K "_law_words" "_law_words" BS f fd)(G:Ye P w K mg base CX0 n g gd ["stream","many"] Rx)(bG:Binds K gd ["stream","many"] [])(kG:W.keepIn K (.ref g)=true)(mG:mg "_law_take"=some (.ref g)):
  Ye P w K mg base CX0 (n+1) f fd ["stream","many","letters","ways"] GP:=by
 refine F.oq UP λR7 A R3 s H u Q E hr h=>?_;obtain⟨p,many,o,T,rfl,hs,ho,hw,hm,q⟩:=h;refine⟨_,YY (Y0 5 UP.nd (UI PySem.F.plainAttrs_str PySem.F.slot_str_join PySem.F.type_str_join Pz Yp (pa1 (JO ["k"] [2,0] (UA Y B.range (pa1 Ya)) (V7 (i:=0)<|by decide)
   (λcl C fp s H=>Yl 0 AY rfl (Or.inl rfl) (Or.inr rfl)) (λcl C fp s H=>Ym (r:=Cu) DQ (pv 1) (JP G hr rfl mG kG bG .nil Y3 (pa2 (pv 2) Ya)) λ_ _=>rfl)))))
  (YY (Y0 6 UP.nd<|JP G hr rfl mG kG bG .nil Y3 (pa2 (pv 0) Ya))
  (YY (Y0 7 UP.nd<|JP G hr rfl mG kG bG .nil Y3 (pa2 (pv 0)<|pv 3))
  (YY (Y0 8 UP.nd<|V4 Vj)
  (YY (JC Zv rfl (UA rfl B.range (pa1<|pv 1)) (Yl 4 UP.nd)
   (YY (Y0 9 UP.nd<|Ym DQ (pv 2) (Y9 JQ (Y9 Vp (UI PySem.F.plainAttrs_str PySem.F.slot_str_index PySem.F.type_str_index LF (pv 2)<|pa1<|Ym DQ (pv 5) (pv 6) λ_ _=>rfl)<|Y9 Ul Ya<|pv 4) Ya) λ_ _=>rfl)
   (YY (Y0 10 UP.nd<|V4<|pa4 (Y9 Xl (Y9 Xl (Vs Gr (pv 5) JM<|V6<|pv 6)<|pv 9)<|Vs Gr (pv 5) (V6<|Y9 Vp (pv 6) Ya) JM) (Y9 Xl (pv 9)<|Vs Gr (pv 5) JM<|V6<|Y9 JQ (Y9 Vp (Y9 Ul Ya<|pv 4)<|pv 6) Ya) (Vs Gr (pv 5) JM<|V6<|Y9 Vp (Y9 JQ (pv 4) Ya) Ya)<|Vs Gr (pv 5) JM<|V6<|Y9 MV Ya<|Y9 JQ (pv 4) Ya)
   (YZ<|VR<|UI Zz Z0 Z1 Ve (pv 8)<|pa1<|Ym Y7 (pv 10) (pv 7) λ_ _=>rfl))))
  (YZ<|Yj<|pv 8))))),?_⟩
 show let a:=_;let b:=_;let c:=Yn _ b;let d:=Yn _ c;let e:=Yn (U1 _ _ d) a;let f:=Yn _ e;let g:=Yn _ f;let h:=Yn _ g;Yn _ h _ _ _
 intros
 have em:((many:Nat):Int).toNat=many:=qr _;refine⟨Y,8,Y,by decide,by decide,?_⟩;refine Vu 8 (Yx<|by decide) (λi u L=>SameB p H L/\J0 L p/\∃Z:List Nat,u=Z.map (λc=>V.str<|one c)/\Z.length=i/\∀c∈Z,o<=c/\c<o+26) ⟨SameB.refl _ _,hs,[],rfl,rfl,λc h=>nomatch h⟩
  (λi u L z=>by obtain⟨_,_,Z,e,l,_⟩:=z;rw[e,ZA,l]) (λi u L X z=>X) (λu L z=>ZG _) ?_ ?_
 .intro i u L x H'' R X z yl hR
  obtain⟨rfl,rfl⟩:=yl;obtain⟨j,O,Z,rfl,zl,zc⟩:=z;refine⟨p,26,Y,O,by decide,by decide,λr H3 r0 r1 b s3=>?_⟩;refine⟨alpha o,r,o+r.toNat,Y,Y,by rw[W3];decide,Nv o r r0 r1,hR _ _ ⟨j.trans b.sb,s3,Z++[o+r.toNat],by rw[ZK];rfl,by rw[ZL,zl];rfl,λc hc=>?_⟩⟩;rcases ZX.mp hc with h|h
  .exact zc c h
  .rw [ZQ.mp h];omega
 intro u H1 pl z G3;obtain⟨j,O,Z,rfl,M,zc⟩:=z;have R4:pl≠p:=O.ne G3;have e1:Z.map (λc=>V.str<|one c)=(Z.map one).map V.str:=by rw[jk];rfl
 exists _,pl,Z.map one,Y,Y,Z3 (by rw[Yf,e1]),?_
 .obtain ⟨a,b,c,d,e,f,g,i,rfl⟩:=Ej M
  show(8:Nat)+8*0<=16777216
  decide
 rw[zh M];have s1:J0 (upd H1 pl<|.lst<|Z.map λc=>V.str<|one c) p:=O.keep<|Yg<|Zs R4;have b1:SameB p H (upd H1 pl<|.lst<|Z.map λc=>V.str<|one c):=j.trans (Yv G3 _).sb;generalize upd H1 pl (.lst<|Z.map λc=>V.str<|one c)=H2 at s1 b1;refine⟨p,8,Y,s1,by decide,by decide,λR1 H3 a0 a1 b3 s3=>?_⟩;refine⟨p,T,Y,s3,by omega,by omega,λJ2 H4 w0 w1 b4 s4=>?_⟩;refine⟨sl 0,λy G2=>?_⟩;have b5:SameB p H H4:=(b1.trans b3.sb).trans b4.sb;have N:y≠p:=s4.ne G2;have v:H y=none:=b5.free N G2;obtain⟨at1,rfl⟩:∃n:Nat,R1=n:=⟨R1.toNat,by omega⟩;obtain⟨D,rfl⟩:∃n:Nat,J2=n:=⟨J2.toNat,by omega⟩;have R5:at1<8:=by omega
 obtain⟨c0,O1⟩:∃c0,Z[at1]?=some c0:=⟨Z[at1],ZD<|by omega⟩;obtain⟨J,rest,M2⟩:=K5 ho<|zc c0<|ZJ O1;exists many,Y,by omega,by omega
 let I:xi:=λi U L=>SameB p H L/\J0 L p/\L y=some (.lst<|((List.range i).map λk=>txt<|wd o Z at1 D J k).map V.str)/\
  ∃j O z3,U=[some (.ref p),some<|.int many,some<|.str<|alpha o,some<|.int T,j,some<|.str<|txt Z,some<|.int at1,some<|.int D,some<|.ref y,O,z3]
 refine Tc (n:=((many:Nat):Int).toNat) I ?_ ?_ ?_
 .exact ⟨b5.put v,s4.keep<|Yg<|Zs N,Yf,_,_,_,rfl⟩
 .rintro BB RR i U L X ⟨y1,y2,y3,j,O,z3,rfl⟩
  rw[em]at X;have tl:(txt Z).length<=sizeLine:=by rw[Rl,M];decide
  have e0:((J:Int)+5*(0+(i:Int))) % 26=(((J+5*i) % 26:Nat):Int):=by rw[show(J:Int)+5*(0+(i:Int))=((J+5*i:Nat):Int) by omega];rfl
  have S:(0:Int)<=((J:Int)+5*(0+(i:Int))) % 26/\((J:Int)+5*(0+(i:Int))) % 26<26:=by rw[e0];exact⟨Int.natCast_nonneg _,Int.ofNat_lt.mpr<|kJ _<|by decide⟩
  have R6:(((J:Int)+5*(0+(i:Int))) % 26).toNat=(J+5*i) % 26:=by rw[e0];rfl
  refine⟨Y,txt Z,at1,c0,Y,Y,tl,VE<|by simpa[txt]using O1,_,_,J,rest,rfl,rfl,M2,.inl ⟨by decide,by decide⟩,(by show(0:Int)<_;decide),?_⟩;exists alpha o,_,_,Y,Y,by rw[W3];decide,Nv o _ S.1 S.2;rw[R6];have sg:(⟨#[o+(J+5*i) % 26]⟩:Str)=txt [o+(J+5*i) % 26]:=rfl;rw[sg]
  have eA:Txt.slice (txt Z) none (some (at1:Int))++ txt [o+(J+5*i) % 26]++ Txt.slice (txt Z) (some<|(at1:Int)+1) none=txt (Z.take at1++[o+(J+5*i) % 26]++ Z.drop (at1+1)):=by
   have z:((at1:Int)+1)=((at1+1:Nat):Int):=by omega
   rw[z,Ms M at1<|by omega,OC M (at1+1)<|by omega,Rm,Rm]
  have eB:txt [o+(J+5*i) % 26]++ Txt.slice (txt Z) none (some<|(3*(0+(i:Int))+(at1:Int)) % 8)=txt ([o+(J+5*i) % 26]++ Z.take ((3*i+at1) % 8)):=by
   have z:(3*(0+(i:Int))+(at1:Int)) % 8=(((3*i+at1) % 8:Nat):Int):=by rw[show 3*(0+(i:Int))+(at1:Int)=((3*i+at1:Nat):Int) by omega];rfl
   rw[z,Ms M _<|Zh<|kJ _<|by decide,Rm]
  have eC:Txt.slice (txt Z) none (some<|(0+(i:Int)) % 8+1)=txt (Z.take<|i % 8+1):=by
   have z:(0+(i:Int)) % 8+1=((i % 8+1:Nat):Int):=by rw[Int.zero_add];rfl
   rw[z,Ms M _ (by omega)]
  have eD:Txt.slice (txt Z) none (some<|8-(0+(i:Int)) % 8)=txt (Z.take<|8-i % 8):=by
   have z:8-(0+(i:Int)) % 8=((8-i % 8:Nat):Int):=by omega
   rw[z,Ms M _ (by omega)]
  have small:∀m:Nat,m<=100->m<=sizeLine:=λm h=>Zh (Yx<|by omega);have k1:∀lo X,(Txt.slice (txt Z) lo X).length<=8:=λlo X=>A1 M lo X;have x1:(txt [o+(J+5*i) % 26]).length=1:=rfl;refine⟨_,Y,txt Z,Y,tl,_,_,Y,Y,small _ (by have:=k1 none<|some (at1:Int);omega),_,Y,txt Z,Y,tl,_,_,Y,Y,small _ (by have:=k1 none<|some (at1:Int);have:=k1 (some<|(at1:Int)+1) none;rw[NB];omega),?_⟩;refine⟨.inl ⟨by decide,by decide⟩,(by show(0:Int)<_;decide),_,Y,txt Z,Y,tl,_,_,Y,Y,small _ (by have:=k1 none<|some<|(3*(0+(i:Int))+(at1:Int)) % 8;omega),?_⟩;exists (by show(0:Int)<_;decide),_,Y,txt Z,Y,tl;refine⟨(by show(0:Int)<_;decide),_,Y,txt Z,Y,tl,sl 4,λt ht=>?_⟩;rw[eA,eB,eC,eD];have nt:t≠p:=y2.ne ht;have G1:y≠t:=Yb y3 ht;exists .inl ⟨Y,_,Z3<|(Yg G1).trans y3⟩,_,_,Z3 Yf,Cy<|by omega,y,_,_,rfl,rfl,(Yg G1).trans y3,?_
  .rw [ZA,ZA,js]
   exact Yx<|by omega
  .have ft:H t=none:=y1.free nt ht
   refine⟨(y1.put ft).put v,y2.keep<|(Yg<|Zs N).trans<|Yg<|Zs nt,?_,_,_,_,rfl⟩;rw[Yf,<-G6,ZK]
   rfl
 .rintro U L ⟨y1,y2,y3,j,O,z3,rfl⟩
  rw[em]at y3;refine q y _ L y1 y2 v N y3 (by simp)<|SB M R5 ?_ zc;omega
end
end K4
namespace L2
open PySem PySem.Spec PyProof.Rows SeqAt
mutual
def Dat.pq:Dat->Dat->Bool
 |.non,.non=>true
 |.bl a,.bl b=>a==b
 |.bl a,.int b=>(if a then 1 else 0)==b
 |.int a,.bl b=>a==(if b then 1 else 0)
 |.int a,.int b=>a==b
 |.str a,.str b=>a==b
 |.tup a,.tup b=>Dat.pqs a b
 |.lst a,.lst b=>Dat.pqs a b
 |_,_=>false
def Dat.pqs:List Dat->List Dat->Bool
 |[],[]=>true
 |a::as,b::bs=>Dat.pq a b && Dat.pqs as bs
 |_,_=>false
end
mutual
theorem Dat.pq_self:∀a:Dat,a.pq a=true
 |.non=>by unfold Dat.pq;rfl
 |.bl b=>by unfold Dat.pq;exact beq_self_eq_true b
 |.int i=>by unfold Dat.pq;exact beq_self_eq_true i
 |.str x=>by unfold Dat.pq;exact beq_self_eq_true x
 |.tup ds=>by unfold Dat.pq;exact Dat.pqs_self ds
 |.lst ds=>by unfold Dat.pq;exact Dat.pqs_self ds
theorem Dat.pqs_self:∀a:xo,Dat.pqs a a=true
 |[]=>by unfold Dat.pqs;rfl
 |a::as=>by unfold Dat.pqs;rw[Dat.pq_self a,Dat.pqs_self as];rfl
end
theorem GY:∀(J Z:xo),((List.range<|min J.length Z.length).all (λi=>((J[i]?).getD .non).pq<|(Z[i]?).getD .non) && J.length==Z.length)=Dat.pqs J Z
 |[],[]=>by unfold Dat.pqs;rfl
 |[],_::_=>by unfold Dat.pqs;simp
 |_::_,[]=>by unfold Dat.pqs;simp
 |a::J,b::Z=>by
  have ih:=GY J Z;have e:min (a::J).length (b::Z).length=min J.length Z.length+1:=by simp only[Zf];omega
  rw[e,List.range_succ_eq_map,pC,List.all_map];unfold Dat.pqs;rw[<-ih];have G:((a::J).length==(b::Z).length)=(J.length==Z.length):=by simp
  rw[G,Bool.and_assoc]
  rfl
def PL(h:Z.length=J.length):(List.range Z.length).all (λi=>((Z[i]?).getD .non).pq<|(J[i]?).getD .non)=Dat.pqs Z J:=by
 rw[<-GY Z J,h];simp
def S7(h:J.length≠Z.length):Dat.pqs J Z=false:=by
 rw[<-GY J Z];simp[h]
def Ug{s:Shared}(G:HOk P w H s.heap)(h:H a=some (.tup J)):∃Z:pW,Vals J Z/\s.heap.IsTuple a Z.toArray:=by
 obtain⟨_,Z,r,p⟩:=(show VQ P w H s.heap a (.tup J)from G a _ h);exact⟨Z,r,p.is⟩
def Uo{s:Shared}(G:HOk P w H s.heap)(h:H a=some (.lst J)):∃Z:pW,Vals J Z/\s.heap.IsList a Z.toArray:=by
 obtain⟨_,Z,n,r,p⟩:=(show VQ P w H s.heap a (.lst J)from G a _ h);exact⟨Z,r,_,p,Y,n,Y⟩
structure Cmp(A:Around)(s:Shared)(u v:Value)(b:Bool):Prop where
 eq:EqAt A s u v b
 rc:RcAt A s u v b
 ne:RcNeAt A s u v (!b)
def Eu{A:Around}{F Q:xo}{L G:xg}{J Z:pW}(ih:∀(I q:Dat){x y:V}{u v:Value},I.dep<=m->Has H x I->Has H y q->RelV x u->RelV y v->EqAt A s u v (I.pq q))(b:Dat.deps F<=m)(R:HasL H L F)(O:HasL H G Q)(r:Vals L J)(S:Vals G Z):∀j (P:j<J.toArray.size) (X:j<Z.toArray.size),EqAt A s J.toArray[j] Z.toArray[j] ((λi=>((F[i]?).getD .non).pq<|(Q[i]?).getD .non) j):=by
 intro j P X;have l:=r.length;have w:=S.length;rw[ZO]at P X;have C:j<L.length:=by omega
 have U:j<G.length:=by omega
 obtain⟨d,hd,c⟩:=R.get<|ZD C;obtain⟨f,E,D⟩:=O.get<|ZD U;obtain⟨g,B,N⟩:=r.get<|ZD C;obtain⟨t,T,M⟩:=S.get<|ZD U;have p:J.toArray[j]=g:=by have z:=(ZF.mp B).2;simpa using z
 have k:Z.toArray[j]=t:=by have z:=(ZF.mp T).2;simpa using z
 dsimp only;rw[p,k,hd,E];have e:=Dat.deps_get hd;exact ih d f (by omega) c D N M
def Nn(U:HOk P w H s.heap)(n:Nat)(ih:∀m,n=m+1->∀(C S:Dat)(A:Around){x y:V}{u v:Value},C.dep<=m->Has H x C->Has H y S->RelV x u->RelV y v->Vn (m+1) A->Cmp A s u v (C.pq S))(C S:Dat)(A:Around){x y:V}{u v:Value}(hn:C.dep<=n)(B:Has H x C)(Z:Has H y S)(j:RelV x u)(L:RelV y v)(i:Vn (n+1) A):Cmp A s u v (C.pq S):=by
 have G:=i.units0
 cases C with
 |non=>
  unfold Has at B;subst B;cases j
  cases S with
  |non=>unfold Has at Z;subst Z;cases L;unfold Dat.pq;exact⟨.same _,.none_none,.none_none⟩
  |bl b=>unfold Has at Z;subst Z;cases L;unfold Dat.pq;exact⟨.none_bool _,.none_bool _,.none_bool _⟩
  |int b=>unfold Has at Z;subst Z;obtain⟨Q,rfl⟩:=L;unfold Dat.pq;exact⟨.none_int _ _,.none_int _ _,.none_int _ _⟩
  |str b=>unfold Has at Z;subst Z;obtain⟨Q,rfl⟩:=L;unfold Dat.pq;exact⟨.none_str _ _,.none_str _ _,.none_str _ _⟩
  |tup O=>unfold Has at Z;obtain⟨p,X,rfl,R,_⟩:=Z;cases L;obtain⟨N,r,J⟩:=Ug U R;unfold Dat.pq;exact⟨.none_tuple J G,.none_tuple J G,.none_tuple J G⟩
  |lst O=>unfold Has at Z;obtain⟨p,X,rfl,R,_⟩:=Z;cases L;obtain⟨N,r,J⟩:=Uo U R;unfold Dat.pq;exact⟨.none_list J G,.none_list J G,.none_list J G⟩
 |bl a=>
  unfold Has at B;subst B;cases j
  cases S with
  |non=>unfold Has at Z;subst Z;cases L;unfold Dat.pq;exact⟨.bool_none _,.bool_none _,.bool_none _⟩
  |bl b=>unfold Has at Z;subst Z;cases L;unfold Dat.pq;exact⟨.bool_bool _ _,.bool_bool _ _,.bool_bool _ _⟩
  |int b=>unfold Has at Z;subst Z;obtain⟨Q,rfl⟩:=L;unfold Dat.pq;exact⟨.bool_int _ _ _,.bool_int _ _ _,.bool_int _ _ _⟩
  |str b=>unfold Has at Z;subst Z;obtain⟨Q,rfl⟩:=L;unfold Dat.pq;exact⟨.bool_str _ _ _,.bool_str _ _ _,.bool_str _ _ _⟩
  |tup O=>unfold Has at Z;obtain⟨p,X,rfl,R,_⟩:=Z;cases L;obtain⟨N,r,J⟩:=Ug U R;unfold Dat.pq;exact⟨.bool_tuple _ J G,.bool_tuple _ J G,.bool_tuple _ J G⟩
  |lst O=>unfold Has at Z;obtain⟨p,X,rfl,R,_⟩:=Z;cases L;obtain⟨N,r,J⟩:=Uo U R;unfold Dat.pq;exact⟨.bool_list _ J G,.bool_list _ J G,.bool_list _ J G⟩
 |int a=>
  unfold Has at B;subst B;obtain⟨t,rfl⟩:=j
  cases S with
  |non=>unfold Has at Z;subst Z;cases L;unfold Dat.pq;exact⟨.int_none _ _,.int_none _ _,.int_none _ _⟩
  |bl b=>unfold Has at Z;subst Z;cases L;unfold Dat.pq;exact⟨.int_bool _ _ _,.int_bool _ _ _,.int_bool _ _ _⟩
  |int b=>unfold Has at Z;subst Z;obtain⟨Q,rfl⟩:=L;unfold Dat.pq;exact⟨.int_int _ _ _ _,.int_int _ _ _ _,.int_int _ _ _ _⟩
  |str b=>unfold Has at Z;subst Z;obtain⟨Q,rfl⟩:=L;unfold Dat.pq;exact⟨.int_str _ _ _ _,.int_str _ _ _ _,.int_str _ _ _ _⟩
  |tup O=>unfold Has at Z;obtain⟨p,X,rfl,R,_⟩:=Z;cases L;obtain⟨N,r,J⟩:=Ug U R;unfold Dat.pq;exact⟨.int_tuple _ _ J G,.int_tuple _ _ J G,.int_tuple _ _ J G⟩
  |lst O=>unfold Has at Z;obtain⟨p,X,rfl,R,_⟩:=Z;cases L;obtain⟨N,r,J⟩:=Uo U R;unfold Dat.pq;exact⟨.int_list _ _ J G,.int_list _ _ J G,.int_list _ _ J G⟩
 |str a=>
  unfold Has at B;subst B;obtain⟨t,rfl⟩:=j
  cases S with
  |non=>unfold Has at Z;subst Z;cases L;unfold Dat.pq;exact⟨.str_none _ _,.str_none _ _,.str_none _ _⟩
  |bl b=>unfold Has at Z;subst Z;cases L;unfold Dat.pq;exact⟨.str_bool _ _ _,.str_bool _ _ _,.str_bool _ _ _⟩
  |int b=>unfold Has at Z;subst Z;obtain⟨Q,rfl⟩:=L;unfold Dat.pq;exact⟨.str_int _ _ _ _,.str_int _ _ _ _,.str_int _ _ _ _⟩
  |str b=>unfold Has at Z;subst Z;obtain⟨Q,rfl⟩:=L;unfold Dat.pq;exact⟨.str_str _ _ _ _,.str_str _ _ _ _,.str_str _ _ _ _⟩
  |tup O=>unfold Has at Z;obtain⟨p,X,rfl,R,_⟩:=Z;cases L;obtain⟨N,r,J⟩:=Ug U R;unfold Dat.pq;exact⟨.str_tuple _ _ J G,.str_tuple _ _ J G,.str_tuple _ _ J G⟩
  |lst O=>unfold Has at Z;obtain⟨p,X,rfl,R,_⟩:=Z;cases L;obtain⟨N,r,J⟩:=Uo U R;unfold Dat.pq;exact⟨.str_list _ _ J G,.str_list _ _ J G,.str_list _ _ J G⟩
 |tup D=>
  unfold Has at B;obtain⟨p,xs,rfl,R,F⟩:=B;cases j;obtain⟨N,r,J⟩:=Ug U R
  cases S with
  |non=>unfold Has at Z;subst Z;cases L;unfold Dat.pq;exact⟨.tuple_none J G,.tuple_none J G,.tuple_none J G⟩
  |bl b=>unfold Has at Z;subst Z;cases L;unfold Dat.pq;exact⟨.tuple_bool _ J G,.tuple_bool _ J G,.tuple_bool _ J G⟩
  |int b=>unfold Has at Z;subst Z;obtain⟨Q,rfl⟩:=L;unfold Dat.pq;exact⟨.tuple_int _ _ J G,.tuple_int _ _ J G,.tuple_int _ _ J G⟩
  |str b=>unfold Has at Z;subst Z;obtain⟨Q,rfl⟩:=L;unfold Dat.pq;exact⟨.tuple_str _ _ J G,.tuple_str _ _ J G,.tuple_str _ _ J G⟩
  |lst O=>unfold Has at Z;obtain⟨q,X,rfl,h,_⟩:=Z;cases L;obtain⟨T,g,M⟩:=Uo U h;unfold Dat.pq;exact⟨.tuple_list J M G,.tuple_list J M G,.tuple_list J M G⟩
  |tup O=>
   unfold Has at Z;obtain⟨c,X,rfl,I,E⟩:=Z;cases L;obtain⟨T,g,M⟩:=Ug U I;have l1:=F.length;have l2:=E.length;have l3:=r.length;have l4:=g.length;have dd:Dat.deps D+1<=n:=by unfold Dat.dep at hn;omega
   obtain⟨m,rfl⟩:∃m,n=m+1:=⟨n-1,by omega⟩;have d:=Eu (A:=A.in1) (λC S {x y u v} z B Z j L=>(ih m rfl C S A.in1 z B Z j L i.in1).eq) (show Dat.deps D<=m by omega) F E r g;have f:N.toArray.size=D.length:=by rw[ZO];omega
   have o:T.toArray.size=O.length:=by rw[ZO];omega
   have q:=RcAt.tuples (A:=A) J M G d;have k:=RcNeAt.tuples (A:=A) J M G d;rw[f,o,GY]at q k;have e0:(Dat.tup D).pq (Dat.tup O)=Dat.pqs D O:=by conv=>lhs;unfold Dat.pq
   rw[e0];refine⟨?_,q,k⟩
   by_cases e:p=c
   .subst e
    rw[R]at I;cases I;rw[HasL.inj D O F E,Dat.pqs_self];exact EqAt.same _
   .exact EqAt.of_refs e q
 |lst D=>
  unfold Has at B;obtain⟨p,xs,rfl,R,F⟩:=B;cases j;obtain⟨N,r,J⟩:=Uo U R
  cases S with
  |non=>unfold Has at Z;subst Z;cases L;unfold Dat.pq;exact⟨.list_none J G,.list_none J G,.list_none J G⟩
  |bl b=>unfold Has at Z;subst Z;cases L;unfold Dat.pq;exact⟨.list_bool _ J G,.list_bool _ J G,.list_bool _ J G⟩
  |int b=>unfold Has at Z;subst Z;obtain⟨Q,rfl⟩:=L;unfold Dat.pq;exact⟨.list_int _ _ J G,.list_int _ _ J G,.list_int _ _ J G⟩
  |str b=>unfold Has at Z;subst Z;obtain⟨Q,rfl⟩:=L;unfold Dat.pq;exact⟨.list_str _ _ J G,.list_str _ _ J G,.list_str _ _ J G⟩
  |tup O=>unfold Has at Z;obtain⟨q,X,rfl,h,_⟩:=Z;cases L;obtain⟨T,g,M⟩:=Ug U h;unfold Dat.pq;exact⟨.list_tuple J M G,.list_tuple J M G,.list_tuple J M G⟩
  |lst O=>
   unfold Has at Z;obtain⟨c,X,rfl,I,E⟩:=Z;cases L;obtain⟨T,g,M⟩:=Uo U I;have l1:=F.length;have l2:=E.length;have l3:=r.length;have l4:=g.length;have dd:Dat.deps D+1<=n:=by unfold Dat.dep at hn;omega
   obtain⟨m,rfl⟩:∃m,n=m+1:=⟨n-1,by omega⟩;have d:=Eu (A:=A.in1) (λC S {x y u v} z B Z j L=>(ih m rfl C S A.in1 z B Z j L i.in1).eq) (show Dat.deps D<=m by omega) F E r g;have f:N.toArray.size=D.length:=by rw[ZO];omega
   have o:T.toArray.size=O.length:=by rw[ZO];omega
   have e0:(Dat.lst D).pq (Dat.lst O)=Dat.pqs D O:=by conv=>lhs;unfold Dat.pq
   rw[e0]
   have l:RcAt A s (.ref p) (.ref c) (Dat.pqs D O)/\RcNeAt A s (.ref p) (.ref c) (!Dat.pqs D O):=by
    by_cases e:D.length=O.length
    .have q:=RcAt.lists (A:=A) J M (by omega) G d
     have k:=RcNeAt.lists (A:=A) J M (by omega) G d;rw[f,PL e]at q k;exact⟨q,k⟩
    .have z:(N.toArray.size !=T.toArray.size)=true:=by rw[f,o];simp[e]
     rw[S7 e];exact⟨RcAt.lists_lengths (A:=A) J M z G,RcNeAt.lists_lengths (A:=A) J M z G⟩
   refine⟨?_,l.1,l.2⟩
   by_cases e:p=c
   .subst e
    rw[R]at I;cases I;rw[HasL.inj D O F E,Dat.pqs_self];exact EqAt.same _
   .exact EqAt.of_refs e l.1
theorem Mu(G:HOk P w H s.heap):∀(n:Nat)(Z J:Dat)(A:Around){x y:V}{u v:Value},Z.dep<=n->Has H x Z->Has H y J->RelV x u->RelV y v->Vn (n+1) A->Cmp A s u v (Z.pq J)
 |0,Z,J,A,_,_,_,_,hn,hx,hy,ru,rv,hr=>Nn G 0 (λ_ e=>nomatch e) Z J A hn hx hy ru rv hr
 |n+1,Z,J,A,_,_,_,_,hn,hx,hy,ru,rv,hr=>Nn G (n+1) (λ_ e Z J A {_ _ _ _}=>by cases e;exact Mu G n Z J A) Z J A hn hx hy ru rv hr
section
def vK(k:Nat):R2:=λx y H Q=>∃d e,Has H x d/\Has H y e/\d.dep<=k/\Q (.bl<|d.pq e) H
def vJ(k:Nat):R2:=λx y H Q=>∃d e,Has H x d/\Has H y e/\d.dep<=k/\Q (.bl<|!d.pq e) H
def B0(L:Vn (k+1) X.A):OpR X (compareOp .Eq) (vK k):=by
 intro Z s U H x y v u Q I G J h;obtain⟨d,e,hd,N,M,q⟩:=h;exact(Mu I.hok k d e X.A M hd N G J L).rc _ _ _ _ ⟨.bl _,H,I,rfl,q⟩
def Bz(L:Vn (k+1) X.A):OpR X (compareOp .NotEq) (vJ k):=by
 intro Z s U H x y v u Q I G J h;obtain⟨d,e,hd,N,M,q⟩:=h;exact(Mu I.hok k d e X.A M hd N G J L).ne _ _ _ _ ⟨.bl _,H,I,rfl,q⟩
end
end L2
namespace L2
open PySem PySem.Spec PyProof.Rows
mutual
def Dat.st:Dat->Bool
 |.str _=>true
 |.tup ds=>Dat.sts ds
 |_=>false
def Dat.sts:List Dat->Bool
 |[]=>true
 |d::ds=>d.st && Dat.sts ds
end
end L2
namespace L2
open PySem
inductive Shp where
 |tags (ts:List Str)
 |pair (a b:Str)
abbrev xq:=List (Str×Shp)
def Shp.dat:Shp->Dat
 |.tags ts=>.tup [.str "tags",.tup (ts.map Dat.str)]
 |.pair a b=>.tup [.str "pair",.str a,.str b]
def M5(s:J0 H p)(h:H a=some (.tup Z)):a≠p:=λe=>by
 obtain⟨_,_,_,_,q⟩:=s;rw[<-e,h]at q;cases q
end L2
namespace K4
open PySem L2
def Ov:Yh ["stream","many"] ["stream","many"] (Yd BV):=Y2
def RD:(Str.ofString "abcdefghijklmnopqrstuvwxyz")=alpha 97:=by decide +kernel
def RN:(Str.ofString "ABCDEFGHIJKLMNOPQRSTUVWXYZ")=alpha 65:=by decide +kernel
section
variable{K:W.Frag}
def Ry:Sp:=λG H Q _=>∃(p:Addr)(many:Nat),G=[.ref p,.int many]/\J0 H p/\many<=8/\
 ∀(r:Addr)(J:pX)(Z:Hp),SameB p H Z->J0 Z p->H r=none->r≠p->Z r=some (.lst<|J.map V.str)->J.length=many->Wds 97 J->Q (.ref r) Z
def Ko(F:Fun K "_law_small" "_law_small" BV f B)(G:Ye P w K J base CX0 n g T ["stream","many","letters","ways"] GP)(I:Binds K T ["stream","many","letters","ways"] [])(M:W.keepIn K (.ref g)=true)(L:J "_law_words"=some (.ref g)):
  Ye P w K J base CX0 (n+1) f B ["stream","many"] Ry:=by
 refine F.oq Ov λD A Z s H S Q E O h=>?_;obtain⟨p,many,rfl,N,R,q⟩:=h;exists _,YZ<|Yj<|JP G O rfl L M I .nil Y3 (pa4 (pv 0) (pv 1) Yp Ya);refine⟨p,many,97,4,?_,N,.inl Y,by decide,.inr ⟨by decide,R⟩,q⟩;rw[<-RD];rfl
end
end K4
namespace L2
open PySem
def TK(H H':Hp):Prop:=∀b Z,H b=some (.tup Z)->H' b=some (.tup Z)
def N6(h:H a=some u)(J:∀Z,u≠.tup Z):TK H (upd H a o):=λb Z e=>by
 rw[Yg (Jl e h λz=>J Z z.symm)];exact e
mutual
theorem DV{H Z:Hp}(b:TK H Z):∀(d:Dat){v:V},d.st=true->Has H v d->Has Z v d
 |.str _,_,_,h=>by unfold Has at h |-;exact h
 |.tup ds,_,t,h=>by
  unfold Has at h |-;obtain⟨a,J,M,L,G⟩:=h;unfold Dat.st at t;exact⟨a,J,M,b _ _ L,Ge b ds t G⟩
 |.non,_,t,_=>by unfold Dat.st at t;cases t
 |.bl _,_,t,_=>by unfold Dat.st at t;cases t
 |.int _,_,t,_=>by unfold Dat.st at t;cases t
 |.lst _,_,t,_=>by unfold Dat.st at t;cases t
theorem Ge{H L:Hp}(b:TK H L):∀(Z:xo){J:xg},Dat.sts Z=true->HasL H J Z->HasL L J Z
 |[],[],_,h=>Z6
 |[],_::_,_,h=>by unfold HasL at h;exact h.elim
 |_::_,[],_,h=>by unfold HasL at h;exact h.elim
 |d::Z,x::J,t,h=>by
  unfold HasL at h;unfold Dat.sts at t;have G:=Bool.and_eq_true_iff.mp t;exact Z4 (DV b d G.1 h.1)<|Ge b Z G.2 h.2
end
def NY(k:Str×Shp):Dat:=.tup [.str k.1,k.2.dat]
def KK1(top:Nat)(c d:xr)(ahead:pX)(y:Str):Shp->Prop
 |.tags ts=>1<=ts.length/\ts.length<=4/\c y=1+ts.length/\d y=0/\ts.Nodup
 |.pair a b=>a∈ahead/\b∈ahead/\c y=1+c a*c b/\c y<=top/\d y=1+max (d a) (d b)/\d y<=2
def KK(top:Nat)(c d:xr)(ks:xq):Prop:=∀(i:Nat)(y:Str)(s:Shp),ks[i]?=some (y,s)->KK1 top c d ((ks.take i).map (·.1)) y s
structure KG(ks:List (Str×Shp)):Prop where
 nm:Wds 97 (ks.map (·.1))
 tg:∃tgs,Wds 65 tgs/\∀(i':Nat)(y:Str)(ts:List Str),ks[i']?=some (y,.tags ts)->∃r,r<4/\ts=(tgs.drop (4*i')).take (1+r)
 pr:∀(i1 i2:Nat)(y1 y2 a b:Str),ks[i1]?=some (y1,.pair a b)->ks[i2]?=some (y2,.pair a b)->i1=i2
def KG.tags(g:KG M)(h:(y,Shp.tags L)∈M):Wds 65 L:=by
 obtain⟨Z,w,q⟩:=g.tg;obtain⟨i,N,e⟩:=jJ.mp h;obtain⟨r,_,rfl⟩:=q i y L (by rw[ZD N,e]);have J:∀z,z∈(Z.drop<|4*i).take (1+r)->z∈Z:=λz G=>kY<|Zk G;exact⟨w.nd.sublist<|(jR _ _).trans<|List.drop_sublist _ _,λz G=>w.len z<|J z G,λz G=>w.abc z<|J z G⟩
def take_snoc{α:Type}{l:List α}{a:α}(h:l[i]?=some a):l.take (i+1)=l.take i++[a]:=by
 have Z:=(ZF.mp h).1;rw[List.take_succ_eq_append_getElem Z,(ZF.mp h).2]
def OQ(h:u D (U.set k<|some v) H):Yn (E5 (tC v)<|V2 k) u D U H:=h
def Nk(Z:xg)(k:Nat)(h:k<=Z.length):Uq Z none (some (k:Int))=Z.take k:=by
 unfold Uq;rw[HT.sIx_none,HT.sIx_nat,List.drop_zero,Nat.sub_zero,jE h]
def Lj(h:Has H x (NY (y,s))):∃a v,x=.ref a/\H a=some (.tup [.str y,v])/\Has H v s.dat:=by
 unfold NY Has at h;obtain⟨a,M,rfl,N,Z⟩:=h
 match M,Z with
 |[u,v],Z=>
  unfold HasL at Z;obtain⟨L,J⟩:=Z;unfold HasL at J;unfold Has at L;subst L;exact⟨a,v,Y,N,J.1⟩
 |[],Z=>unfold HasL at Z;exact Z.elim
 |[x],Z=>unfold HasL at Z;obtain⟨_,J⟩:=Z;unfold HasL at J;exact J.elim
 |_::_::_::_,Z=>unfold HasL at Z;obtain⟨_,J⟩:=Z;unfold HasL at J;obtain⟨_,G⟩:=J;unfold HasL at G;exact G.elim
def WY(Z:xj)(L:∀J G,Z J G->u D J G)(main:∀N:xj,(∀J G,Z J G->N J G)->t {D with nx:=N} U H):Yn t u D U H:=main _ L
end L2
namespace K4
open PySem L2
end K4
namespace L2
open PySem
def Vc(ks:xq)(y:Str):Option Shp:=(ks.find? λk=>decide<|k.1=y).map (·.2)
def VC(ks:xq):Nat->Str->List W
 |0,_=>[]
 |n+1,y=>match Vc ks y with
  |none=>[]
  |some (.tags ts)=>.non::ts.map W.tag
  |some (.pair a b)=>.non::(VC ks n a).flatMap λu=>(VC ks n b).map λv=>.pair u v
def Xu(h:Vc Z y=some s):(y,s)∈Z:=by
 unfold Vc at h
 cases e:Z.find? λk=>decide (k.1=y)with
 |none=>rw[e]at h;cases h
 |some k=>
  rw[e]at h;have J:k.2=s:=ZT h;have q:=List.find?_some e;have m:=jp e;have z:k.1=y:=Zt q;rw[<-J,<-z];exact m
def Jv(h:y∈Z.map (·.1)):∃s,Vc Z y=some s:=by
 obtain⟨k,J,rfl⟩:=ZW.mp h;unfold Vc
 cases e:Z.find? λz=>decide (z.1=k.1)with
 |none=>
  have q:=qS.mp e k J;simp at q
 |some z=>exact⟨z.2,Y⟩
def KK.at(h:KK top c d J)(e:Vc J y=some s):KK1 top c d (J.map (·.1)) y s:=by
 obtain⟨i,M,N⟩:=jJ.mp<|Xu e;have q:=h i y s<|by rw[ZD M,N]
 have Z:∀z,z∈(J.take i).map (·.1)->z∈J.map (·.1):=λz G=>by
  obtain⟨k,L,rfl⟩:=ZW.mp G;exact ZW.mpr ⟨k,Zk L,Y⟩
 cases s with
 |tags O=>exact q
 |pair a b=>exact⟨Z a q.1,Z b q.2.1,q.2.2⟩
theorem Ng{α:Type}(f:α->List W)(k:Nat):∀(l:List α),(∀a∈l,(f a).length=k)->(l.flatMap f).length=l.length*k
 |[],_=>by simp
 |a::l,h=>by
  rw[jK,ZL,h a (by simp),Ng f k l λb Z=>h b (by simp[Z]),Zf,jN,qQ]
theorem WO(h:KK top c d J):∀(n:Nat)(y:Str),y∈J.map (·.1)->d y<n->(VC J n y).length=c y/\0<c y/\∀u∈VC J n y,u.dep<=d y
 |0,y,_,hd=>Zr hd<|Zw _
 |n+1,y,hy,hd=>by
  obtain⟨s,N⟩:=Jv hy;have M:=h.at N;unfold VC;rw[N]
  cases s with
  |tags L=>
   obtain⟨R,O,U,S,_⟩:=M;refine⟨?_,by omega,λu G=>?_⟩
   .show (W.non::L.map W.tag).length=c y
    rw[Zf,ZA];omega
   .have Z:u=.non\/u∈L.map W.tag:=Zd.mp G
    rcases Z with rfl|Z
    .exact Zc _
    .obtain ⟨x,_,rfl⟩:=ZW.mp Z
     exact Zc _
  |pair a b=>
   obtain⟨R,O,U,S,q,j⟩:=M;have E:=j6 (d a)<|d b;have D:=jY (d a)<|d b;obtain⟨A,Q,X⟩:=WO h n a R (by omega);obtain⟨F,P,C⟩:=WO h n b O (by omega);refine⟨?_,by omega,λu G=>?_⟩
   .show (W.non::(VC J n a).flatMap λu=>(VC J n b).map λv=>.pair u v).length=c y
    rw[Zf,Ng _ (c b) _ (λa _=>by rw[ZA,F]),A];omega
   .have Z:u=.non\/u∈(VC J n a).flatMap λu=>(VC J n b).map λv=>.pair u v:=Zd.mp G
    rcases Z with rfl|Z
    .exact Zc _
    .obtain ⟨x,hx,hu2⟩:=List.mem_flatMap.mp Z
     obtain⟨z,I,rfl⟩:=ZW.mp hu2;have B:=X x hx;have T:=C z I;show 1+max x.dep z.dep<=d y;have:=Nat.max_le.mpr ⟨Zb B E,Zb T D⟩;omega
theorem UO(h:KK top c d Z):∀(n m:Nat)(y:Str),y∈Z.map (·.1)->d y<n->d y<m->VC Z n y=VC Z m y
 |0,_,_,_,h1,_=>Zr h1<|Zw _
 |_+1,0,_,_,_,h2=>Zr h2<|Zw _
 |n+1,m+1,y,hy,h1,h2=>by
  obtain⟨s,J⟩:=Jv hy;have M:=h.at J;unfold VC;rw[J]
  cases s with
  |tags N=>rfl
  |pair a b=>
   obtain⟨L,G,B,T,R,O⟩:=M;have E:=j6 (d a)<|d b;have D:=jY (d a)<|d b;show(W.non::_)=(W.non::_);rw[UO h n m a L (by omega) (by omega),UO h n m b G (by omega) (by omega)]
theorem WR:∀{J:pX}{Z:xg},HasL H Z (J.map Dat.str)->Z=J.map V.str
 |[],[],_=>rfl
 |[],_::_,h=>by rw[j9]at h;unfold HasL at h;exact h.elim
 |_::_,[],h=>by rw[ZV]at h;unfold HasL at h;exact h.elim
 |t::J,z::Z,h=>by
  rw[ZV]at h;unfold HasL at h;obtain⟨G,g2⟩:=h;unfold Has at G;rw[G,WR g2];rfl
def wOf(ks:xq)(n:Nat):Shp->List W
 |.tags ts=>.non::ts.map W.tag
 |.pair a b=>.non::(VC ks n a).flatMap λu=>(VC ks n b).map λv=>.pair u v
def WP(h:Vc Z y=some s):VC Z (n+1) y=wOf Z n s:=by
 conv=>lhs;unfold VC
 rw[h];cases s <;> rfl
def X9(h:Has H v (Shp.tags M).dat):∃p l,v=.ref p/\H p=some (.tup [.str "tags",.ref l])/\H l=some (.tup<|M.map V.str):=by
 unfold Shp.dat Has at h;obtain⟨p,T,rfl,B,Z⟩:=h
 match T,Z with
 |[u,v],Z=>
  unfold HasL at Z;obtain⟨O,J⟩:=Z;unfold HasL at J;unfold Has at O;subst O;have G:=J.1;unfold Has at G;obtain⟨l,R,rfl,N,L⟩:=G;have e:R=M.map V.str:=WR L;rw[e]at N;exact⟨p,l,Y,B,N⟩
 |[],Z=>unfold HasL at Z;exact Z.elim
 |[x],Z=>unfold HasL at Z;obtain⟨_,J⟩:=Z;unfold HasL at J;exact J.elim
 |_::_::_::_,Z=>unfold HasL at Z;obtain⟨_,J⟩:=Z;unfold HasL at J;obtain⟨_,G⟩:=J;unfold HasL at G;exact G.elim
def Xn(h:Has H v (Shp.pair a b).dat):∃p,v=.ref p/\H p=some (.tup [.str "pair",.str a,.str b]):=by
 unfold Shp.dat Has at h;obtain⟨p,N,rfl,O,Z⟩:=h
 match N,Z with
 |[u,v,w],Z=>
  unfold HasL at Z;obtain⟨M,J⟩:=Z;unfold HasL at J;obtain⟨J,G⟩:=J;unfold HasL at G;have G:=G.1;unfold Has at M J G;subst M J G;exact⟨p,Y,O⟩
 |[],Z=>unfold HasL at Z;exact Z.elim
 |[x],Z=>unfold HasL at Z;obtain⟨_,J⟩:=Z;unfold HasL at J;exact J.elim
 |[x,y],Z=>unfold HasL at Z;obtain⟨_,J⟩:=Z;unfold HasL at J;obtain⟨_,G⟩:=J;unfold HasL at G;exact G.elim
 |_::_::_::_::_,Z=>unfold HasL at Z;obtain⟨_,J⟩:=Z;unfold HasL at J;obtain⟨_,G⟩:=J;unfold HasL at G;obtain⟨_,L⟩:=G;unfold HasL at L;exact L.elim
theorem M8:∀Z:pX,HasL H (Z.map V.str)<|(Z.map W.tag).map W.dat
 |[]=>Z6
 |t::Z=>Z4 (by show Has H (.str t) (W.dat<|.tag t);unfold W.dat Has;rfl)<|M8 Z
end L2
namespace L2
open PySem PySem.Spec PyProof.Rows
section
def UY(K:W.Frag):R2:=λx y H Q=>∃a b Z,x=.ref a/\y=.ref b/\SqT K H a []/\SqT K H b Z/\Q (.ref b) H
def Pb:OpR X (binaryOp .Add) (UY X.K):=by
 intro O s U H x y v u Q I D B h;obtain⟨a,b,t,rfl,rfl,j,P,q⟩:=h;cases D;cases B;obtain⟨C,E,A,_⟩:=I.tuple j;obtain⟨Z,m,F,_⟩:=I.tuple P;cases E;obtain⟨⟨k,z,data,sl⟩,R,T,n,hd⟩:=id A;obtain⟨⟨g,N,data2,M⟩,J,L,S,G⟩:=id F;simp only at T hd L G;subst T hd L G;exact concat_meets ⟨_,R,Y⟩ ⟨_,J,Y⟩ noFill_tuple_add seq_tuple_add kH kz (kh _ _)
  (tuple_addW0 a b _ Z.toArray n S z N sl M rfl) ⟨R,J,.ref b,H,I,rfl,q⟩
def J6:OpR X (binaryOp .Add) (λx y H Q=>UY X.K x y H Q\/UX X.K x y H Q):=Pb.or MY
end
def Jq:plainId "dict.update.loop"=true:=by decide +kernel
def WE:entryFor table "dict.update.loop"=some Builtin.«dict.update.loop»:=entryFor_of_fast<|by kernel_rfl
def QI:typeLookup (.type "list") (Str.ofString "keys")=pure none:=pD<|by decide +kernel
section
def QJ(B:PlainL s.heap a G)(U:A.handled=none)(h:∀L M,(∀b o,s.heap.get? b=some o->L.get? b=some o)->Q none {s with heap:=L,toks:=M}):
  wpAny (model prog w) A (getAttr? (.ref a)<|Str.ofString "keys") Q E s:=by
 obtain⟨⟨c,j,y,sl⟩,k,N,O,hd,hdat⟩:=B;simp only at O hdat hd;subst O hdat hd;obtain⟨C,X,P,M,D⟩:=s;have Z:=F.slot_list_getattribute;have S:=Z.lookup;have z:=Z.bind<|.ref a;have I:=am_list_getattr_none;have q:=sub_AttributeError;have R:∀n,(Shared.mk C X P n D).TypeIs (.ref a) "list":=λn=>⟨_,N,rfl⟩;simp only[getAttr?,getAttrBy?,getAttrBy]
 repeat (any_goals (first|assumption|exact R _|((with_reducible show wpAny _ _ (call (Value.builtin "list.__getattribute__") _ _) _ _ _);refine call_meets F.slot_list_getattribute (R _) am_entry_list_getattribute (F.args_list_getattribute_2 _ _) (meets_getattribute_miss_list a G k sl (Str.ofString "keys") _ QI (by decide +kernel)<|by size_fits) ⟨N,U,λL T e J=>?_⟩)|wp_step))
 have there:=J.there;obtain⟨_,_,t⟩:=there;refine(?_:wpAny _ _ (getattributeRaised _ _ _ _ _ _ _) _ _ _);simp only[getattributeRaised]
 repeat any_goals first|assumption|wp_step
 exact h _ _ J.keeps
end
def vt{prog:Program}{w:World}(h₀:Heap)(vs:List (Key×Value))(i:Nat)(v:Value):Prop:=
 ∃a k J Z,v=.ref a/\vs[i]?=some (k,Z)/\h₀.IsTuple a #[J,Z]/\(VA prog w).is k J=true
def RQ(Z:List (Key×Value))(T:(Z.map (·.1)).Nodup)(e:Z[i]?=some (k,u)):stored (Z.take i) k u=Z.take (i+1):=by
 obtain⟨A,F⟩:=ZF.mp e
 have L:(Z.take i).any (λG=>decide<|G.1=k)=false:=by
  rw[pM];intro J;obtain⟨G,B,D⟩:=kB.mp J;have M:G.1=k:=Zt D;obtain⟨j,E,R⟩:=jJ.mp B;rw[ZN]at E;rw[List.getElem_take]at R;have N:j<(Z.map (·.1)).length:=by rw[ZA];omega
  have O:i<(Z.map (·.1)).length:=by rw[ZA];omega
  have q:(Z.map (·.1))[j]=(Z.map (·.1))[i]:=by
   rw[qb,qb,R,F,M]
  exact jD.mp T j i N O (by omega) q
 unfold stored;rw[L,List.take_add_one,e]
 rfl
section
variable{St:Nat->Heap->Prop}
def Ek(W:Walks prog w A.in1 I fp wr n P St)(E:vs.length=n)(hsz:vs.length<=sizeLine)(hn:(vs.map (·.1)).Nodup)(hP:∀i v,P i v->vt (prog:=prog) (w:=w) h₀ vs i v)(d:Addr)(U:d∉fp)(hw:∀b o,h₀.get? b=some o->b∉wr/\b≠d)(O:Value):
  ∀(k i:Nat)(s:Shared)(j:Int)(t:Tok),n-i=k->i<=n->St i s.heap->s.heap.DictOf (VA prog w) d (vs.take i)->(∀b o,h₀.get? b=some o->s.heap.get? b=some o)->
  (∀J N,J.DictOf (VA prog w) d vs->(∀b o,b∉wr->b≠d->s.heap.get? b=some o->J.get? b=some o)->R (.ok<|.ret O) {s with heap:=J,toks:=N})->
  codeAny (model prog w) A (.builtin "dict.update.loop" ⟨[.ref d,.ref I,.int j t,O],[]⟩) R s:=by
 have S:d∉wr:=λh=>U<|W.sub _ h;intro k
 induction k with
 |zero=>
  intro i s j t hk hi G hd h0 r;have c:i=n:=by omega
  subst c;refine pE WE ?_;rw[Around.under_plainId Jq _];refine Zl (m:=pyNext<|.ref I)<|W.done s _ _ G λJ N Z=>Zl<|Zm<|Zm ?_;refine r J N ?_ λb o M _ e=>Z b o M e;rw[<-E,pR]at hd;obtain⟨o,x,ep,g,rest⟩:=hd;exact⟨o,x,ep,Z d o S g,rest⟩
 |succ k ih=>
  intro i s j t hk hi G hd h0 r;have D:i<n:=by omega
  refine pE WE ?_;rw[Around.under_plainId Jq _];refine Zl (m:=pyNext<|.ref I)<|W.item i s _ _ D G λv J N l T Z=>?_;obtain⟨a,J2,ku,vu,rfl,ev,ht,F⟩:=hP i v l;have Q:∀b o,h₀.get? b=some o->J.get? b=some o:=λb o e=>Z b o (hw b o e).1<|h0 b o e;obtain⟨o,g,hc,m,hdat⟩:=ht;have B:=Q a o g;have hT:({s with heap:=J,toks:=N}:Shared).TypeIs (.ref a) "tuple":=⟨o,B,hc⟩;refine Zl<|wpAny_holding<|Zl<|wpAny_tryCatch ?_;simp only[Builtin.Dict.pairItems];refine Zl (m:=typeOf<|.ref a)<|kq hT ?_;rw[Zp (by decide)];refine Zl<|jC B hdat<|Zm ?_;show wpAny _ A.in1 (holding [ku,vu]<|dictSet d ku vu) _ _ _
  have u:Heap.DictOf (VA prog w) J d (vs.take i):=by
   obtain⟨o1,x,ep,q,rest⟩:=hd;exact⟨o1,x,ep,Z d o1 S q,rest⟩
  refine wpAny_holding<|wpAny_dictSet_pairs (hsz:=by rw[ZN];omega) F u λh2 C L=>?_;rw[RQ vs hn ev]at C;refine Zm ⟨kS Jq _,ih (i+1) _ (j+1) 0 (by omega) D (W.frame _ _ _ T λb M o e=>?_) C (λb o e=>?_) λh3 y f p=>?_⟩
  .exact (L.2 b λz=>U<|z ▸ M).trans e
  .exact (L.2 b (hw b o e).2).trans (Q b o e)
  .refine r h3 y f λb o M X e=>p b o M X<|(L.2 b X).trans<|Z b o M e
end
section
def Rc(K:W.Frag)(H:Hp)(ts:xa)(kvs:xf):Prop:=ts.length=kvs.length/\∀(i:Nat)(a:Addr)(k:Key)(y:V),ts[i]?=some a->kvs[i]?=some (k,y)->SqT K H a [kV k,y]
theorem G7(h:Heap):∀(L:xa)(Z:xf),L.length=Z.length->(∀(i:Nat)(a:Addr)(k:Key)(y:V),L[i]?=some a->Z[i]?=some (k,y)->∃G J,h.IsTuple a #[G,J]/\RelV (kV k) G/\RelV y J)->
  ∃M,KV Z M/\∀(i:Nat)(a:Addr),L[i]?=some a->∃k G J,M[i]?=some (k,J)/\h.IsTuple a #[G,J]/\RelV (kV k) G
 |[],[],_,_=>⟨[],.nil,λi a e=>by simp at e⟩
 |[],_::_,e,_=>by simp at e
 |_::_,[],e,_=>by simp at e
 |t::L,kv::Z,e,hp=>by
  obtain⟨G,J,D,B,T⟩:=hp 0 t kv.1 kv.2 rfl rfl;obtain⟨M,r,R⟩:=G7 h L Z (by simpa using e) λi a k y F E=>hp (i+1) a k y F E;refine⟨(kv.1,J)::M,.cons ⟨Y,T⟩ r,λi a O=>?_⟩
  cases i with
  |zero=>
   have N:some t=some a:=O;cases N;exact⟨kv.1,G,J,Y,D,B⟩
  |succ i=>exact R i a O
def GJ(hc:X.calm=true):J1 X (.type "dict") (λxs H Q=>∃(p:Addr)(L:xa)(Z:xf),xs=[.ref p]/\SqL X.K H p (L.map V.ref)/\Rc X.K H L Z/\(Z.map (·.1)).Nodup/\∀l,H l=none->Q (.ref l) (upd H l<|.dK Z)):=by
 intro G3 s U H xs us Q I r h;obtain⟨p,L,Z,rfl,x,S,hn,q⟩:=h;obtain⟨u,rfl,g⟩:=vals1 r;cases g;obtain⟨G,r',c,f⟩:=I.list x;rw[ZA]at f
 have P:G.length=L.length:=by
  have:=r'.length;rw[ZA]at this;exact this.symm
 have G1:∀(i:Nat)(a:Addr),L[i]?=some a->G[i]?=some (Value.ref a):=λi a e=>by
  obtain⟨u,hu,g⟩:=r'.get (show(L.map V.ref)[i]?=some (V.ref a) by rw[ZH,e];rfl);rw[hu,show u=Value.ref a from g]
 obtain⟨vs,M,w⟩:=G7 s.heap L Z S.1 λi a k y e1 e2=>by
  obtain⟨M2,r2,p2,_⟩:=I.tuple<|S.2 i a k y e1 e2
  cases r2 with
  |cons r1 t1=>
   cases t1 with
   |cons r3 t3=>
    cases t3;exact⟨_,_,p2,r1,r3⟩
 have J2:vs.length=G.toArray.size:=by rw[ZO,P,S.1,<-M.length]
 have R:vs.map (·.1)=Z.map (·.1):=by
  have G2:∀{l:xf}{m:List (Key×Value)},KV l m->m.map (·.1)=l.map (·.1):=by
   intro l m q
   induction q with
   |nil=>rfl
   |cons x t ih=>rw[ZV,ZV,ih,x.1]
  exact G2 M
 have E:p<s.heap.objs.size:=by
  obtain⟨o,n,e,_⟩:=c;exact ZP e
 refine callType_codes (Q₁:=λob t=>ob=.ref s.heap.objs.size/\t={s with heap:=s.heap.push {cls:=.type "dict",data:=.dict #[]}}) F.kt_called_dict (pN _) F.entry_dict_init (kt_code_dict_new _ ⟨Y,Y⟩) λob t z=>?_;obtain⟨rfl,rfl⟩:=z;have J:(s.heap.push {cls:=.type "dict",data:=.dict #[]}).DictOf (VA X.prog X.w) s.heap.objs.size []:=Heap.DictOf.new s.heap;have k0:∀b o,s.heap.get? b=some o->(s.heap.push {cls:=.type "dict",data:=.dict #[]}).get? b=some o:=λb o e=>ZE _ e;refine And.intro J.typeIs<|And.intro (F.args_dict_init_2 _ _) ?_;delta Builtin.«dict.__init__» Builtin.Dict.selfAndRest;refine Zl<|Zl<|pG J.typeIs<|Zm (?_:wpAny _ _ (Builtin.Dict.updateFrom "dict.__init__" s.heap.objs.size (.ref p) [] .none) _ _ _);delta Builtin.Dict.updateFrom;have O:=c.keeps k0;refine Zl<|kq O.isList.typeIs ?_;rw[Zp (by decide)];refine Zl<|QJ O (I.ok.hd hc) λB O1 N=>?_;simp only[pH,if_true];refine Zl<|qe ?_;refine Zl<|qK (O.keeps N).isList ?_
 have j:s.heap.objs.size<B.objs.size:=by
  obtain⟨o,es,ep,ho,_⟩:=J;exact ZP<|N _ _ ho
 have d:∀b o,s.heap.get? b=some o->(B.push {cls:=.type "list_iterator",data:=.fields #[.ref p,.int 0 0]}).get? b=some o:=λb o e=>ZE _<|N b o<|k0 b o e;refine Zm ⟨kS Jq _,Ek (Walks.list (A:=X.A.in1.in1) (I.ok.hd hc) B.objs.size p (Ze<|kI E j) G.toArray) (h₀:=s.heap) (vs:=vs) J2 (by rw[<-M.length,<-S.1];exact f) (by rw[R];exact hn) ?_ s.heap.objs.size ?_ ?_ .none _ 0 _ 0 0 rfl (Zc _) ?_ ?_ d ?_⟩
 .intro i v hv
  have hi:i<G.length:=by
   have:=(Array.getElem?_eq_some_iff.mp hv).1
   rwa [ZO]at this
  have z:i<L.length:=by omega
  obtain⟨k,ku,vu,e1,e2,e3⟩:=w i L[i]<|ZD z;refine⟨L[i],k,ku,vu,?_,e1,e2,XA e3⟩;have:=G1 i L[i]<|ZD z;have D:G[i]?=some v:=by simpa using hv
  rw[this]at D;exact(ZT D).symm
 .intro C
  have two:s.heap.objs.size=B.objs.size\/s.heap.objs.size=p:=by simpa using C
  rcases two with e|e
  .exact Zr e (Ze j)
  .exact Zr e (jM E)
 .intro b o e
  have T:=ZP e;refine⟨λC=>?_,Ze T⟩;have e':b=B.objs.size:=by simpa using C
  rw[e']at T;exact Zr j<|kC T
 .exact ⟨⟨_,ZY _ rfl,rfl,rfl⟩,(c.keeps d).isList⟩
 .obtain ⟨o,es,ep,ho,rest⟩:=J
  exact⟨o,es,ep,ZE _<|N _ _ ho,rest⟩
 .intro h' tk hd' hk'
  refine⟨Y,.ref s.heap.objs.size,_,I.laid (a:=s.heap.objs.size) (o:=.dK Z) (λb o e=>?_) (ZG _)<|Xq (by rw[<-S.1];exact f) (beq_eq_false_iff_ne.mpr<|Zs<|Ze I.big) M hd',rfl,q _<|I.hok.fresh<|ZG _⟩;have T:=ZP e;refine hk' b o (λC=>?_) (Ze T)<|d b o e;have e':b=B.objs.size:=by simpa using C
  rw[e']at T;exact Zr j<|kC T
end
end L2
namespace L2
open PySem
def S6(K:W.Frag):List V->Hp->VK->Prop:=λG H Q=>∃(p:Addr)(J:xa)(Z:xf),G=[.ref p]/\SqL K H p (J.map V.ref)/\Rc K H J Z/\(Z.map (·.1)).Nodup/\∀l,H l=none->Q (.ref l) (upd H l<|.dK Z)
def Dn(Z:X.calm=true):J1 X (.type "dict") (S6 X.K):=GJ Z
def KK.small(h:KK 30 c d G)(L:y∈G.map (·.1)):d y<=2/\c y<=30:=by
 obtain⟨s,M⟩:=Jv L;have Z:=h.at M
 cases s with
 |tags B=>obtain⟨T,R,O,J⟩:=Z;omega
 |pair a b=>obtain⟨T,R,O,J,D,N⟩:=Z;exact⟨N,J⟩
end L2
namespace L2
open PySem PySem.Spec PyProof.Rows
section
def QD{i:Nat}{Q:pV}(t:IsEnum s.heap e Z i old)(z:SI tp s.heap Z l i xs)(nl:l≠Z)(hx:xs[i]?=some x)(G:e≠Z)(hQ:∀g,IsEnumOut g e Z ((i:Int)+1) x s.heap.objs.size->SJ tp g Z l (i+1)->g.get? s.heap.objs.size=some {cls:=.type "tuple",data:=.seq #[.int i s.toks,x]}->g.objs.size=s.heap.objs.size+1->
   (∀b o,b≠e->b≠Z->s.heap.get? b=some o->g.get? b=some o)->Q (.ref s.heap.objs.size) {s with heap:=g,toks:=s.toks+1}):
  wpAny (model prog w) A (Builtin.«enumerate.__next__» ⟨[.ref e],[]⟩) (λf s'=>∃v,f=.done (.ret v)/\Q v s') E s:=by
 obtain⟨J,g,d,T,os⟩:=s;refine Zl (m:=field (.ref e) 2)<|Zo t rfl (x:=.ref Z) rfl ?_;refine Zl<|XN z nl hx λU a O=>?_;replace O:Heap.SameBut Z J U:=O;have j:IsEnum U e Z i old:=(O.2 e G).trans t;refine Zl (m:=field (.ref e) 3)<|Zo j rfl (x:=rawInt i) rfl ?_;refine Zl (m:=field (.ref e) 4)<|Zo j rfl (x:=.none) rfl ?_;refine Zl (m:=mkInt i)<|wpAny_mkInt ?_;refine Zl (m:=setField (.ref e) 3<|rawInt<|(i:Int)+1)<|jo j (by simp) λg2 P N=>?_;replace N:Heap.SameBut e U g2:=N;replace P:IsEnum g2 e Z ((i:Int)+1) old:=P;refine Zl (m:=setField (.ref e) 4 .none)<|jo P (by simp) λR X M=>?_;replace M:Heap.SameBut e g2 R:=M;replace X:IsEnum R e Z ((i:Int)+1) old:=X;refine Zl (m:=newTuple [.int i T,x])<|wpAny_newTuple ?_;have C:IsEnum (R.push {cls:=.type "tuple",data:=.seq #[.int i T,x]}) e Z ((i:Int)+1) old:=ZE _ X;generalize q4:R.push {cls:=.type "tuple",data:=.seq #[.int i T,x]}=g4 at C;have B:R.objs.size=J.objs.size:=by rw[M.1,N.1,O.1]
 have el:e<J.objs.size:=ZP t;have t4:g4.get? J.objs.size=some {cls:=.type "tuple",data:=.seq #[.int i T,x]}:=by rw[<-q4,<-B];exact ZY _ Y
 have z4:g4.objs.size=J.objs.size+1:=by rw[<-q4,jI,B]
 have k4:∀b o,b≠e->b≠Z->J.get? b=some o->g4.get? b=some o:=λb o L n k=>by
  rw[<-q4];exact ZE _<|M.extBut b o L<|N.extBut b o L<|O.extBut b o n k
 have j4:SJ tp g4 Z l (i+1):=by
  rw[<-q4];exact a.sj.to λo ho=>ZE _<|M.extBut _ o (Zs G)<|N.extBut _ o (Zs G) ho
 show wpAny _ _ (Builtin.SmallTypes.ownedTupleIsFree (.ref e) >>=_) _ _ ⟨g4,g,d,T+1,os⟩;rw[B];clear q4 X M P N j O a B R g2 U;refine Zl (m:=Builtin.SmallTypes.ownedTupleIsFree<|.ref e)<|Zl (m:=field (.ref e) 0)<|Zo C rfl (x:=.none) rfl (Zm ?_);simp only[if_true];refine Zl (qe<|Zl<|Zo C rfl (x:=old) rfl (Zl<|jo C (by simp) λc h I=>?_));replace I:Heap.SameBut e g4 c:=I;replace h:IsEnum c e Z ((i:Int)+1) x:=h;refine Zl (m:=Builtin.SmallTypes.ownedTupleHandOut (.ref e)<|.ref J.objs.size) ?_;simp only[Builtin.SmallTypes.ownedTupleHandOut];refine Zl<|jo h (by simp) λp r F=>?_;replace F:Heap.SameBut e c p:=F;replace r:IsEnumOut p e Z ((i:Int)+1) x J.objs.size:=r;refine jo r (by simp) λS u D=>?_;replace D:Heap.SameBut e p S:=D;replace u:IsEnumOut S e Z ((i:Int)+1) x J.objs.size:=u;have y:∀b o,b≠e->g4.get? b=some o->S.get? b=some o:=λb o L q=>D.extBut b o L<|F.extBut b o L<|I.extBut b o L q;refine Zl<|wpAny_letGo<|Zm ⟨_,rfl,hQ S u (j4.to λo q=>y _ o (Zs G) q) (y _ _ (jM el) t4) (by rw[D.1,F.1,I.1,z4]) λb o L n k=>y b o L<|k4 b o L n k⟩
def Px{i:Nat}(G:IsEnum s.heap e Z i old)(z:SI N s.heap Z l i M)(O:l≠Z)(R:M[i]?=some x)(J:e≠Z)(T:∀g,IsEnumOut g e Z ((i:Int)+1) x s.heap.objs.size->SJ N g Z l (i+1)->g.get? s.heap.objs.size=some {cls:=.type "tuple",data:=.seq #[.int i s.toks,x]}->g.objs.size=s.heap.objs.size+1->
   (∀b o,b≠e->b≠Z->s.heap.get? b=some o->g.get? b=some o)->Q (some<|.ref s.heap.objs.size) {s with heap:=g,toks:=s.toks+1}):wpAny (model prog w) A (pyNext<|.ref e) Q E s:=by
 have L:s.TypeIs (.ref e) "enumerate":=⟨_,G,rfl⟩;simp only[pyNext];exact Zl (qR (wpAny_callSpecial?_slot (name:=Str.ofString "__next__") L qO (jA qO L F.entry_enumerate_next
   (QD G z O R J λg a b c d k=>Zm<|T g a b c d k) (F.args_enumerate_next_1 _))))
def Ay{i:Nat}(O:A.handled=none)(J:IsEnum s.heap e Z i old)(z:SI I s.heap Z l i L)(M:L[i]?=none)(B:∀g,Heap.ExtBut Z s.heap g->Q none {s with heap:=g}):wpAny (model prog w) A (pyNext<|.ref e) Q E s:=by
 have G:s.TypeIs (.ref e) "enumerate":=⟨_,J,rfl⟩;simp only[pyNext];refine Zl<|qR<|wpAny_callSpecial?_slot (name:=Str.ofString "__next__") G qO<|jA qO G F.entry_enumerate_next ?_<|F.args_enumerate_next_1 _;refine Zl (m:=field (.ref e) 2)<|Zo J rfl (x:=.ref Z) rfl (Zl<|MF O z M λg y D ⟨o,N,R⟩=>?_);exact Zl<|qP (T:="StopIteration") (b:=true) ⟨o,N,R⟩ isSubtype_stop<|Zm<|B _ D
set_option tactic.hygienic true in
def Fc(J:Bool)(l:Addr)(N:xc):Meets (Builtin.«enumerate.__new__» ⟨[.type "enumerate",.ref l],[]⟩) (λ_ R s=>Wk J s.heap l N/\
   R (.ok<|.ret<|.ref (s.heap.push<|Jn J l).objs.size) {s with heap:=(s.heap.push<|Jn J l).push {cls:=.type "enumerate",data:=.fields #[.none,.bool false,.ref s.heap.objs.size,rawInt 0,.none,.none]}}):=
 .of_wp λO w A R s h=>by
  obtain⟨D,g,d,F,I⟩:=s;obtain⟨L,h⟩:=h;have B:=sub_enumerate;have T:Wk J (Shared.heap ⟨D,g,d,F,I⟩) l N:=L
  obtain⟨G,Z,S⟩:∃G,D.get? l=some G/\(∃E n,G.data=.seq E n):=by
   cases J with
   |false=>obtain⟨o,e,_,n,M⟩:=L;exact⟨o,e,_,n,M⟩
   |true=>obtain⟨o,e,_,n,M⟩:=L;exact⟨o,e,_,n,M⟩
  wp_walk using AutoSeq1.wpAny_loadPart' Z
  refine wpAny_stack_any λst=>Zm ?_
  split
  .rename_i c _ _ _ _ _
   cases(c==Value.type "enumerate") <;> (wp_walk using AutoSeq1.wpAny_loadPart' Z,GO T;exact⟨_,Y,h⟩)
  .wp_walk using AutoSeq1.wpAny_loadPart' Z,GO T
   exact⟨_,Y,h⟩
def QO(N:Wk Z s.heap l L)(h:∀g,IsEnum g (s.heap.objs.size+1) s.heap.objs.size 0 .none->SJ Z g s.heap.objs.size l 0->(∀c o,s.heap.get? c=some o->g.get? c=some o)->Q (.ref<|s.heap.objs.size+1) {s with heap:=g}):
  wpAny (model prog w) A (call (.type "enumerate") [.ref l]) Q E s:=by
 refine callType_new F.called_enumerate (by decide) (F.typeCall_enumerate_1 _) (F.newCall_enumerate_1 _) (λG=>F.args_object_init_2 G _) F.entry_enumerate_new (Fc Z l L) ⟨N,?_⟩;have O:(s.heap.push<|Jn Z l).objs.size=s.heap.objs.size+1:=jI ..;have J:((s.heap.push<|Jn Z l).push {cls:=.type "enumerate",data:=.fields #[.none,.bool false,.ref s.heap.objs.size,rawInt 0,.none,.none]}).get? (s.heap.push<|Jn Z l).objs.size=some _:=ZY _ rfl;have M:SJ Z ((s.heap.push<|Jn Z l).push {cls:=.type "enumerate",data:=.fields #[.none,.bool false,.ref s.heap.objs.size,rawInt 0,.none,.none]}) s.heap.objs.size l 0:=(SJ.new Z s.heap l).to λo q=>ZE _ q;show _/\_;rw[O]at J |-;exact⟨⟨_,J,Y⟩,h _ J M λc o q=>ZE _<|ZE _ q⟩
end
structure ER(h:Heap)(e it:Addr)(tp:Bool)(l:Addr)(k:Nat):Prop where
 enu:∃old,IsEnum h e it k old
 one:SJ tp h it l k
def Ite(K:W.Frag)(tp:Bool)(l:Addr):It:=
 ⟨λi H=>∃Z x,Sq K tp H l Z/\Z[i]?=some x,λi H v J=>∃r x,v=.ref r/\H r=none/\J=upd H r (.tup [.int (i:Nat),x])/\∀Z,Sq K tp H l Z->Z[i]?=some x,λi H=>∃Z,Sq K tp H l Z/\Z.length<=i⟩
def Oi{P:Program}{w:World}{K:W.Frag}{O:xv}{x1}{Q:Pos}{e G l:Addr}{a:Bool}(n1:e≠G)(n2:l≠G):Turn P w K (.Tuple O x1 Q) (Ite K a l) [e,G] e (λi h=>ER h e G a l i) where
 mem:=by simp
 obj:=λi h st b Z=>by
  have q:b=e\/b=G:=by simpa using Z
  rcases q with q|q <;> rw[q]
  .obtain ⟨L,N⟩:=st.enu
   exact⟨_,N,λv e=>nomatch e⟩
  .exact st.one.obj
 keep:=λi h h' st k=>⟨let⟨L,N⟩:=st.enu;⟨L,k e (by simp) _ N⟩,st.one.to λo q=>k G (by simp) o q⟩
 item:=by
  intro X r c n hc i J s U H E I M st u;subst r c n;obtain⟨xs,x,T,hx⟩:=u;obtain⟨p,C,D⟩:=I.sq T;obtain⟨F,d,S⟩:=C.get hx;obtain⟨L,B⟩:=st.enu;have R:e<s.heap.objs.size:=ZP B;refine Px B (st.one.si D) n2 (x:=F) (by simpa using d) n1 λg ho hj ht sz m=>?_;have t:∀b o,b ∉ [e,G]->s.heap.get? b=some o->g.get? b=some o:=λb o Z q=>m b o (λz=>Z<|by simp[z]) (λz=>Z<|by simp[z]) q;have I1:Inv X J U H {s with heap:=g,toks:=s.toks+1}:=I.turnedL (t':=s.toks+1) t M;have f:H s.heap.objs.size=none:=I.hok.fresh<|ZG _;exists _,Y;refine wpAny_letOwnedTupleGo_enum (s:={s with heap:=g,toks:=s.toks+1}) ho λg2 e2 A=>?_
  have I2:Inv X J U H {s with heap:=g2,toks:=s.toks+1}:=I1.turnedL (s:={s with heap:=g,toks:=s.toks+1}) (t':=s.toks+1) (ch:=[e]) (λb o Z q=>A.extBut b o (λz=>Z<|by simp[z]) q) λb Z=>by
   have q:b=e:=by simpa using Z
   rw[q];exact M e<|by simp
  have j:g2.get? s.heap.objs.size=some {cls:=.type "tuple",data:=.seq #[.int i s.toks,F]}:=A.extBut _ _ (jM R) ht;have I3:Inv X J U (upd H s.heap.objs.size<|.tup [.int (i:Nat),x]) {s with heap:=g2,toks:=s.toks+1}:=I2.retrack f (I.fpOk (ZG _) f) ⟨sl 2,[.int i s.toks,F],.cons ⟨_,rfl⟩<|.cons S .nil,⟨_,j,rfl,rfl,_,rfl⟩⟩
  have y:∀b∈ [e,G],b<s.heap.objs.size:=λb Z=>by
   have q:b=e\/b=G:=by simpa using Z
   rcases q with q|q <;> rw[q]
   .exact R
   .obtain ⟨o,q,_⟩:=st.one.obj
    exact ZP q
  refine⟨.ref s.heap.objs.size,_,I3,Y,⟨_,x,Y,f,Y,λzs h=>by rw[I.sq_inj h T];exact hx⟩,?_,λb Z=>?_⟩
  .exact ⟨⟨_,e2⟩,hj.to λo q=>A.extBut _ o (Zs n1) q⟩
  .rw [Yg (Ze<|y b Z)]
   exact(M b Z).1
 done:=by
  intro X r c n hc i J s U H E I M st u;subst r c n;obtain⟨xs,T,J2⟩:=u;obtain⟨p,C,D⟩:=I.sq T;have e1:=C.length;obtain⟨L,B⟩:=st.enu;refine Ay (I.ok.hd hc) B (st.one.si D) (by simp;omega) λg m=>⟨Y,?_⟩
  exact I.turnedL (t':=s.toks) (ch:=[G]) (λb o Z q=>m b o (λz=>Z<|by simp[z]) q) λb Z=>M b (by
   have q:b=G:=by simpa using Z
   rw[q];simp)
 self:=λ_ _ _ _ _ st h=>let⟨_,N⟩:=st.enu;wpAny_pyIter_enum N h
def Dq:bootBuiltins "enumerate"=some (.type "enumerate"):=by decide +kernel
def zm(K:W.Frag)(ta:TA):TI:=λU H R=>ta U H λL J=>∃a Z G,L=[.ref a]/\Sq K Z J a G/\R (Ite K Z a) J
def Xz(j:Gl X "enumerate")(P:X.mg "enumerate"=none)(t:PA X [a] ta)(C:starEach [a] X.env=[(false,eval a X.env)]:=by rfl):PI X (.Tuple elts x1 tpos) (.Call (.Name "enumerate" p) [a] [] pos) (zm X.K ta):=by
 intro J s U H R I h;refine Call_ (U9 I j P Dq<|jG (thn (t pos J s U H _ I h) λd Z ⟨c,T,L,E,M⟩=>?_) (by rw[C];rfl)<|by rfl);obtain⟨l,f,k,e,M,q⟩:=M;subst e;obtain⟨u,rfl,B⟩:=vals1 E;cases B;obtain⟨S,D,N⟩:=L.sq M;have F:=N.lt;refine QO N λg O Q A=>?_;refine wpAny_pyIter_enum (s:={Z with heap:=g}) O ?_;have m:Inv X J U T {Z with heap:=g}:=L.kept (t':=Z.toks) A;refine⟨_,[Z.heap.objs.size+1,Z.heap.objs.size],_,_,T,Y,m,Oi (Nat.succ_ne_self _)<|Ze F,⟨⟨_,O⟩,Q⟩,λb y=>?_,q⟩
 have G:Z.heap.objs.size<=b:=by
  have z:b=Z.heap.objs.size+1\/b=Z.heap.objs.size:=by simpa using y
  rcases z with z|z <;> rw[z] <;> first|exact ZG _|exact jy _ _
 exact L.fpOk G<|L.hok.fresh G
end L2
namespace L2
open PySem PySem.Spec PyProof.Rows PySem.W PySem.Calls
end L2
namespace L2
open PySem PySem.Spec PyProof.Rows PySem.MeetsSeq
section
def Do:J1 X (.type "dict") (λL H Q=>∃a Z,L=[.ref a]/\H a=some (.dK Z)/\∀l,H l=none->Q (.ref l) (upd H l<|.dK Z)):=by
 intro N s U H L F Q I r h;obtain⟨a,Z,rfl,D,q⟩:=h;obtain⟨u,rfl,T⟩:=vals1 r;cases T;obtain⟨O,B,E,M,hd⟩:=El I.hok D;have J:=M.length;refine kt_call_dict (knd:=VA X.prog X.w) B hd (by rw[<-J];exact O) λA G R=>?_;refine⟨.ref s.heap.objs.size,_,I.laid (a:=s.heap.objs.size) (o:=.dK Z) (λb o e=>?_) (ZG _)<|Xq O (beq_eq_false_iff_ne.mpr<|Zs<|Ze I.big) M G,rfl,q _<|I.hok.fresh<|ZG _⟩;exact(R.2 b<|Ze<|ZP e).trans<|ZE _ e
end
end L2
namespace L2
open PySem PySem.Spec PyProof.Rows
def Its(x:Str):It:=⟨λi _=>i<x.cps.size,λi H v Z=>Z=H/\∃c,x.cps[i]?=some c/\v=.str ⟨#[c]⟩,λi _=>x.cps.size<=i⟩
def SIt(it:Addr)(x:Str)(i:Nat)(h:Heap):Prop:=∃ty t,(ty="str_ascii_iterator" \/ ty="str_iterator")/\h.IsStrIter it ty x t i
def Ll(h:Q () s):wpAny M A (letOwnedTupleGo tg Z<|.str y t) Q E s:=by
 unfold letOwnedTupleGo;cases tg <;> cases Z <;> exact Zm h
def IH{P:Program}{w:World}{K:W.Frag}{a:Expr}(J:Addr)(x:Str):Turn P w K a (Its x) [J] J (SIt J x) where
 mem:=by simp
 obj:=λi h ⟨ty,t,_,o,p,_,hd⟩ b N=>by
  cases ZQ.mp N;exact⟨o,p,λv z=>by rw[hd]at z;cases z⟩
 keep:=λi h M ⟨ty,t,Z,o,p,r⟩ k=>⟨ty,t,Z,o,k J (by simp) o p,r⟩
 item:=by
  intro X d g f D i O s U H E I S ⟨ty,t,Z,st⟩ A;subst d g f;obtain⟨m,q,_,j,Q,C⟩:=S J (by simp);have F:∀(v:Value)(M:Heap)(R:Nat),SignAt x i v->SIt J x (i+1) M->(∀b o,b ∉ [J]->s.heap.get? b=some o->M.get? b=some o)->
    (∃u,some v=some u/\wpAny (model X.prog X.w) X.A (letOwnedTupleGo a (.ref J) u) (λ_ s2=>∃y n,Inv X O U n s2/\RelV y u/\(Its x).yld i H y n/\SIt J x (i+1) s2.heap/\∀b∈ [J],n b=none) E {s with heap:=M,toks:=R}):=λv M R B G T=>by
   obtain⟨c,u,hx,rfl⟩:=B;exact⟨_,Y,Ll ⟨.str ⟨#[c]⟩,H,I.turned (λb o N e=>T b o (by simpa using N) e) m q j Q C,⟨_,Y⟩,⟨Y,c,hx,Y⟩,G,λb N=>(S b N).1⟩⟩
  rcases Z with rfl|rfl
  .exact (Walks.strAscii (I.ok.hd D) J x t).item i s _ _ A st λv M R B G T=>F v M R B ⟨_,t,.inl rfl,G⟩ T
  .exact (Walks.strWide (I.ok.hd D) J x t).item i s _ _ A st λv M R B G T=>F v M R B ⟨_,t,.inr rfl,G⟩ T
 done:=by
  intro X d g f D i O s U H E I S ⟨ty,t,Z,st⟩ A;subst d g f;obtain⟨m,q,_,j,Q,C⟩:=S J<|by simp
  have L:x.cps[i]?=none:=by
   have z:x.cps.size<=i:=A;simp[z]
  rcases Z with rfl|rfl
  .exact wpAny_pyNext_ascii_end (I.ok.hd D) st L λM l=>⟨rfl,I.turned (t':=s.toks) (λb o N e=>l b o N e) m q j Q C⟩
  .exact wpAny_pyNext_wide_end (I.ok.hd D) st L λM l=>⟨rfl,I.turned (t':=s.toks) (λb o N e=>l b o N e) m q j Q C⟩
 self:=λ_ _ _ _ _ ⟨ty,t,Z,st⟩ h=>by
  rcases Z with rfl|rfl
  .exact wpAny_pyIter_striter_ascii st h
  .exact wpAny_pyIter_striter_wide st h
section
def vT(tl:TE):TI:=λU H R=>tl U H λv Z=>∃x,v=.str x/\R (Its x) Z
def AA(O:PE X l tl):PI X tg l (vT tl):=by
 intro Z s U H R I h;refine thn (O Z s U H _ I h) λv J ⟨y,M,L,N,x,e,q⟩=>?_;subst e;obtain⟨t,rfl⟩:=N
 have B:∀b∈ [J.heap.objs.size],UN X Z M b:=λb T=>by
  cases ZQ.mp T;exact L.fpOk (ZG _)<|L.hok.fresh<|ZG _
 have go:∀(ty:String),(ty="str_ascii_iterator" \/ ty="str_iterator")->PIE X Z U tg R (.ref J.heap.objs.size) {J with heap:=J.heap.push {cls:=.type ty,data:=.fields #[.str x t,.int 0 0]}}:=λty G=>
  ⟨_,[J.heap.objs.size],_,_,M,rfl,L.kept (t':=J.toks) λb o e=>ZE _ e,IH _ x,⟨ty,t,G,_,ZY _ rfl,rfl,rfl⟩,B,q⟩
 cases ha:x.cps.all (λc=>c<128)
 .exact wpAny_pyIter_wide ha (go _<|.inr rfl)
 .exact wpAny_pyIter_ascii ha (go _<|.inl rfl)
end
def VQ.dk_ex(x:VQ P w H h d (.dK Z)):∃u,h.get? d=some u:=let⟨_,_,_,_,o,_,_,e,_⟩:=x;⟨o,e⟩
def epO(o:Obj):Nat:=match o.data with|.dict _ ep=>ep|_=>0
section
def Inv.freeze(I:Inv X G U H s)(hd:H d=some (.dK Z))(O:s.heap.get? d=some o):Inv X G U (upd H d<|.frz o<|.dK Z) s:=by
 have L:∀b u,H b=some u->(∀l,u≠.dK l)->b≠d:=λb u e n z=>by subst z;rw[hd]at e;cases e;exact n Z Y
 have N:∀b,H b=none->b≠d:=λb e z=>by subst z;rw[hd]at e;cases e
 have J:=I.un (H':=upd H d<|.frz o<|.dK Z) (h':=s.heap) (t':=s.toks)
  ⟨λb u q _ _ _=>q,λb u q _ _ _=>⟨u.slots,q⟩,λb u q n _=>by rw[Yg (N b n)];exact n,λb u q _=>⟨u,q⟩,λb M q=>by rw[Yg (L b _ q (λl=>by intro z;cases z))];exact q,
   λb u v q=>by rw[Yg (L b _ q (λl=>by intro z;cases z))];exact q,λb R q=>⟨#[],by rw[Yg (L b _ q (λl=>by intro z;cases z)),q];simp⟩⟩ ?_
 .exact J
 .intro a u e
  by_cases z:a=d
  .subst z
   rw[Yf]at e;cases e;exact⟨O,I.hok a _ hd⟩
  .rw [Yg z]at e
   exact(I.hok a u e).stay (λb v _ q=>q) (λb q=>by rw[Yg (L b _ q (λl=>by intro z;cases z))];exact q) λb M q=>by rw[Yg (L b _ q (λl=>by intro z;cases z))];exact q
end
def Itd(d:Addr)(o:Obj)(kvs:xf):It:=
 ⟨λi H=>H d=some (.frz o<|.dK kvs)/\i<kvs.length,λi H x J=>J=H/\∃Z,kvs[i]?=some Z/\x=kV Z.1,λi H=>H d=some (.frz o<|.dK kvs)/\kvs.length=i⟩
def P2(h:V1 k v=true):RelV (kV k) v:=by
 rcases VP h with⟨i,t,rfl,rfl⟩|⟨x,t,rfl,rfl⟩
 .exact ⟨t,rfl⟩
 .exact ⟨t,rfl⟩
def Ao(J:V1 k v=true)(h:Q () s):wpAny M A (letOwnedTupleGo tg Z v) Q E s:=by
 rcases VP J with⟨i,t,rfl,rfl⟩|⟨x,t,rfl,rfl⟩
 .unfold letOwnedTupleGo
  cases tg <;> cases Z <;> exact Zm h
 .exact Ll h
section
def Inv.dict_at(I:Inv X M U H s)(hd:H d=some (.frz o<|.dK Z)):∃G,s.heap.DictAt (VA X.prog X.w) d G (epO o)/\KV Z G/\(d==sysModules)=false:=by
 obtain⟨N,_,B,G,O,F,D,E,J,T,L,R⟩:=(show VQ X.prog X.w H s.heap d (.frz o<|.dK Z)from I.hok d _ hd);rw[N]at J;cases J;have e:epO o=E:=by unfold epO;rw[L]
 exact⟨G,⟨o,D,N,T,by rw[e];exact L,R⟩,O,B⟩
end
def DL{Z:List (κ×V)}{J:List (κ×Value)}(r:KV Z J):Z.length=J.length:=Paired.length r
theorem LO:∀{Z:List (κ×V)}{J:List (κ×Value)}(i:Nat)(k:κ)(u:Value),KV Z J->J[i]?=some (k,u)->∃v,Z[i]?=some (k,v)
 |_,_,i,k,u,.nil,e=>by simp at e
 |_,_,0,k,u,.cons (a:=p) (b:=q) r _,e=>by
  have L:some q=some (k,u):=e;cases L;obtain⟨G,v⟩:=p;have z:G=k:=r.1;subst z;exact⟨v,Y⟩
 |_,_,i+1,k,u,.cons _ t,e=>LO i k u t e
def E4{P:Program}{w:World}{K:W.Frag}{a:Expr}(M d:Addr)(o:Obj)(Z:xf):Turn P w K a (Itd d o Z) [M] M (λi h=>h.IsKeyIter M d i Z.length<|epO o) where
 mem:=by simp
 obj:=λi h ⟨D,Q,_,hd⟩ b G=>by
  cases ZQ.mp G;exact⟨D,Q,λv z=>by rw[hd]at z;cases z⟩
 keep:=λi h n ⟨D,Q,r⟩ k=>⟨D,k M (by simp) D Q,r⟩
 item:=by
  intro X y C q l i R s U H E I A st T;subst y C q;obtain⟨c,p,_,g,m,t⟩:=A M (by simp);obtain⟨N,L,B,_⟩:=I.dict_at T.1;have F:=DL B;rw[F]at st;have u:i<N.length:=by have z:i<Z.length:=T.2;omega
  have f:N[i]?=some (N[i].1,N[i].2):=ZD u;obtain⟨v',j⟩:=LO i _ _ B f;refine wpAny_pyNext_dict_item st L f λS n J O x=>?_;rw[<-F]at O;exact⟨S,Y,Ao J ⟨_,H,I.turned (t':=s.toks) (λb o G e=>(x.2 b G).trans e) c p g m t,P2 J,⟨Y,_,j,Y⟩,O,λb G=>(A b G).1⟩⟩
 done:=by
  intro X y C q l i R s U H E I A st T;subst y C q;obtain⟨c,p,_,g,m,t⟩:=A M (by simp);obtain⟨N,L,B,_⟩:=I.dict_at T.1;have F:=DL B;rw[F]at st;have u:Z.length=i:=T.2;exact wpAny_pyNext_dict_end (I.ok.hd l) st L (qU.mpr<|by omega) λn eb=>⟨rfl,I.turned (t':=s.toks) (λb o G e=>eb b o G e) c p g m t⟩
 self:=λ_ _ _ _ _ st h=>wpAny_pyIter_keyiter st h
section
def zn(tl:TE):TI:=λU H R=>tl U H λv J=>∃d Z,v=.ref d/\J d=some (.dK Z)/\∀o,R (Itd d o Z)<|upd J d<|.frz o<|.dK Z
def PN(E:PE X l tl):PI X tg l (zn tl):=by
 intro Z s U H R I h;refine thn (E Z s U H _ I h) λv L ⟨y,A,N,T,d,G,e,hd,q⟩=>?_;subst e;cases T;obtain⟨o,B⟩:=(show VQ X.prog X.w A L.heap d (.dK G)from N.hok d _ hd).dk_ex;have J:=N.freeze hd B;obtain⟨S,M,O,D⟩:=J.dict_at Yf;refine wpAny_pyIter_dict D M ?_;rw[<-DL O];refine⟨_,[L.heap.objs.size],_,_,_,Y,J.kept (t':=L.toks) λb o e=>ZE _ e,E4 _ d o G,⟨_,ZY _ Y,Y,Y⟩,λb F=>?_,q o⟩;cases ZQ.mp F;exact J.fpOk (ZG _)<|J.hok.fresh<|ZG _
def JU{st:Stmt}:PS X st (λ_ _ _=>False):=λ_ _ _ _ _ _ h=>h.elim
end
end L2
namespace L2
open PySem
inductive Bd where
 |tag (t:Str)|name (x:Str)|pair (a b:Bd)|one (e:Bd)|other (e:Bd)
 |choose (e:Bd) (ts:List Str) (bs:List Bd)|ask (f:Str) (as:List Bd)|letb (x k:Str) (e b:Bd)
mutual
def Bd.dat:Bd->Dat
 |.tag t=>.tup [.str "tag",.str t]
 |.name x=>.tup [.str "name",.str x]
 |.pair a b=>.tup [.str "pair",a.dat,b.dat]
 |.one e=>.tup [.str "one",e.dat]
 |.other e=>.tup [.str "other",e.dat]
 |.choose e ts bs=>.tup [.str "choose",e.dat,.tup (Bd.brs bs ts)]
 |.ask f as=>.tup [.str "ask",.str f,.tup (Bd.dats as)]
 |.letb x k e b=>.tup [.str "let",.str x,.str k,e.dat,b.dat]
def Bd.dats:List Bd->List Dat
 |[]=>[]
 |b::bs=>b.dat::Bd.dats bs
def Bd.brs:List Bd->List Str->List Dat
 |[],_=>[]
 |b::bs,t::ts=>.tup [.str t,b.dat]::Bd.brs bs ts
 |_::_,[]=>[]
end
def Bd.parts:Bd->List Bd
 |.tag _=>[]
 |.name _=>[]
 |.pair a b=>[a,b]
 |.one e=>[e]
 |.other e=>[e]
 |.choose e _ bs=>e::bs
 |.ask _ as=>as
 |.letb _ _ e b=>[e,b]
end L2
namespace L2
open PySem PySem.W PyProof.Rows
end L2
namespace L2
open PySem PySem.Spec PyProof.Rows
def L6:typeLookup (.type "tuple") (Str.ofString "keys")=pure none:=pD<|by decide +kernel
section
def L7(B:GL s.heap a G)(U:A.handled=none)(h:∀L M,(∀b o,s.heap.get? b=some o->L.get? b=some o)->Q none {s with heap:=L,toks:=M}):
  wpAny (model prog w) A (getAttr? (.ref a)<|Str.ofString "keys") Q E s:=by
 obtain⟨⟨c,j,y,sl⟩,N,hd,O,k,hdat⟩:=B;simp only at O hdat hd;subst O hdat hd;obtain⟨C,X,P,M,D⟩:=s;have Z:=F.slot_tuple_getattribute;have S:=Z.lookup;have z:=Z.bind<|.ref a;have I:=am_tuple_getattr_none;have q:=sub_AttributeError;have R:∀n,(Shared.mk C X P n D).TypeIs (.ref a) "tuple":=λn=>⟨_,N,rfl⟩;simp only[getAttr?,getAttrBy?,getAttrBy]
 repeat (any_goals (first|assumption|exact R _|((with_reducible show wpAny _ _ (call (Value.builtin "tuple.__getattribute__") _ _) _ _ _);refine call_meets F.slot_tuple_getattribute (R _) am_entry_tuple_getattribute (F.args_tuple_getattribute_2 _ _) (meets_getattribute_miss_tuple a G k sl (Str.ofString "keys") _ L6 (by decide +kernel)<|by size_fits) ⟨N,U,λL T e J=>?_⟩)|wp_step))
 have there:=J.there;obtain⟨_,_,t⟩:=there;refine(?_:wpAny _ _ (getattributeRaised _ _ _ _ _ _ _) _ _ _);simp only[getattributeRaised]
 repeat any_goals first|assumption|wp_step
 exact h _ _ J.keeps
end
section
def Wy(hc:X.calm=true):J1 X (.type "dict") (λxs H Q=>∃(p:Addr)(L:xa)(Z:xf),xs=[.ref p]/\H p=some (.tup<|L.map V.ref)/\Rc X.K H L Z/\(Z.map (·.1)).Nodup/\∀l,H l=none->Q (.ref l) (upd H l<|.dK Z)):=by
 intro G3 s U H xs us Q I r h;obtain⟨p,L,Z,rfl,x,C,hn,q⟩:=h;obtain⟨u,rfl,c⟩:=vals1 r;cases c;obtain⟨w,G,r',d⟩:=(show VQ X.prog X.w H s.heap p (.tup<|L.map V.ref)from I.hok p _ x);rw[ZA]at w
 have j:G.length=L.length:=by
  have:=r'.length;rw[ZA]at this;exact this.symm
 have G1:∀(i:Nat)(a:Addr),L[i]?=some a->G[i]?=some (Value.ref a):=λi a e=>by
  obtain⟨u,hu,c⟩:=r'.get (show(L.map V.ref)[i]?=some (V.ref a) by rw[ZH,e];rfl);rw[hu,show u=Value.ref a from c]
 obtain⟨vs,M,n⟩:=G7 s.heap L Z C.1 λi a k y e1 e2=>by
  obtain⟨M2,r2,p2,_⟩:=I.tuple<|C.2 i a k y e1 e2
  cases r2 with
  |cons r1 t1=>
   cases t1 with
   |cons r3 t3=>
    cases t3;exact⟨_,_,p2,r1,r3⟩
 have J2:vs.length=G.toArray.size:=by rw[ZO,j,C.1,<-M.length]
 have B:vs.map (·.1)=Z.map (·.1):=by
  have G2:∀{l:xf}{m:List (Key×Value)},KV l m->m.map (·.1)=l.map (·.1):=by
   intro l m q
   induction q with
   |nil=>rfl
   |cons x t ih=>rw[ZV,ZV,ih,x.1]
  exact G2 M
 have S:p<s.heap.objs.size:=by
  obtain⟨o,e,_⟩:=d;exact ZP e
 refine callType_codes (Q₁:=λob t=>ob=.ref s.heap.objs.size/\t={s with heap:=s.heap.push {cls:=.type "dict",data:=.dict #[]}}) F.kt_called_dict (pN _) F.entry_dict_init (kt_code_dict_new _ ⟨Y,Y⟩) λob t g=>?_;obtain⟨rfl,rfl⟩:=g;have J:(s.heap.push {cls:=.type "dict",data:=.dict #[]}).DictOf (VA X.prog X.w) s.heap.objs.size []:=Heap.DictOf.new s.heap;have k0:∀b o,s.heap.get? b=some o->(s.heap.push {cls:=.type "dict",data:=.dict #[]}).get? b=some o:=λb o e=>ZE _ e;refine And.intro J.typeIs<|And.intro (F.args_dict_init_2 _ _) ?_;delta Builtin.«dict.__init__» Builtin.Dict.selfAndRest;refine Zl<|Zl<|pG J.typeIs<|Zm (?_:wpAny _ _ (Builtin.Dict.updateFrom "dict.__init__" s.heap.objs.size (.ref p) [] .none) _ _ _);delta Builtin.Dict.updateFrom;have R:=d.keeps k0;refine Zl<|kq (T:="tuple") (show Shared.TypeIs _ _ _ from let⟨o,O,_,h2,_⟩:=R;⟨o,O,h2⟩) ?_;rw[Zp (by decide)];refine Zl<|L7 R (I.ok.hd hc) λO O1 N=>?_;simp only[pH,if_true];refine Zl<|qe ?_;refine Zl<|wpAny_pyIter_tuple (show Heap.IsTuple _ _ _ from(R.keeps N).is) ?_
 have z:s.heap.objs.size<O.objs.size:=by
  obtain⟨o,es,ep,ho,_⟩:=J;exact ZP<|N _ _ ho
 have f:∀b o,s.heap.get? b=some o->(O.push {cls:=.type "tuple_iterator",data:=.fields #[.ref p,.int 0 0]}).get? b=some o:=λb o e=>ZE _<|N b o<|k0 b o e;refine Zm ⟨kS Jq _,Ek (Walks.tuple (A:=X.A.in1.in1) (I.ok.hd hc) O.objs.size p (Ze<|kI S z) G.toArray) (h₀:=s.heap) (vs:=vs) J2 (by rw[<-M.length,<-C.1];exact w) (by rw[B];exact hn) ?_ s.heap.objs.size ?_ ?_ .none _ 0 _ 0 0 rfl (Zc _) ?_ ?_ f ?_⟩
 .intro i v hv
  have hi:i<G.length:=by
   have:=(Array.getElem?_eq_some_iff.mp hv).1
   rwa [ZO]at this
  have g:i<L.length:=by omega
  obtain⟨k,ku,vu,e1,e2,e3⟩:=n i L[i]<|ZD g;refine⟨L[i],k,ku,vu,?_,e1,e2,XA e3⟩;have:=G1 i L[i]<|ZD g;have E:G[i]?=some v:=by simpa using hv
  rw[this]at E;exact(ZT E).symm
 .intro P
  have two:s.heap.objs.size=O.objs.size\/s.heap.objs.size=p:=by simpa using P
  rcases two with e|e
  .exact Zr e (Ze z)
  .exact Zr e (jM S)
 .intro b o e
  have D:=ZP e;refine⟨λP=>?_,Ze D⟩;have e':b=O.objs.size:=by simpa using P
  rw[e']at D;exact Zr z<|kC D
 .exact ⟨⟨_,ZY _ rfl,rfl,rfl⟩,(show Heap.IsTuple _ _ _ from(d.keeps f).is)⟩
 .obtain ⟨o,es,ep,ho,rest⟩:=J
  exact⟨o,es,ep,ZE _<|N _ _ ho,rest⟩
 .intro h' tk hd' hk'
  refine⟨Y,.ref s.heap.objs.size,_,I.laid (a:=s.heap.objs.size) (o:=.dK Z) (λb o e=>?_) (ZG _)<|Xq (by rw[<-C.1];exact w) (beq_eq_false_iff_ne.mpr<|Zs<|Ze I.big) M hd',rfl,q _<|I.hok.fresh<|ZG _⟩;have D:=ZP e;refine hk' b o (λP=>?_) (Ze D)<|f b o e;have e':b=O.objs.size:=by simpa using P
  rw[e']at D;exact Zr z<|kC D
end
end L2
namespace L2
open PySem
def Yr(h:Has H v (.tup J)):∃p Z,v=.ref p/\H p=some (.tup Z)/\HasL H Z J:=by unfold Has at h;exact h
def Yu(h:H p=some (.tup xs))(t:HasL H xs Z):Has H (.ref p) (.tup Z):=by unfold Has;exact⟨p,xs,Y,h,t⟩
def has_str(h:Has H v (.str x)):v=.str x:=by unfold Has at h;exact h
def Yy:Has H (.str x) (.str x):=by unfold Has;rfl
def Yc(h:HasL H Z (d::J)):∃x r,Z=x::r/\Has H x d/\HasL H r J:=by
 match Z,h with
 |[],h=>unfold HasL at h;exact h.elim
 |x::r,h=>unfold HasL at h;exact⟨x,r,Y,h.1,h.2⟩
def VB(h:HasL H Z []):Z=[]:=by
 match Z,h with
 |[],_=>rfl
 |_::_,h=>unfold HasL at h;exact h.elim
theorem Bd.dats_map:∀Z:List Bd,Bd.dats Z=Z.map Bd.dat
 |[]=>by unfold Bd.dats;rfl
 |b::Z=>by unfold Bd.dats;rw[Bd.dats_map Z];rfl
abbrev Z9:=@Bd.dats_map
theorem Bd.brs_len:∀{bs:List Bd}{ts:pX},bs.length=ts.length->(Bd.brs bs ts).length=ts.length
 |[],[],_=>by unfold Bd.brs;rfl
 |[],_::_,e=>by simp at e
 |_::_,[],e=>by simp at e
 |b::bs,t::ts,e=>by
  unfold Bd.brs;rw[Zf,Bd.brs_len<|by simpa using e,Zf]
theorem Bd.brs_get:∀{bs:List Bd}{ts:pX}{j:Nat}{d:Dat},(Bd.brs bs ts)[j]?=some d->∃b t,bs[j]?=some b/\ts[j]?=some t/\d=.tup [.str t,b.dat]
 |[],ts,j,d,e=>by unfold Bd.brs at e;simp at e
 |_::_,[],j,d,e=>by unfold Bd.brs at e;simp at e
 |b::bs,t::ts,0,d,e=>by
  unfold Bd.brs at e;have Z:some _=some d:=e;cases Z;exact⟨b,t,Y,Y,Y⟩
 |b::bs,t::ts,j+1,d,e=>by
  unfold Bd.brs at e;exact Bd.brs_get (bs:=bs) (ts:=ts) (j:=j) e
mutual
def Bd.ok:Bd->Prop
 |.tag _=>True
 |.name _=>True
 |.pair a b=>a.ok/\b.ok
 |.one e=>e.ok
 |.other e=>e.ok
 |.choose e ts bs=>e.ok/\bs.length=ts.length/\(1<=ts.length/\ts.length<=7)/\Bd.oks bs
 |.ask _ as=>as.length<=6/\Bd.oks as
 |.letb _ _ e b=>e.ok/\b.ok
def Bd.oks:List Bd->Prop
 |[]=>True
 |b::bs=>b.ok/\Bd.oks bs
end
theorem Bd.oks_mem:∀{Z:List Bd}{b:Bd},Bd.oks Z->b∈Z->b.ok
 |[],_,_,h=>nomatch h
 |c::Z,b,w,h=>by
  unfold Bd.oks at w;rcases Zd.mp h with rfl|h
  .exact w.1
  .exact Bd.oks_mem w.2 h
def Bd.ok_parts{b:Bd}(h:b.ok):∀c∈b.parts,c.ok:=by
 intro c Z
 cases b with
 |tag t=>cases Z
 |name x=>cases Z
 |pair a e=>
  unfold Bd.ok at h;simp only[Bd.parts,Zd,pS,or_false]at Z;rcases Z with rfl|rfl
  .exact h.1
  .exact h.2
 |one e=>unfold Bd.ok at h;simp only[Bd.parts,ZQ]at Z;rw[Z];exact h
 |other e=>unfold Bd.ok at h;simp only[Bd.parts,ZQ]at Z;rw[Z];exact h
 |choose e J G=>
  unfold Bd.ok at h;simp only[Bd.parts,Zd]at Z;rcases Z with rfl|Z
  .exact h.1
  .exact Bd.oks_mem h.2.2.2 Z
 |ask f L=>unfold Bd.ok at h;exact Bd.oks_mem h.2 Z
 |letb x k e g=>
  unfold Bd.ok at h;simp only[Bd.parts,Zd,pS,or_false]at Z;rcases Z with rfl|rfl
  .exact h.1
  .exact h.2
def Bd.few{b:Bd}(h:b.ok):b.parts.length<=8:=by
 cases b <;> (try (simp[Bd.parts];done)) <;> (unfold Bd.ok at h;simp only[Bd.parts,Zf,kM];omega)
end L2
namespace K4
open PySem L2
def EG:Yh ["body","word"] ["body"] (Yd BW):=Y2
def Qj:List.Nodup [("tag":Str),"branch"]:=by decide +kernel
section
def Xt:Sp:=λJ H Q _=>∃(v:V)(b:Bd),J=[v]/\Has H v b.dat/\b.ok/\∀u Z,Same H Z->Has Z u (.tup<|Bd.dats b.parts)->Q u Z
def ok_parts(B:Blt mg)(F:Fun K "parts" "parts" BW f fd):Ye P w K mg base CX0 (n+1) f fd ["body"] Xt:=by
 refine F.oq EG λR8 A G2 s H I Q E hr h=>?_;obtain⟨v,b,rfl,O,ok,q⟩:=h;refine⟨_,YY (Y0 1 EG.nd<|Ym Yq (pv 0) Ya)
  (YY (Y4 (Ys XQ (pv 1) (Yi<|pa2 Yp Yp)<|by rfl) (YZ<|Yj<|Yi Vj) Yo)
  (YY (Y4 (Ys Vi (pv 1) Yp<|Yz _) (YZ (Yj (Y9 MY (Yi<|pa1<|Ym Yq (pv 0) Ya) (VW V3 rfl B.tuple Vm (pa1 (JO ["tag","branch"] [] (UH<|Ym Yq (pv 0) Ya) TR (λcl C fp s H=>VU (n:=2) rfl (Yk (Yl 0 Qj rfl (Or.inl rfl) (Or.inr rfl))<|Yk (Yl 1 Qj rfl (Or.inl rfl) (Or.inr rfl)) VJ))
     (λcl C fp s H=>pv 1))))))) Yo)
  (YY (Y4 (Ys Vi (pv 1) Yp<|Yz _) (YZ<|Yj<|Ym Yq (pv 0) Ya) Yo)
  (YY (Y4 (Ys Vi (pv 1) Yp<|Yz _) (YZ<|Yj<|Vs Ie (pv 0) (V6 Ya) JM) Yo)
  (YZ<|Yj<|Vs Ie (pv 0) (V6 Ya) JM))))),?_⟩
 show let a:=_;let b:=_;let c:=Yn (VH _ b _) a;let d:=_;let e:=Yn (VH _ d _) c;let f:=_;let g:=Yn (VH _ f _) e;let h:=_;let i:=Yn (VH _ h _) g;Yn _ i _ _ _
 intros
 cases b with
 |tag t=>
  unfold Bd.dat at O;obtain⟨p,xs,rfl,M,T⟩:=Yr O;obtain⟨r,m,rfl,D,G⟩:=Yc T;obtain rfl:=has_str D;exists _,_,Z2 M,VE (j:=0) Y;refine⟨sl 2,λN J=>?_⟩;refine⟨N,_,Y,.inr<|Z2 Yf,rfl,rfl,_,rfl,VI (by decide +kernel) ?_⟩;exact⟨sl 0,λu Z=>q _ _ ((Yv J _).trans<|Yv Z _)<|Yu Yf (by simp only[Bd.parts,Bd.dats];exact Z6)⟩
 |name x=>
  unfold Bd.dat at O;obtain⟨p,xs,rfl,M,T⟩:=Yr O;obtain⟨r,m,rfl,D,G⟩:=Yc T;obtain rfl:=has_str D;exists _,_,Z2 M,VE (j:=0) Y;refine⟨sl 2,λN J=>?_⟩;refine⟨N,_,Y,.inr<|Z2 Yf,rfl,rfl,_,rfl,VI (by decide +kernel) ?_⟩;exact⟨sl 0,λu Z=>q _ _ ((Yv J _).trans<|Yv Z _)<|Yu Yf (by simp only[Bd.parts,Bd.dats];exact Z6)⟩
 |pair a e=>
  unfold Bd.dat at O;obtain⟨p,xs,rfl,M,T⟩:=Yr O;obtain⟨r,m,rfl,D,G⟩:=Yc T;obtain rfl:=has_str D;exists _,_,Z2 M,VE (j:=0) Y;refine⟨sl 2,λN J=>?_⟩;have L:=Yv J<|.tup [V.str "tag",V.str "name"];refine⟨N,_,Y,.inr<|Z2 Yf,rfl,rfl,_,rfl,Y1 (by decide +kernel) ?_⟩;refine⟨Y,_,Y,Y1 (by decide +kernel) ?_⟩;refine⟨Y,_,Y,Y1 (by decide +kernel) ?_⟩;refine⟨Y,_,Y,Y1 (by decide +kernel) ?_⟩;refine⟨1,Y,p,_,Y,Z2<|L _ _ M,by simp[HT.sIx],λu Z=>q _ _ (L.trans<|Yv Z _)<|Yu (xs:=m) (by rw[Yf];simp[Uq,HT.sIx]) ?_⟩;exact(G.mono L).mono<|Yv Z _
 |one e=>
  unfold Bd.dat at O;obtain⟨p,xs,rfl,M,T⟩:=Yr O;obtain⟨r,m,rfl,D,G⟩:=Yc T;obtain rfl:=has_str D;exists _,_,Z2 M,VE (j:=0) Y;refine⟨sl 2,λN J=>?_⟩;have L:=Yv J<|.tup [V.str "tag",V.str "name"];refine⟨N,_,Y,.inr<|Z2 Yf,rfl,rfl,_,rfl,Y1 (by decide +kernel) ?_⟩;refine⟨Y,_,Y,Y1 (by decide +kernel) ?_⟩;refine⟨Y,_,Y,Y1 (by decide +kernel) ?_⟩;refine⟨Y,_,Y,Y1 (by decide +kernel) ?_⟩;refine⟨1,Y,p,_,Y,Z2<|L _ _ M,by simp[HT.sIx],λu Z=>q _ _ (L.trans<|Yv Z _)<|Yu (xs:=m) (by rw[Yf];simp[Uq,HT.sIx]) ?_⟩;exact(G.mono L).mono<|Yv Z _
 |other e=>
  unfold Bd.dat at O;obtain⟨p,xs,rfl,M,T⟩:=Yr O;obtain⟨r,m,rfl,D,G⟩:=Yc T;obtain rfl:=has_str D;exists _,_,Z2 M,VE (j:=0) Y;refine⟨sl 2,λN J=>?_⟩;have L:=Yv J<|.tup [V.str "tag",V.str "name"];refine⟨N,_,Y,.inr<|Z2 Yf,rfl,rfl,_,rfl,Y1 (by decide +kernel) ?_⟩;refine⟨Y,_,Y,Y1 (by decide +kernel) ?_⟩;refine⟨Y,_,Y,Y1 (by decide +kernel) ?_⟩;refine⟨Y,_,Y,Y1 (by decide +kernel) ?_⟩;refine⟨1,Y,p,_,Y,Z2<|L _ _ M,by simp[HT.sIx],λu Z=>q _ _ (L.trans<|Yv Z _)<|Yu (xs:=m) (by rw[Yf];simp[Uq,HT.sIx]) ?_⟩;exact(G.mono L).mono<|Yv Z _
 |choose e ts bs=>
  unfold Bd.dat at O;obtain⟨p,xs,rfl,M,T⟩:=Yr O;obtain⟨r,m,rfl,D,G⟩:=Yc T;obtain rfl:=has_str D;obtain⟨o,r2,rfl,h2,X⟩:=Yc G;obtain⟨x3,r3,rfl,h3,U⟩:=Yc X;obtain rfl:=VB U;obtain⟨pz,zs,rfl,G1,J2⟩:=Yr h3;unfold Bd.ok at ok;obtain⟨o1,o2,o3,o4⟩:=ok;have lz:=J2.length;rw[Bd.brs_len o2]at lz;exists _,_,Z2 M,VE (j:=0) Y;refine⟨sl 2,λN J=>?_⟩;have L:=Yv J<|.tup [V.str "tag",V.str "name"];refine⟨N,_,Y,.inr<|Z2 Yf,rfl,rfl,_,rfl,Y1 (by decide +kernel) ?_⟩;refine⟨Y,_,Y,VI (by decide +kernel) ?_⟩;refine⟨_,_,Z2<|L _ _ M,rfl,sl 1,λu Z=>?_⟩;have s2:=Yv Z<|.tup [o];have sA:=L.trans s2;exists _,_,Z2<|sA _ _ M,rfl,⟨_,Z2<|sA _ _ G1⟩;have S:=sA _ _ G1;refine Vu zs.length (Yx<|by omega) (λj I H'=>H'=upd (upd H N<|.tup [V.str "tag",V.str "name"]) u (.tup [o])/\I.length=j/\HasL H I ((bs.map Bd.dat).take j)) ⟨rfl,rfl,Z6⟩ (λj I H' z=>z.2.1) ?_ ?_ ?_ ?_
  .rintro j I H' hj ⟨rfl,_⟩
   exact⟨zs,zs[j],Z2 S,by simp[hj]⟩
  .rintro I H' ⟨rfl,_⟩
   exact⟨zs,Z2 S,ZG _⟩
  .rintro j I H' x H3 R hj ⟨rfl,z2,z3⟩ yl hR
   obtain⟨rfl,y⟩:=yl;obtain⟨d,hd,R1⟩:=J2.get<|y zs<|Z2 S;obtain⟨b,t0,R6,R7,rfl⟩:=Bd.brs_get hd;obtain⟨pp,ys,rfl,R3,G3⟩:=Yr R1;obtain⟨y1,r4,rfl,h4,O1⟩:=Yc G3;obtain⟨y2,r5,rfl,h5,M2⟩:=Yc O1;obtain rfl:=VB M2;exists _,Z2<|sA _ _ R3,rfl;refine hR _ _ ⟨Y,by rw[ZL,z2];rfl,?_⟩;rw[List.take_add_one,ZH,R6];exact Z7 z3<|Z5 h5
  .rintro I H' l ⟨rfl,z2,z3⟩ hl3
   have s3:=Yv hl3<|.lst I;refine⟨l,_,Y,.inl ⟨Z3 Yf,λl4 R5=>?_⟩⟩;have s4:=Yv R5<|.tup I;have sB:=(sA.trans s3).trans s4;rw[Zg (by rw[ZA];omega)]at z3;have e1:Bd.dats (Bd.choose e ts bs).parts=e.dat::bs.map Bd.dat:=by rw[Z9];rfl
   refine⟨u,l4,[o],I,Y,Y,Z2<|s4 _ _<|s3 _ _ Yf,Z2 Yf,by simp,Zh (Yx (by simp only[vy];omega)),λe0=>?_,λ_ p5 R4=>?_⟩
   .refine q _ _ sB ?_
    rw[e1];subst e0
    have hb:bs=[]:=by
     have:=z3.length;simpa using this.symm
    rw[hb];exact Yu (s4 _ _<|s3 _ _ Yf)<|Z5<|h2.mono sB
   .have s5:=Yv R4<|.tup<|[o]++ I
    refine q _ _ (sB.trans s5) ?_;rw[e1];exact Yu Yf<|Z4 (h2.mono<|sB.trans s5)<|z3.mono<|sB.trans s5
 |ask g as=>
  unfold Bd.dat at O;obtain⟨p,xs,rfl,M,T⟩:=Yr O;obtain⟨r,m,rfl,D,G⟩:=Yc T;obtain rfl:=has_str D;obtain⟨o,r2,rfl,h2,X⟩:=Yc G;obtain⟨x3,r3,rfl,h3,U⟩:=Yc X;exists _,_,Z2 M,VE (j:=0) Y;refine⟨sl 2,λN J=>?_⟩;have L:=Yv J<|.tup [V.str "tag",V.str "name"];refine⟨N,_,Y,.inr<|Z2 Yf,rfl,rfl,_,rfl,Y1 (by decide +kernel) ?_⟩;refine⟨Y,_,Y,Y1 (by decide +kernel) ?_⟩;refine⟨Y,_,Y,VI (by decide +kernel) ?_⟩;exact⟨_,_,Z2<|L _ _ M,VE (j:=2) rfl,q _ _ L<|h3.mono L⟩
 |letb x k e g=>
  unfold Bd.dat at O;obtain⟨p,xs,rfl,M,T⟩:=Yr O;obtain⟨r,m,rfl,D,G⟩:=Yc T;obtain rfl:=has_str D;obtain⟨o,r2,rfl,h2,X⟩:=Yc G;obtain⟨x3,r3,rfl,h3,U⟩:=Yc X;have lr:=U.length;exists _,_,Z2 M,VE (j:=0) Y;refine⟨sl 2,λN J=>?_⟩;have L:=Yv J<|.tup [V.str "tag",V.str "name"];refine⟨N,_,Y,.inr<|Z2 Yf,rfl,rfl,_,rfl,Y1 (by decide +kernel) ?_⟩;refine⟨Y,_,Y,Y1 (by decide +kernel) ?_⟩;refine⟨Y,_,Y,Y1 (by decide +kernel) ?_⟩;refine⟨Y,_,Y,VI (by decide +kernel) ?_⟩;refine⟨3,Y,p,_,Y,Z2<|L _ _ M,by simp[HT.sIx],λu Z=>q _ _ (L.trans<|Yv Z _)<|Yu (xs:=r3) (by rw[Yf];simp[Uq,HT.sIx]) ?_⟩;exact(U.mono L).mono<|Yv Z _
end
end K4
namespace L2
open PySem
def Bd.at:Bd->List Int->Option Bd
 |b,[]=>some b
 |b,i::r=>if 0<=i then(match b.parts[i.toNat]? with|some c=>Bd.at c r|none=>none)else none
end L2
namespace K4
open PySem L2
end K4
namespace L2
open PySem PySem.Spec PyProof.Rows
mutual
def Bd.size:Bd->Nat
 |.tag _=>1
 |.name _=>1
 |.pair a b=>1+(a.size+b.size)
 |.one e=>1+e.size
 |.other e=>1+e.size
 |.choose e _ bs=>1+(e.size+Bd.sizes bs)
 |.ask _ as=>1+Bd.sizes as
 |.letb _ _ e b=>1+(e.size+b.size)
def Bd.sizes:List Bd->Nat
 |[]=>0
 |b::bs=>b.size+Bd.sizes bs
end
mutual
def Bd.dep:Bd->Nat
 |.tag _=>0
 |.name _=>0
 |.pair a b=>1+max a.dep b.dep
 |.one e=>1+e.dep
 |.other e=>1+e.dep
 |.choose e _ bs=>1+max e.dep (Bd.deps bs)
 |.ask _ as=>1+Bd.deps as
 |.letb _ _ e b=>1+max e.dep b.dep
def Bd.deps:List Bd->Nat
 |[]=>0
 |b::bs=>max b.dep<|Bd.deps bs
end
def Bd.size_eq(b:Bd):b.size=1+Bd.sizes b.parts:=by
 cases b <;> simp[Bd.size,Bd.sizes,Bd.parts]
theorem Bd.deps_mem:∀{Z:List Bd}{b:Bd},b∈Z->b.dep<=Bd.deps Z
 |[],_,h=>nomatch h
 |c::Z,b,h=>by
  unfold Bd.deps;rcases Zd.mp h with rfl|h
  .exact j6 _ _
  .exact Zb (Bd.deps_mem h) (jY _ _)
def Bd.dep_mem{b c:Bd}(h:c∈b.parts):c.dep<b.dep:=by
 have hd:=Bd.deps_mem h;cases b <;> simp only[Bd.parts,Bd.deps,Bd.dep,pS]at * <;> first|exact h.elim|omega
end L2
namespace K4
open PySem L2
end K4
namespace L2
open PySem
abbrev Hds:=Str->Option (List (Str×Str)×Str)
inductive Kd(ks:List (Str×Shp))(hd:Hds):List (Key×V)->Str->Bd->Prop
 |tag {g:List (Key×V)}{y t:Str}{ts:List Str}:Vc ks y=some (.tags ts)->t∈ts->Kd ks hd g y (.tag t)
 |name {g:List (Key×V)}{y x:Str}:VF g (Sum.inr x)=some (.str y)->Kd ks hd g y (.name x)
 |pair {g:List (Key×V)}{y a b:Str}{A B:Bd}:Vc ks y=some (.pair a b)->Kd ks hd g a A->Kd ks hd g b B->Kd ks hd g y (.pair A B)
 |one {g:List (Key×V)}{y z b:Str}{e:Bd}:Vc ks z=some (.pair y b)->Kd ks hd g z e->Kd ks hd g y (.one e)
 |other {g:List (Key×V)}{y z a:Str}{e:Bd}:Vc ks z=some (.pair a y)->Kd ks hd g z e->Kd ks hd g y (.other e)
 |choose {g:List (Key×V)}{y z:Str}{ts:List Str}{e:Bd}{bs:List Bd}:Vc ks z=some (.tags ts)->Kd ks hd g z e->bs.length=ts.length->(∀b∈bs,Kd ks hd g y b)->Kd ks hd g y (.choose e ts bs)
 |ask {g:List (Key×V)}{y f:Str}{ps:List (Str×Str)}{as:List Bd}:hd f=some (ps,y)->as.length=ps.length->(∀(i:Nat)(a:Bd)(p:Str×Str),as[i]?=some a->ps[i]?=some p->Kd ks hd g p.2 a)->Kd ks hd g y (.ask f as)
 |letb {g:List (Key×V)}{y x z:Str}{e b:Bd}:VF g (Sum.inr x)=none->z∈ks.map (·.1)->Kd ks hd (putK g (Sum.inr x) (.str z)) z e->Kd ks hd (putK g (Sum.inr x) (.str z)) y b->Kd ks hd g y (.letb x z e b)
def hdD(ps:List (Str×Str))(k:Str):Dat:=.tup [.tup (ps.map λp=>.tup [.str p.1,.str p.2]),.str k]
def An(Z:List (Str×Str))(k:Str):(hdD Z k).st=true:=by
 have:∀Z:List (Str×Str),Dat.sts (Z.map λp=>Dat.tup [.str p.1,.str p.2])=true:=by
  intro Z
  induction Z with
  |nil=>unfold List.map Dat.sts;rfl
  |cons p Z ih=>rw[ZV];unfold Dat.sts;rw[ih];simp[Dat.st,Dat.sts]
 simp[hdD,Dat.st,Dat.sts,this]
theorem Ex:∀{Z:List Bd}{J:pX},Dat.sts (Bd.dats Z)=true->Dat.sts (Bd.brs Z J)=true
 |[],_,_=>by unfold Bd.brs Dat.sts;rfl
 |b::Z,[],_=>by unfold Bd.brs Dat.sts;rfl
 |b::Z,t::J,h=>by
  unfold Bd.dats Dat.sts at h;rw[ZZ]at h;unfold Bd.brs Dat.sts;rw[Ex h.2];simp[Dat.st,Dat.sts,h.1]
mutual
theorem Bd.st:∀b:Bd,b.dat.st=true
 |.tag t=>by simp[Bd.dat,Dat.st,Dat.sts]
 |.name t=>by simp[Bd.dat,Dat.st,Dat.sts]
 |.pair a b=>by simp[Bd.dat,Dat.st,Dat.sts,Bd.st a,Bd.st b]
 |.one a=>by simp[Bd.dat,Dat.st,Dat.sts,Bd.st a]
 |.other a=>by simp[Bd.dat,Dat.st,Dat.sts,Bd.st a]
 |.choose e G Z=>by simp[Bd.dat,Dat.st,Dat.sts,Bd.st e,Ex (Bd.sts Z)]
 |.ask f J=>by simp[Bd.dat,Dat.st,Dat.sts,Bd.sts J]
 |.letb x k e b=>by simp[Bd.dat,Dat.st,Dat.sts,Bd.st e,Bd.st b]
theorem Bd.sts:∀Z:List Bd,Dat.sts (Bd.dats Z)=true
 |[]=>by unfold Bd.dats Dat.sts;rfl
 |b::Z=>by unfold Bd.dats Dat.sts;rw[Bd.st b,Bd.sts Z];rfl
end
def Fz{Z:xf}(h:VF Z k=some v):∃J∈Z,J.1=k/\J.2=v:=by
 unfold VF at h
 cases e:Z.find? (λJ=>decide<|J.1=k)with
 |none=>rw[e]at h;cases h
 |some J=>
  rw[e]at h;exact⟨J,jp e,by simpa using List.find?_some e,ZT h⟩
theorem XH:∀Z:pX,HasL H (Z.map V.str)<|Z.map Dat.str
 |[]=>Z6
 |n::Z=>Z4 Yy<|XH Z
def zU{Z:pX}(h:H a=some (.lst<|Z.map V.str)):Has H (.ref a) (.lst<|Z.map Dat.str):=P1 h<|XH Z
def NA(Z:pX):(Dat.lst<|Z.map Dat.str).dep<=1:=by
 have:∀Z:pX,Dat.deps (Z.map Dat.str)=0:=by
  intro Z
  induction Z with
  |nil=>unfold List.map Dat.deps;rfl
  |cons n Z ih=>rw[ZV];unfold Dat.deps;rw[ih];unfold Dat.dep;rfl
 unfold Dat.dep;rw[this];decide
def S8(Z:xo):(Dat.lst Z).pq (.lst [])=Z.isEmpty:=by
 unfold Dat.pq
 cases Z with
 |nil=>unfold Dat.pqs;rfl
 |cons d Z=>unfold Dat.pqs;rfl
def D9(h:H r=some (.tup [.str a,.str b])):Has H (.ref r) (.tup [.str a,.str b]):=Yu h<|Z4 Yy<|Z4 Yy Z6
def J0.sm(s:J0 H p)(e:Same H Z):J0 Z p:=let⟨a,b,c,d,h⟩:=s;⟨a,b,c,d,e _ _ h⟩
end L2
namespace K4
open PySem L2
section
variable{P:Program}{w:World}{K:W.Frag}{mg:Str->Option Value}{base:Heap}
def Df(P:Program)(w:World)(K:W.Frag)(mg:Str->Option Value)(base:Heap)(n:Nat)(x:Str)(ps:pX)(sp:Sp):Prop:=
 ∃(g:Addr)(Z:FuncData),mg x=some (.ref g)/\W.keepIn K (.ref g)=true/\Binds K Z ps []/\Ye P w K mg base CX0 n g Z ps sp
def Vh{X:Cx}(D:Df X.prog X.w X.K X.mg X.base k x B M)(N:Vn k X.A)(T:PA X (e::Z) t)(O:Gl X x:=by exact Y)(L:(x==("__debug__":Str))=false:=by decide)(R:starEach (e::Z) X.env=(false,eval e X.env)::starEach Z X.env:=by rfl)(J:(backTo pos<|starEach Z X.env).any (·.1)=false:=by rfl):
  PE X (.Call (.Name x p) (e::Z) [] pos) (M9 M [] E0 t):=let⟨_,_,m,k,b,G⟩:=D;JP G N O m k b .nil Y3 T L R J
def Df.up(d:Df P w K mg base n x J Z)(h:n<=m):Df P w K mg base m x J Z:=
 let⟨g,O,N,M,L,G⟩:=d;⟨g,O,N,M,L,G.mono h⟩
end
end K4
namespace L2
open PySem
end L2
namespace K4
open PySem L2
end K4
namespace L2
open PySem
def X7(h:Has H v (.tup [.str a,.str b])):∃t,v=.ref t/\H t=some (.tup [.str a,.str b]):=by
 obtain⟨t,O,rfl,G,L⟩:=Yr h;obtain⟨T,D,rfl,N,J⟩:=Yc L;obtain⟨R,B,rfl,M,Z⟩:=Yc J;obtain rfl:=VB Z;obtain rfl:=has_str N;obtain rfl:=has_str M;exact⟨t,Y,G⟩
end L2
namespace K4
open PySem L2
end K4
namespace L2
open PySem
def Same.putN(s:Same H0 H)(h:H0 p=none):Same H0 (upd H p o):=λb u e=>by
 rw[Yg (Yb e h)];exact s b u e
end L2
namespace K4
open PySem L2
end K4
namespace L2
open PySem PySem.Spec PyProof.Rows
section
def Dm:J1 X (.type "dict") (λL H Q=>∃a Z,L=[.ref a]/\Rd H a (.dK Z)/\∀l,H l=none->Q (.ref l) (upd H l<|.dK Z)):=by
 intro N s U H L F Q I r h;obtain⟨a,Z,rfl,D,q⟩:=h;obtain⟨u,rfl,T⟩:=vals1 r;cases T;obtain⟨O,B,E,M,hd⟩:=WG I.hok D;have J:=M.length;refine kt_call_dict (knd:=VA X.prog X.w) B hd (by rw[<-J];exact O) λA G R=>?_;refine⟨.ref s.heap.objs.size,_,I.laid (a:=s.heap.objs.size) (o:=.dK Z) (λb o e=>?_) (ZG _)<|Xq O (beq_eq_false_iff_ne.mpr<|Zs<|Ze I.big) M G,rfl,q _<|I.hok.fresh<|ZG _⟩;exact(R.2 b<|Ze<|ZP e).trans<|ZE _ e
end
end L2
namespace L2
open PySem
def KJ{Z:xf}(h:J∈putK Z k v):J∈Z\/J=(k,v):=by
 unfold putK at h
 split at h
 .obtain ⟨q,hq,e⟩:=ZW.mp h
  by_cases z:q.1=k
  .rw [Zp z]at e;exact .inr<|by rw[<-e,z]
  .rw [Zq z]at e;exact .inl (by rw[<-e];exact hq)
 .rcases ZX.mp h with h|h
  .exact .inl h
  .exact .inr (ZQ.mp h)
def NI(Z:xf)(k:Key)(v:V):(putK Z k v).length<=Z.length+1:=by
 unfold putK
 split
 .rw [ZA];omega
 .rw [ZL];exact ZG _
end L2
namespace K4
open PySem L2
end K4
namespace L2
open PySem
abbrev Hd:=Str×List (Str×Str)×Str
def WdS(y:Str):Prop:=1<=y.length/\y.length<=8/\∀c∈y.cps.toList,97<=c/\c<97+26
def Vy(c:xr)(ps:List (Str×Str)):Nat:=ps.foldl (λr p=>r*c p.2) 1
def G5(c:xr)(Z:List (Str×Str))(p:Str×Str):Vy c (Z++[p])=Vy c Z*c p.2:=by unfold Vy;rw[qy];rfl
structure QS(ns:List Str)(c:Str->Nat)(top:Nat)(h:Hd):Prop where
 len:h.2.1.length<=3
 kin:∀p∈h.2.1,p.2∈ns
 own:h.2.2∈ns
 nd:(h.2.1.map (·.1)).Nodup
 spl:∀p∈h.2.1,WdS p.1
 rows:Vy c h.2.1<=top
def Rj{Z:xf}(h:k∉Z.map (·.1)):VF Z k=none:=by
 unfold VF
 rw[qS.mpr (λJ G=>by
  intro z;exact h<|ZW.mpr ⟨J,G,Zt z⟩)]
 rfl
def RH{Z:pX}(J:Z.Nodup)(h:Z[i]?=some y):y∉Z.take i:=by
 have e:=take_snoc h;have s:(Z.take i++[y]).Nodup:=by rw[<-e];exact J.sublist<|jR _ _
 exact λz=>(ji.mp s).2.2 y z y (ZQ.mpr Y) Y
def Wds.wdS(w:Wds 97 Z)(h:y∈Z):WdS y:=⟨(w.len y h).1,(w.len y h).2,w.abc y h⟩
end L2
namespace K4
open PySem L2
end K4
namespace L2
open PySem
theorem KM:∀{G:List (Str×Str)}{Z:xg},HasL H Z (G.map λp=>.tup [.str p.1,.str p.2])->∃(J:xa),Z=J.map V.ref/\Rc K H J (G.map λp=>((Sum.inr p.1:Key),V.str p.2))
 |[],Z,h=>by
  obtain rfl:=VB h;exact⟨[],Y,Y,λi a k y e=>by simp at e⟩
 |q::G,Z,h=>by
  rw[ZV]at h;obtain⟨x,r,rfl,E,D⟩:=Yc h;obtain⟨t,rfl,B⟩:=X7 E;obtain⟨J,rfl,T,R⟩:=KM (K:=K) D;refine⟨t::J,Y,by simp[T],λi b k y O N=>?_⟩
  cases i with
  |zero=>
   have M:some t=some b:=O;have L:some ((Sum.inr q.1:Key),V.str q.2)=some (k,y):=N;cases M;cases L;exact Z2 B
  |succ i=>exact R i b k y O N
abbrev Dd:=Hd×Bd
def WH(x:Dd):Dat:=.tup [.str x.1.1,.tup<|x.1.2.1.map λp=>.tup [.str p.1,.str p.2],.str x.1.2.2,x.2.dat]
def kvP(ps:List (Str×Str)):xf:=ps.map λp=>((Sum.inr p.1:Key),V.str p.2)
def Vq(hs:List Hd):Hds:=λf=>(hs.find? λh=>decide<|h.1=f).map (·.2)
def EN(J:List (Str×Str)):Dat.sts (J.map λp=>Dat.tup [.str p.1,.str p.2])=true:=by
 have:=An J "";unfold hdD Dat.st Dat.sts at this;rw[ZZ]at this;have Z:=this.1;unfold Dat.st at Z;exact Z
def LX(J:(Z.map (·.1)).Nodup)(m:h∈Z):Vq Z h.1=some h.2:=by
 induction Z with
 |nil=>exact nomatch m
 |cons g Z ih=>
  rw[ZV,j5]at J;unfold Vq;rw[jB];rcases Zd.mp m with e|e
  .subst e;simp
  .have ne:¬g.1=h.1:=λq=>J.1 (by rw[q];exact ZW.mpr ⟨_,e,Y⟩)
   rw[Zy ne];exact ih J.2 e
theorem D7:∀{Z:xf},(Z.map (·.1)).Nodup->∀{J:Key×V},J∈Z->VF Z J.1=some J.2
 |[],_,J,m=>nomatch m
 |g::Z,nd,J,m=>by
  rw[ZV,j5]at nd;unfold VF;rw[jB];rcases Zd.mp m with e|e
  .subst e;simp
  .have ne:¬g.1=J.1:=λq=>nd.1 (by rw[q];exact ZW.mpr ⟨_,e,Y⟩)
   rw[Zy ne];exact D7 nd.2 e
def J0.tkB(s:J0 H p)(b:SameB p H Z):TK H Z:=λc J h=>b c _ (M5 s h) h
end L2
namespace K4
open PySem L2
end K4
namespace L2
open PySem
def Kr(ks:xq)(hd:Hds)(kv:xf)(y:Str):Bd->List Str->Prop
 |.tag t,zs=>zs=[]/\∃ts,Vc ks y=some (.tags ts)/\t∈ts
 |.name x,zs=>zs=[]/\VF kv (Sum.inr x)=some (.str y)
 |.pair _ _,zs=>∃a b,zs=[a,b]/\Vc ks y=some (.pair a b)
 |.one _,zs=>∃z b,zs=[z]/\Vc ks z=some (.pair y b)
 |.other _,zs=>∃z a,zs=[z]/\Vc ks z=some (.pair a y)
 |.choose _ ts bs,zs=>∃z,zs=z::List.replicate bs.length y/\Vc ks z=some (.tags ts)/\bs.length=ts.length
 |.ask f _,zs=>∃ps:List (Str×Str),hd f=some (ps,y)/\zs=ps.map (·.2)
 |.letb x z _ _,zs=>zs=[z,y]/\VF kv (Sum.inr x)=none/\z∈ks.map (·.1)
def wth(kv:xf):Bd->List (Key×V)
 |.letb x z _ _=>putK kv (Sum.inr x)<|.str z
 |_=>kv
def Kd.inv(h:Kd T hd R y b):
  ∃N,Kr T hd R y b N/\N.length=b.parts.length/\∀(i:Nat)(p:Bd)(z:Str),b.parts[i]?=some p->N[i]?=some z->Kd T hd (wth R b) z p:=by
 cases h with
 |tag G L=>exact⟨[],⟨Y,_,G,L⟩,Y,λi p z e=>nomatch e⟩
 |name G=>exact⟨[],⟨Y,G⟩,Y,λi p z e=>nomatch e⟩
 |pair G L M=>
  refine⟨_,⟨_,_,Y,G⟩,Y,λi p z J Z=>?_⟩;rcases i with _|_|i
  .cases J;cases Z;exact L
  .cases J;cases Z;exact M
  .exact nomatch J
 |one G L=>
  refine⟨_,⟨_,_,Y,G⟩,Y,λi p z J Z=>?_⟩;rcases i with _|i
  .cases J;cases Z;exact L
  .exact nomatch J
 |other G L=>
  refine⟨_,⟨_,_,Y,G⟩,Y,λi p z J Z=>?_⟩;rcases i with _|i
  .cases J;cases Z;exact L
  .exact nomatch J
 | @choose _ _ A I e B G L M O=>
  refine⟨_,⟨_,Y,G,M⟩,by simp[Bd.parts],λi p z J Z=>?_⟩;rcases i with _|i
  .cases J;cases Z;exact L
  .have m:=ZJ (show B[i]?=some p from J)
   have F:(List.replicate B.length y)[i]?=some z:=Z;have E:=ZJ F;cases List.eq_of_mem_replicate E;exact O p m
 | @ask _ _ f D S G L M=>
  refine⟨_,⟨_,G,Y⟩,by rw[ZA];exact L.symm,λi p z J Z=>?_⟩;rw[ZH]at Z
  cases ep:D[i]? with
  |none=>rw[ep]at Z;cases Z
  |some q=>
   rw[ep]at Z;cases Z;exact M i p q J ep
 |letb G L M O=>
  refine⟨_,⟨Y,G,L⟩,Y,λi p z J Z=>?_⟩;rcases i with _|_|i
  .cases J;cases Z;exact M
  .cases J;cases Z;exact O
  .exact nomatch J
end L2
namespace L2
open PySem
end L2
namespace K4
open PySem L2
section
def GQ:Sp:=λJ H Q _=>∃(x:Str)(o:Nat),J=[.str x,.str (alpha o)]/\(o=97\/o=65)/\1<=x.length/\x.length<=8/\(∀c∈x.cps.toList,o<=c/\c<o+26)/\∀Z,Same H Z->Q (.bl true) Z
def Ou:Yh ["text","letters"] ["text","letters"] (Yd BU):=Y2
def zK:List.Nodup [("sign":Str),"letters"]:=by decide +kernel
def Kn(B:Blt M)(F:Fun K "is_spelt" "is_spelt" BU f y)(X:M "LONGEST"=some u)(N:RelV (.int 8) u):Ye P w K M base CX0 (n+1) f y ["text","letters"] GQ:=by
 refine F.oq Ou λk A G s H Z Q E b h=>?_;obtain⟨x,o,rfl,I,l,r,U,q⟩:=h;refine⟨_,YY (Y4 (Jg<|JB<|Wf rfl B.isi rfl B.str W0 (pv 0)) (YZ<|Yj XX) Yo)
  (YZ (Yj (Wg (KZ XY XY Ya (VD Mw rfl B.len Zu (pa1<|pv 0))<|Ji rfl X N)
   (Xj (VD (Nr rfl) rfl B.all RV (pa1 (JO ["sign"] [1] (AA<|pv 0) (V7 (i:=0)<|by decide)
    (λg C j s H=>Yl 0 zK rfl (Or.inl rfl) (Or.inr rfl)) (λg C j s H=>Jj FL (pv 0) (pv 1) rfl)))))))),?_⟩
 exists _,_,_,_,Y,.str x,TH K "str",_,Y;refine Y1 (by simp) ?_;have T:x.length<=sizeLine:=Zh (Yx<|by omega);exists x,Y,T,_,Y;refine VI (by simp;omega) ?_;exists _,Y;refine VI (by simp;omega) ?_;exists x,Y;have d:x.cps.size=x.length:=rfl;refine Vu x.length (Yx<|by omega) (λi Z J=>Same H J/\Z=List.replicate i (V.bl true)) ⟨Z8 _,rfl⟩ (λi Z J z=>by rw[z.2];simp) ?_ ?_ ?_ ?_
 .intro i Z J hi z
  exact hi
 .intro Z J z
  exact ZG _
 .intro i Z J v H'' R hi z yl hR
  obtain⟨rfl,c,L,rfl⟩:=yl;exists _,_,Y,Y
  have S:c∈x.cps.toList:=by
   have:=Array.mem_of_getElem? L;exact Array.mem_toList_iff.mpr this
  obtain⟨D,O,m⟩:=K5 I<|U c S;have t:Builtin.Str.occurrences (alpha o) ⟨#[c]⟩ 0 (alpha o).length 1=D::O:=m;rw[t];exact hR _ _ ⟨z.1,by rw[z.2,kZ];rfl⟩
 .intro Z J p z hp
  refine⟨p,List.replicate x.length true,Y,Z3 (by rw[Yf,z.2,List.map_replicate]),?_⟩;rw[show(List.replicate x.length true).all id=true by simp];exact q _<|z.1.trans<|Yv hp _
def U4(o:Nat):Sp:=λJ H Q _=>∃(x:Str),J=[.str x]/\1<=x.length/\x.length<=8/\(∀c∈x.cps.toList,o<=c/\c<o+26)/\∀Z,Same H Z->Q (.bl true) Z
def Im:Yh ["text"] ["text"] (Yd MN):=Y2
def FQ(F:Fun K "is_name" "is_name" MN f S)(G:Ye P w K J base CX0 n g I ["text","letters"] GQ)(C:Binds K I ["text","letters"] [])(R:W.keepIn K (.ref g)=true)(M:J "is_spelt"=some (.ref g))(D:J "SMALL"=some u)(L:RelV (.str<|Str.ofString "abcdefghijklmnopqrstuvwxyz") u):Ye P w K J base CX0 (n+1) f S ["text"] (U4 97):=by
 refine F.oq Im λU A Z s H X Q E T h=>?_;obtain⟨x,rfl,O,N,B,q⟩:=h;exists _,YZ<|Yj<|JP G T rfl M R C .nil Y3 (pa2 (pv 0)<|Ji rfl D L);refine⟨x,97,?_,.inl Y,O,N,B,q⟩;rw[<-RD];rfl
def O3:Yh ["text"] ["text"] (Yd Bf):=Y2
def Kx(F:Fun K "is_tag" "is_tag" Bf f S)(G:Ye P w K J base CX0 n g I ["text","letters"] GQ)(C:Binds K I ["text","letters"] [])(R:W.keepIn K (.ref g)=true)(M:J "is_spelt"=some (.ref g))(D:J "GREAT"=some u)(L:RelV (.str<|Str.ofString "ABCDEFGHIJKLMNOPQRSTUVWXYZ") u):Ye P w K J base CX0 (n+1) f S ["text"] (U4 65):=by
 refine F.oq O3 λU A Z s H X Q E T h=>?_;obtain⟨x,rfl,O,N,B,q⟩:=h;exists _,YZ<|Yj<|JP G T rfl M R C .nil Y3 (pa2 (pv 0)<|Ji rfl D L);refine⟨x,65,?_,.inr Y,O,N,B,q⟩;rw[<-RN];rfl
end
end K4
namespace L2
open PySem
def GE(ks:xq):Nat->Str->Nat
 |0,_=>0
 |n+1,y=>match Vc ks y with
  |none=>0
  |some (.tags _)=>1
  |some (.pair a b)=>1+GE ks n a+GE ks n b
def JK(t:Str):Shp->Bool
 |.tags ts=>decide<|t∈ts
 |.pair _ _=>false
def JJ(a b:Str):Shp->Bool
 |.tags _=>false
 |.pair c e=>decide (c=a) && decide (e=b)
def JE(ks:xq)(t:Str):Option Str:=(ks.find? λk=>JK t k.2).map (·.1)
def Vt(ks:xq)(a b:Str):Option Str:=(ks.find? λk=>JJ a b k.2).map (·.1)
def XU{α:Type}(p:α->Bool)(l:List α)(x:α):(l++[x]).find? p=(l.find? p).or (if p x=true then some x else none):=by
 rw[List.find?_append]
 congr 1
 rw[jB];cases p x <;> simp
def WX(h:z∈Z.map (·.1)):Vc (Z++[x]) z=Vc Z z:=by
 obtain⟨s,J⟩:=Jv h;unfold Vc at J |-;rw[XU]
 cases e:Z.find? λk=>decide (k.1=z)with
 |none=>rw[e]at J;cases J
 |some k=>rfl
def E9(h:z∉Z.map (·.1)):Vc Z z=none:=by
 cases e:Vc Z z with
 |none=>rfl
 |some s=>exact Zr (ZW.mpr ⟨_,Xu e,Y⟩) h
def Gv(h:z∉Z.map (·.1)):Vc (Z++[(z,s)]) z=some s:=by
 have q:=E9 h;unfold Vc at q |-;rw[XU]
 cases e:Z.find? λk=>decide (k.1=z)with
 |none=>simp
 |some k=>rw[e]at q;cases q
theorem Jx(h:KK top c d Z)(x:Str×Shp):∀(n:Nat)(z:Str),z∈Z.map (·.1)->VC (Z++[x]) n z=VC Z n z
 |0,_,_=>rfl
 |n+1,z,hz=>by
  obtain⟨s,J⟩:=Jv hz;rw[WP J,WP ((WX hz).trans J)]
  cases s with
  |tags M=>rfl
  |pair a b=>
   obtain⟨L,G,_⟩:=h.at J;show(W.non::_)=(W.non::_);rw[Jx h x n a L,Jx h x n b G]
def hOf(ks:xq)(n:Nat):Shp->Nat
 |.tags _=>1
 |.pair a b=>1+GE ks n a+GE ks n b
def X5(h:Vc Z y=some s):GE Z (n+1) y=hOf Z n s:=by
 conv=>lhs;unfold GE
 rw[h];cases s <;> rfl
theorem Ub(h:KK top c d Z)(x:Str×Shp):∀(n:Nat)(z:Str),z∈Z.map (·.1)->GE (Z++[x]) n z=GE Z n z
 |0,_,_=>rfl
 |n+1,z,hz=>by
  obtain⟨s,J⟩:=Jv hz;rw[X5 J,X5 ((WX hz).trans J)]
  cases s with
  |tags M=>rfl
  |pair a b=>
   obtain⟨L,G,_⟩:=h.at J;show 1+_+_=1+_+_;rw[Ub h x n a L,Ub h x n b G]
theorem XS(h:KK top c d Z):∀(n m:Nat)(y:Str),y∈Z.map (·.1)->d y<n->d y<m->GE Z n y=GE Z m y
 |0,_,_,_,h1,_=>Zr h1<|Zw _
 |_+1,0,_,_,_,h2=>Zr h2<|Zw _
 |n+1,m+1,y,hy,h1,h2=>by
  obtain⟨s,J⟩:=Jv hy;have M:=h.at J;rw[X5 J,X5 J]
  cases s with
  |tags N=>rfl
  |pair a b=>
   obtain⟨L,G,B,T,R,O⟩:=M;have E:=j6 (d a)<|d b;have D:=jY (d a)<|d b;show 1+_+_=1+_+_;rw[XS h n m a L (by omega) (by omega),XS h n m b G (by omega) (by omega)]
structure KA6 where
 t:Addr
 dx:Addr
 sh:Addr
 wo:Addr
 he:Addr
 pd:Addr
 tk:Addr
 pk:Addr
structure KC where
 sh:List (Key×V)
 wo:List (Key×V)
 he:List (Key×V)
 pd:List (Key×V)
 tk:List (Key×V)
 pk:List (List Key×V)
def Ta(A:KA6):List (Str×V):=[("shapes",.ref A.sh),("worths",.ref A.wo),("heights",.ref A.he),("pairs_deep",.ref A.pd),("tag_kinds",.ref A.tk),("pair_kinds",.ref A.pk)]
def KA6.ds(A:KA6):xa:=[A.sh,A.wo,A.he,A.pd,A.tk,A.pk]
structure KD(H:Hp)(C:Addr)(A:KA6)(S:KC):Prop where
 ins:H A.t=some (.ins C A.dx (Ta A))
 sh:H A.sh=some (.dK S.sh)
 wo:H A.wo=some (.dK S.wo)
 he:H A.he=some (.dK S.he)
 pd:H A.pd=some (.dK S.pd)
 tk:H A.tk=some (.dK S.tk)
 pk:H A.pk=some (.dT S.pk)
 nd:A.ds.Nodup
structure KR(H:Hp)(S:KC)(ks:List (Str×Shp))(d:Str->Nat):Prop where
 ke:S.sh.map (·.1)=ks.map (λk=>Sum.inr k.1)
 sh:∀y s,Vc ks y=some s->∃v,VF S.sh (Sum.inr y)=some v/\Has H v s.dat
 wo:∀y∈ks.map (·.1),∃l xs,VF S.wo (Sum.inr y)=some (.ref l)/\H l=some (.lst xs)/\HasL H xs ((VC ks 3 y).map W.dat)
 he:∀y∈ks.map (·.1),VF S.he (Sum.inr y)=some (.int (GE ks 3 y:Nat))
 pd:∀y∈ks.map (·.1),VF S.pd (Sum.inr y)=some (.int (d y:Nat))
 tk:∀x:Str,VF S.tk (Sum.inr x)=(JE ks x).map V.str
 pk:∀a b:Str,VF S.pk [Sum.inr a,Sum.inr b]=(Vt ks a b).map V.str
 ln:S.sh.length<=4*ks.length/\S.wo.length<=4*ks.length/\S.he.length<=4*ks.length/\S.pd.length<=4*ks.length/\S.tk.length<=4*ks.length/\S.pk.length<=4*ks.length
def KI(H:Hp)(C t:Addr)(ks:xq)(d:xr):Prop:=∃A S,A.t=t/\KD H C A S/\KR H S ks d
def KD.mono(k:KD H C A S)(e:Same H Z):KD Z C A S:=⟨e _ _ k.ins,e _ _ k.sh,e _ _ k.wo,e _ _ k.he,e _ _ k.pd,e _ _ k.tk,e _ _ k.pk,k.nd⟩
def TL(H H':Hp):Prop:=(∀b Z,H b=some (.tup Z)->H' b=some (.tup Z))/\∀b Z,H b=some (.lst Z)->H' b=some (.lst Z)
def Same.tl(e:Same H J):TL H J:=⟨λb Z h=>e _ _ h,λb Z h=>e _ _ h⟩
def TL.trans(a:TL H G)(b:TL G J):TL H J:=⟨λc Z h=>b.1 _ _<|a.1 _ _ h,λc Z h=>b.2 _ _<|a.2 _ _ h⟩
mutual
theorem Has.tl{H M:Hp}(e:TL H M):∀(d:Dat){v:V},Has H v d->Has M v d
 |.non,_,h=>by unfold Has at h |-;exact h
 |.bl _,_,h=>by unfold Has at h |-;exact h
 |.int _,_,h=>by unfold Has at h |-;exact h
 |.str _,_,h=>by unfold Has at h |-;exact h
 |.tup ds,_,h=>by
  unfold Has at h |-;obtain⟨a,Z,L,G,J⟩:=h;exact⟨a,Z,L,e.1 _ _ G,HasL.tl e ds J⟩
 |.lst ds,_,h=>by
  unfold Has at h |-;obtain⟨a,Z,L,G,J⟩:=h;exact⟨a,Z,L,e.2 _ _ G,HasL.tl e ds J⟩
theorem HasL.tl{H G:Hp}(e:TL H G):∀(Z:xo){J:xg},HasL H J Z->HasL G J Z
 |[],[],h=>by unfold HasL;trivial
 |[],_::_,h=>by unfold HasL at h;exact h.elim
 |_::_,[],h=>by unfold HasL at h;exact h.elim
 |d::Z,x::J,h=>by
  unfold HasL at h |-;exact⟨Has.tl e d h.1,HasL.tl e Z h.2⟩
end
def KR.tl(k:KR H S L d)(e:TL H N):KR N S L d:=
 ⟨k.ke,λy s h=>let⟨v,J,Z⟩:=k.sh y s h;⟨v,J,Has.tl e _ Z⟩,λy h=>let⟨l,G,J,Z,M⟩:=k.wo y h;⟨l,G,J,e.2 _ _ Z,HasL.tl e _ M⟩,k.he,k.pd,k.tk,k.pk,k.ln⟩
def KI.mono(k:KI H C t Z d)(e:Same H M):KI M C t Z d:=by
 obtain⟨A,S,L,G,J⟩:=k;exact⟨A,S,L,G.mono e,J.tl e.tl⟩
def Ua(x:Str)(Z:pX):inV (.str x) (Z.map V.str)=decide (x∈Z):=by
 induction Z with
 |nil=>rfl
 |cons t Z ih=>
  have e:inV (.str x) ((t::Z).map V.str)=((t==x) || inV (.str x) (Z.map V.str)):=rfl;rw[e,ih]
  by_cases h:t=x
  .subst h;simp
  .have h':¬x=t:=λq=>h q.symm
   simp[h,h']
def UB(Z:pX):(Z.map V.str).all XC=true:=by
 induction Z with
 |nil=>rfl
 |cons t Z ih=>simp only[ZV,pC,ih];rfl
structure KCl(K:W.Frag)(C:Addr):Prop where
 cl:Cls K C
 sh:VG K C "shapes"
 wo:VG K C "worths"
 he:VG K C "heights"
 pd:VG K C "pairs_deep"
 tk:VG K C "tag_kinds"
 pk:VG K C "pair_kinds"
def Fb(A:KA6):(Ta A).lookup ("shapes":Str)=some (V.ref A.sh):=rfl
def yA(A:KA6):(Ta A).lookup ("worths":Str)=some (V.ref A.wo):=rfl
def vj(A:KA6):(Ta A).lookup ("heights":Str)=some (V.ref A.he):=rfl
def vi(A:KA6):(Ta A).lookup ("pairs_deep":Str)=some (V.ref A.pd):=rfl
def Av(A:KA6):(Ta A).lookup ("tag_kinds":Str)=some (V.ref A.tk):=rfl
def vg(A:KA6):(Ta A).lookup ("pair_kinds":Str)=some (V.ref A.pk):=rfl
def WW(k:KD H C A S)(r:KR H S Z d)(h:Vc Z y=some s):∃v,V9 H A.sh (.str y) (some v)/\Has H v s.dat:=by
 obtain⟨v,G,J⟩:=r.sh y s h;exact⟨v,by rw[<-G];exact V9.k (k:=Sum.inr y) k.sh,J⟩
end L2
namespace K4
open PySem L2
section
variable{f g C:Addr}
def XJ(C:Addr):Sp:=λG H Q _=>∃(t:Addr)(J:xq)(d:xr),G=[.ref t]/\KI H C t J d/\∀l Z,Same H Z->H l=none->Z l=some (.lst<|J.map λk=>V.str k.1)->Q (.ref l) Z
def Ox:Yh ["self"] ["self"] (Yd BX):=Y2
def Kp(B:Blt L)(T:KCl K C)(F:Fun K "names" "Kinds.names" BX f O):Ye P w K L base CX0 (n+1) f O ["self"] (XJ C):=by
 refine F.oq Ox λR A Z s H D Q E U h=>?_;obtain⟨t,I,d,rfl,⟨X,S,rfl,J,N⟩,q⟩:=h;exists _,YZ<|Yj<|VW (XF rfl) rfl B.list Jt (pa1<|Yt (pv 0) rfl);refine⟨C,_,_,_,J.ins,T.cl,T.sh,Fb _,_,_,Y,J.sh,λl G=>?_⟩;refine q l _ (Yv G _) G ?_;rw[Yf];have e:(S.sh.map λM=>kV M.1)=(S.sh.map (·.1)).map kV:=by rw[jk];rfl
 rw[e,N.ke,jk]
 rfl
def XI(C:Addr):Sp:=λJ H Q _=>∃(t:Addr)(Z:xq)(d:xr)(y:Str)(s:Shp),J=[.ref t,.str y]/\KI H C t Z d/\Vc Z y=some s/\∀v,Has H v s.dat->Q v H
def FC:Yh ["self","kind"] ["self","kind"] (Yd Gw):=Y2
def B1(T:KCl K C)(F:Fun K "shape_of" "Kinds.shape_of" Gw f B):Ye P w K U base CX0 (n+1) f B ["self","kind"] (XI C):=by
 refine F.oq FC λD A Z s H I Q E N h=>?_;obtain⟨t,X,d,y,s,rfl,⟨j,S,rfl,J,G⟩,M,q⟩:=h;have L:=JI N;obtain⟨v,R,O⟩:=WW J G M;exists _,YZ<|Yj<|JN L (Yt (pv 0) rfl) (pv 1) λ_ _=>rfl;exact⟨C,_,_,_,J.ins,T.cl,T.sh,Fb _,v,R,q v O⟩
def Gp(C:Addr):Sp:=λJ H Q _=>∃(t:Addr)(Z:xq)(d:xr)(x:Str),J=[.ref t,.str x]/\KI H C t Z d/\Q (((JE Z x).map V.str).getD .non) H
def Il:Yh ["self","tag"] ["self","tag"] (Yd MM):=Y2
def FP(T:KCl K C)(F:Fun K "kind_of_tag" "Kinds.kind_of_tag" MM f N):Ye P w K B base CX0 (n+1) f N ["self","tag"] (Gp C):=by
 refine F.oq Il λO A Z s H R Q E M h=>?_;obtain⟨t,D,d,x,rfl,⟨I,S,rfl,J,G⟩,q⟩:=h;have L:=JI M;exists _,YZ<|Yj<|G9 L (Yt (pv 0) rfl) (pv 1) ⟨rfl,rfl,rfl,rfl⟩;exact⟨C,_,_,_,J.ins,T.cl,T.tk,Av _,.inl ⟨_,.inl J.tk⟩,_,by rw[<-G.tk x];exact V9.k (k:=Sum.inr x) J.tk,q⟩
def WU(C:Addr):Sp:=λG H Q _=>∃(t:Addr)(Z:xq)(d:xr)(a b:Str),G=[.ref t,.str a,.str b]/\KI H C t Z d/\∀J,Same H J->Q (((Vt Z a b).map V.str).getD .non) J
def FD:Yh ["self","one","other"] ["self","one","other"] (Yd Gy):=Y2
def B4(T:KCl K C)(F:Fun K "kind_of_pair" "Kinds.kind_of_pair" Gy f R):Ye P w K I base CX0 (n+1) f R ["self","one","other"] (WU C):=by
 refine F.oq FD λB A Z s H D Q E N h=>?_;obtain⟨t,U,d,a,b,rfl,⟨X,S,rfl,J,L⟩,q⟩:=h;have M:=JI N;exists _,YZ<|Yj<|G9 M (Yt (pv 0) rfl) (Yi<|pa2 (pv 1)<|pv 2) ⟨rfl,rfl,rfl,rfl⟩;refine⟨C,_,_,_,J.ins,T.cl,T.pk,vg _,.inr ⟨_,.inl J.pk⟩,sl 2,λp O=>?_⟩;have G:=Yv O<|.tup [.str a,.str b];exact⟨_,by rw[<-L.pk a b];exact V9.t (k:=[Sum.inr a,Sum.inr b]) (G _ _ J.pk) Yf,q _ G⟩
def UC(C:Addr):Sp:=λL H Q _=>∃(t:Addr)(J:xq)(d:xr)(y:Str),L=[.ref t,.str y]/\KI H C t J d/\y∈J.map (·.1)/\
 ∀l G Z,Same H Z->H l=none->Z l=some (.lst G)->HasL Z G ((VC J 3 y).map W.dat)->Q (.ref l) Z
def BO:Yh ["self","kind"] ["self","kind"] (Yd Wa):=Y2
def NN(B:Blt N)(T:KCl K C)(F:Fun K "worths_of" "Kinds.worths_of" Wa f z):Ye P w K N base CX0 (n+1) f z ["self","kind"] (UC C):=by
 refine F.oq BO λm A G s H p Q E I h=>?_;obtain⟨t,c,d,y,rfl,⟨u,S,rfl,M,O⟩,R,q⟩:=h;have D:=JI I;obtain⟨l,J,j,X,U⟩:=O.wo y R;exists _,YZ<|Yj<|VW Ur rfl B.list Jt (pa1<|JN D (Yt (pv 0) rfl) (pv 1) λ_ _=>rfl);refine⟨C,_,_,_,M.ins,T.cl,T.wo,yA _,_,by rw[<-j];exact V9.k (k:=Sum.inr y) M.wo,l,J,Y,.inl<|Z3 X,λr Z=>?_⟩;have L:=Yv Z<|.lst J;exact q r J _ L Z Yf<|U.mono L
end
end K4
namespace L2
open PySem
def KFr(A:KA6)(H H':Hp):Prop:=∀b o,b∉A.ds->H b=some o->H' b=some o
def KFr.refl(A:KA6)(H:Hp):KFr A H H:=λ_ _ _ h=>h
def KFr.trans(a:KFr A H G)(b:KFr A G J):KFr A H J:=λc o Z h=>b c o Z<|a c o Z h
def Same.kfr(e:Same H Z):KFr A H Z:=λb o _ h=>e b o h
def KFr.put(a:KFr A H L)(G:x∈A.ds)(o:HO):KFr A H (upd L x o):=λb u Z h=>by
 have J:b≠x:=λz=>by rw[z]at Z;exact Z G
 rw[Yg J];exact a b u Z h
def KFr.tl(a:KFr A H O)(k:KD H C A S):TL H O:=by
 have G:∀b u,H b=some u->(∀l,u≠.dK l)->(∀l,u≠.dT l)->b∉A.ds:=λb u Z J N L=>by
  simp only[KA6.ds,Zd,qH,or_false]at L;rcases L with z|z|z|z|z|z
  .rw [z,k.sh]at Z;exact J _ (ZT Z).symm
  .rw [z,k.wo]at Z;exact J _ (ZT Z).symm
  .rw [z,k.he]at Z;exact J _ (ZT Z).symm
  .rw [z,k.pd]at Z;exact J _ (ZT Z).symm
  .rw [z,k.tk]at Z;exact J _ (ZT Z).symm
  .rw [z,k.pk]at Z;exact N _ (ZT Z).symm
 exact⟨λb M h=>a b _ (G b _ h (λl=>by intro z;cases z) (λl=>by intro z;cases z)) h,λb M h=>a b _ (G b _ h (λl=>by intro z;cases z) (λl=>by intro z;cases z)) h⟩
def KA6.apart{A:KA6}(n:A.ds.Nodup):(A.sh≠A.wo/\A.sh≠A.he/\A.sh≠A.pd/\A.sh≠A.tk/\A.sh≠A.pk)/\(A.wo≠A.he/\A.wo≠A.pd/\A.wo≠A.tk/\A.wo≠A.pk)/\(A.he≠A.pd/\A.he≠A.tk/\A.he≠A.pk)/\(A.pd≠A.tk/\A.pd≠A.pk)/\A.tk≠A.pk:=by
 simpa[KA6.ds]using n
section
def KD.put_sh(k:KD H C A S)(l:xf):KD (upd H A.sh<|.dK l) C A {S with sh:=l}:=by
 obtain⟨⟨M,L,G,J,Z⟩,_⟩:=KA6.apart k.nd;exact⟨(Yg<|Jl k.ins k.sh (by intro z;cases z)).trans k.ins,Yf,(Yg M.symm).trans k.wo,(Yg L.symm).trans k.he,(Yg G.symm).trans k.pd,(Yg J.symm).trans k.tk,(Yg Z.symm).trans k.pk,k.nd⟩
def KD.put_wo(k:KD H C A S)(l:xf):KD (upd H A.wo<|.dK l) C A {S with wo:=l}:=by
 obtain⟨⟨M,_⟩,⟨L,G,J,Z⟩,_⟩:=KA6.apart k.nd;exact⟨(Yg<|Jl k.ins k.wo (by intro z;cases z)).trans k.ins,(Yg M).trans k.sh,Yf,(Yg L.symm).trans k.he,(Yg G.symm).trans k.pd,(Yg J.symm).trans k.tk,(Yg Z.symm).trans k.pk,k.nd⟩
def KD.put_he(k:KD H C A S)(l:xf):KD (upd H A.he<|.dK l) C A {S with he:=l}:=by
 obtain⟨⟨_,M,_⟩,⟨L,_⟩,⟨G,J,Z⟩,_⟩:=KA6.apart k.nd;exact⟨(Yg<|Jl k.ins k.he (by intro z;cases z)).trans k.ins,(Yg M).trans k.sh,(Yg L).trans k.wo,Yf,(Yg G.symm).trans k.pd,(Yg J.symm).trans k.tk,(Yg Z.symm).trans k.pk,k.nd⟩
def KD.put_pd(k:KD H C A S)(l:xf):KD (upd H A.pd<|.dK l) C A {S with pd:=l}:=by
 obtain⟨⟨_,_,M,_⟩,⟨_,L,_⟩,⟨G,_⟩,⟨J,Z⟩,_⟩:=KA6.apart k.nd;exact⟨(Yg<|Jl k.ins k.pd (by intro z;cases z)).trans k.ins,(Yg M).trans k.sh,(Yg L).trans k.wo,(Yg G).trans k.he,Yf,(Yg J.symm).trans k.tk,(Yg Z.symm).trans k.pk,k.nd⟩
def KD.put_tk(k:KD H C A S)(l:xf):KD (upd H A.tk<|.dK l) C A {S with tk:=l}:=by
 obtain⟨⟨_,_,_,M,_⟩,⟨_,_,L,_⟩,⟨_,G,_⟩,⟨J,_⟩,Z⟩:=KA6.apart k.nd;exact⟨(Yg<|Jl k.ins k.tk (by intro z;cases z)).trans k.ins,(Yg M).trans k.sh,(Yg L).trans k.wo,(Yg G).trans k.he,(Yg J).trans k.pd,Yf,(Yg Z.symm).trans k.pk,k.nd⟩
end
def UV{α:Type}{l:List α}{x a:α}(h:l[i]?=some a):x∈l.take (i+1)↔x∈l.take i\/x=a:=by
 rw[take_snoc h,ZX,ZQ]
end L2
namespace K4
open PySem L2
section
variable{f g C:Addr}
def BF(C:Addr):Sp:=λL H Q _=>∃(A:KA6)(S:KC)(y:Str)(l:Addr)(Z:pX),L=[.ref A.t,.str y,.ref l]/\KD H C A S/\H l=some (.tup<|Z.map V.str)/\1<=Z.length/\Z.length<=4/\Wds 65 Z/\(∀x∈Z,VF S.tk (Sum.inr x)=none)/\
 S.tk.length<=100/\S.wo.length<=100/\S.he.length<=100/\S.pd.length<=100/\
 ∀G J r,KFr A H G->KD G C A ⟨S.sh,putK S.wo (Sum.inr y)<|.ref r,putK S.he (Sum.inr y)<|.int 1,putK S.pd (Sum.inr y)<|.int 0,J,S.pk⟩->
  (∀x:Str,VF J (Sum.inr x)=if x∈Z then some (.str y)else VF S.tk (Sum.inr x))->J.length<=S.tk.length+4->G r=some (.lst (.non::Z.map V.str))->Q .non G
def Ih:Yh ["self","name","tags","tag"] ["self","name","tags"] (Yd Iv):=Y2
def Pf(B:Blt mg)(T:KCl K C)(F:Fun K "take_tags" "Kinds.take_tags" Iv f fd)(hM:mg "MOST_TAGS"=some u)(rM:RelV (.int 4) u)(G:Ye P w K mg base CX0 n g gd ["text"] (U4 65))(bG:Binds K gd ["text"] [])(kG:W.keepIn K (.ref g)=true)(mG:mg "is_tag"=some (.ref g)):Ye P w K mg base CX0 (n+1) f fd ["self","name","tags"] (BF C):=by
 refine F.oq Ih λO1 A J2 s H vs Q E hr h=>?_;obtain⟨D,S,y,l,J,rfl,kd,hl,l1,l4,wt,tn,b1,b2,b3,b4,q⟩:=h;have t:=JI hr;refine⟨_,YY (Y4 (Jg<|Xy XY XY Ya (VD Y6 rfl B.len Zu (pa1<|pv 2))<|Ji rfl hM rM) (YZ JU) Yo)
  (YY (JC Zv rfl (UH<|pv 2) (Yl 3 Ih.nd)
   (YY (Y4 (Jg<|JB<|JP G hr rfl mG kG bG .nil Y3 (pa1<|pv 3)) (YZ JU) Yo)
   (YY (Y4 (Uk<|Xk t (pv 3)<|Yt (pv 0) rfl) (YZ JU) Yo)
   (YZ<|Vw t (Yt (pv 0) rfl) (pv 3) (pv 1) rfl))))
  (YY (Vw t (Yt (pv 0) rfl) (pv 1) (Y9 Kh (V4<|pa1 Vo)<|VW Ur rfl B.list Jt (pa1<|pv 2)) rfl)
  (YY (Vw t (Yt (pv 0) rfl) (pv 1) Ya rfl)
  (YZ<|Vw t (Yt (pv 0) rfl) (pv 1) Ya rfl)))),?_⟩
 show let a:=_;let b:=Yn _ a;let c:=Yn _ b;let d:=_;let e:=_;let f:=Yn (VH _ e _) d;let g:=_;let h:=Yn (VH _ g _) f;let i:=Yn (U1 _ _ h) c;let j:=_;Yn (VH _ j _) i _ _ _
 intros
 have lt:(J.map V.str).length=J.length:=ZA _;exists l,_,Y,.inr<|Z2 hl,_,rfl;refine VI (by simp;omega) ?_;exists _,Y;refine Y1 (by simp;omega) ?_;exists ⟨_,Z2 hl⟩
 let I:xi:=λi U R=>KFr D H R/\∃L z,KD R C D {S with tk:=L}/\(∀x:Str,VF L (Sum.inr x)=if x∈J.take i then some (.str y)else VF S.tk (Sum.inr x))/\L.length<=S.tk.length+i/\R l=some (.tup<|J.map V.str)/\
  U=[some (.ref D.t),some<|.str y,some<|.ref l,z]
 refine Tb (xs:=J.map V.str) I ⟨KFr.refl _ _,S.tk,_,kd,λx=>by simp,ZG _,hl,Y⟩ ?_ ?_ ?_
 .rintro i U R _ ⟨_,L,z,_,_,_,hl',_⟩
  exact Z2 hl'
 .rintro BB RR i v U R hv ⟨fr,L,z,kd',tv,tl,hl',rfl⟩
  rw[ZH]at hv
  cases hx:J[i]? with
  |none=>rw[hx]at hv;cases hv
  |some x=>
   rw[hx]at hv;cases hv;have mx:x∈J:=ZJ hx
   have nx:x∉J.take i:=λhm=>by
    have q':(J.take i++[x]).Nodup:=by rw[<-take_snoc hx];exact wt.nd.sublist<|jR _ _
    exact(ji.mp q').2.2 x hm x (by simp) rfl
   have M2:=(ZF.mp hx).1;obtain⟨w1,w8⟩:=wt.len x mx;refine⟨x,Y,w1,w8,wt.abc x mx,λH2 s2=>⟨_,Y,?_⟩⟩;refine Y1 (by simp) ?_;have Z:=kd'.mono s2
   have gx:V9 H2 D.tk (.str x) none:=by
    have e:=tv x;rw[Zq nx,tn x mx]at e;rw[<-e];exact V9.k (k:=Sum.inr x) Z.tk
   exists C,_,_,_,Z.ins,T.cl,T.tk,Av _,_,gx,_,Y;refine Y1 (by simp) ?_;refine⟨C,_,_,_,Z.ins,T.cl,T.tk,Av _,_,Uw.k (k:=Sum.inr x) Z.tk<|Yx (by show L.length<=1000;omega),?_⟩;have o:=s2 _ _ hl';refine⟨(fr.trans s2.kfr).put (by simp[KA6.ds]) _,putK L (Sum.inr x)<|.str y,_,Z.put_tk _,λX=>?_,?_,?_,rfl⟩
   .rw [JL]
    by_cases e:X=x
    .subst e
     rw[Zp rfl,Zp ((UV hx).mpr<|.inr rfl)]
    .rw [Zq (λz=>e<|Sum.inr.inj z),tv X]
     have:(X∈J.take (i+1))↔X∈J.take i:=⟨λz=>((UV hx).mp z).resolve_right e,λz=>(UV hx).mpr<|.inl z⟩
     by_cases m:X∈J.take i
     .rw [Zp m,Zp (this.mpr m)]
     .rw [Zq m,Zq (λz=>m<|this.mp z)]
   .have:=Vd L (Sum.inr x)<|.str y;omega
   .rw [Yg (Jl o Z.tk (by intro z;cases z))];exact o
 .rintro U R ⟨fr,L,z,kd',tv,tl,hl',rfl⟩
  rw[lt]at tl;rw[Zg (by omega)]at tv;refine⟨sl 1,λp1 r=>⟨l,_,Y,.inr<|Z2<|(Yv r _) _ _ hl',λp2 p=>?_⟩⟩;refine⟨p1,p2,_,_,Y,Y,(Yg<|Yb Yf p).trans Yf,Yf,Zh (Yx (by simp;omega)),λM G2=>?_⟩;have sx:Same R _:=((Yv r<|.lst [V.non]).trans<|Yv p<|.lst<|J.map V.str).trans<|Yv G2<|.lst<|[V.non]++ J.map V.str;have hp:upd (upd (upd R p1<|.lst [V.non]) p2<|.lst<|J.map V.str) M (.lst<|[V.non]++ J.map V.str) M=some (.lst (.non::J.map V.str)):=Yf;generalize upd (upd (upd R p1<|.lst [V.non]) p2<|.lst<|J.map V.str) M (.lst<|[V.non]++ J.map V.str)=H2 at sx hp |-;have Z:=kd'.mono sx;refine⟨C,_,_,_,Z.ins,T.cl,T.wo,yA _,_,Uw.k (k:=Sum.inr y) Z.wo<|Yx (by show S.wo.length<=1000;omega),?_⟩;have O:=Z.put_wo<|putK S.wo (Sum.inr y)<|.ref M;have G3:upd H2 D.wo (.dK<|putK S.wo (Sum.inr y)<|.ref M) M=some (.lst (.non::J.map V.str)):=by rw[Yg (Jl hp Z.wo (by intro z;cases z))];exact hp
  refine⟨C,_,_,_,O.ins,T.cl,T.he,vj _,_,Uw.k (k:=Sum.inr y) O.he<|Yx (by show S.he.length<=1000;omega),?_⟩;have N:=O.put_he<|putK S.he (Sum.inr y)<|.int 1;refine⟨C,_,_,_,N.ins,T.cl,T.pd,vi _,_,Uw.k (k:=Sum.inr y) N.pd<|Yx (by show S.pd.length<=1000;omega),?_⟩;have G1:=N.put_pd<|putK S.pd (Sum.inr y)<|.int 0;refine q _ L M ?_ G1 tv (by omega) ?_
  .exact ((((fr.trans sx.kfr).put (by simp[KA6.ds]) _).put (by simp[KA6.ds]) _).put (by simp[KA6.ds]) _)
  .have h3:=G3
   have h4:upd (upd H2 D.wo<|.dK<|putK S.wo (Sum.inr y)<|.ref M) D.he (.dK<|putK S.he (Sum.inr y)<|.int 1) M=some (.lst (.non::J.map V.str)):=by rw[Yg (Jl h3 O.he (by intro z;cases z))];exact h3
   rw[Yg (Jl h4 N.pd (by intro z;cases z))];exact h4
end
end K4
namespace L2
open PySem
end L2
namespace K4
open PySem L2
end K4
namespace L2
open PySem
def M0{L:xq}(e:Z.map (·.1)=L.map (λk=>(Sum.inr k.1:Key)))(h:y∉L.map (·.1)):VF Z (Sum.inr y)=none:=by
 unfold VF
 cases q:Z.find? λJ=>decide (J.1=Sum.inr y)with
 |none=>rfl
 |some J=>
  have m:=jp q;have M:=List.find?_some q;have z:J.1=Sum.inr y:=Zt M;have G:(Sum.inr y:Key)∈Z.map (·.1):=ZW.mpr ⟨J,m,z⟩;rw[e]at G;obtain⟨k,N,O⟩:=ZW.mp G;exact Zr (ZW.mpr ⟨k,N,Sum.inr.inj O⟩) h
def US{Z:xq}{s:Shp}(h:z∈(Z++[(y,s)]).map (·.1))(n:z≠y):z∈Z.map (·.1):=by
 rw[ZK,ZX]at h;rcases h with h|h
 .exact h
 .exact Zr (ZQ.mp h) n
def KR.snoc(k:KR H S Z d)(t:TL H A)(L:KK 30 c d Z)(P:KK1 30 c d (Z.map (·.1)) y s)(E:y∉Z.map (·.1))(M:S'.sh=putK S.sh (Sum.inr y) v)(hv:Has A v s.dat)(R:S'.wo=putK S.wo (Sum.inr y) (.ref r))(hr:∃D,A r=some (.lst D)/\HasL A D ((wOf Z 3 s).map W.dat))(B:S'.he=putK S.he (Sum.inr y) (.int (hOf Z 3 s:Nat)))(T:S'.pd=putK S.pd (Sum.inr y) (.int (d y:Nat)))(C:∀x:Str,VF S'.tk (Sum.inr x)=if JK x s=true then some (.str y)else VF S.tk (Sum.inr x))(i:S'.tk.length<=S.tk.length+4)(I:∀x,JK x s=true->JE Z x=none)(X:∀a b:Str,VF S'.pk [Sum.inr a,Sum.inr b]=if JJ a b s=true then some (.str y)else VF S.pk [Sum.inr a,Sum.inr b])(h:S'.pk.length<=S.pk.length+4)(U:∀a b,JJ a b s=true->Vt Z a b=none):
  KR A S' (Z++[(y,s)]) d:=by
 have Q:=k.tl t;have j:=M0 k.ke E
 have hw:VC (Z++[(y,s)]) 3 y=wOf Z 3 s:=by
  rw[WP (Gv E)]
  cases s with
  |tags m=>rfl
  |pair a b=>
   obtain⟨O,N,w,u,f,p⟩:=P;have o:=j6 (d a)<|d b;have l:=jY (d a)<|d b;show(W.non::_)=(W.non::_);rw[Jx L _ 2 a O,Jx L _ 2 b N,UO L 2 3 a O (by omega)<|by omega,UO L 2 3 b N (by omega) (by omega)]
 have hh:GE (Z++[(y,s)]) 3 y=hOf Z 3 s:=by
  rw[X5 (Gv E)]
  cases s with
  |tags m=>rfl
  |pair a b=>
   obtain⟨O,N,w,u,f,p⟩:=P;have o:=j6 (d a)<|d b;have l:=jY (d a)<|d b;show 1+_+_=1+_+_;rw[Ub L _ 2 a O,Ub L _ 2 b N,XS L 2 3 a O (by omega)<|by omega,XS L 2 3 b N (by omega) (by omega)]
 have F:∀{z:Str},z≠y->¬(Sum.inr z:Key)=Sum.inr y:=λn q=>n<|Sum.inr.inj q;obtain⟨b1,b2,b3,b4,b5,b6⟩:=k.ln;exists ?_,λz g G=>?_,λz G=>?_,λz G=>?_,λz G=>?_,λx=>?_,λa b=>?_
 .rw [M,JZ v j,ZK,ZK,k.ke];rfl
 .rw [M,JL]
  by_cases e:z=y
  .subst e
   rw[Gv E]at G;cases G;rw[Zp rfl];exact⟨v,Y,hv⟩
  .rw [Zq (F e)]
   have J:=US (ZW.mpr ⟨_,Xu G,rfl⟩) e;rw[WX J]at G;exact Q.sh z g G
 .rw [R,JL]
  by_cases e:z=y
  .subst e
   rw[Zp rfl,hw];obtain⟨D,g1,g2⟩:=hr;exact⟨r,D,Y,g1,g2⟩
  .rw [Zq (F e)]
   have J:=US G e;rw[Jx L _ 3 z J];exact Q.wo z J
 .rw [B,JL]
  by_cases e:z=y
  .subst e
   rw[Zp rfl,hh]
  .rw [Zq (F e)]
   have J:=US G e;rw[Ub L _ 3 z J];exact k.he z J
 .rw [T,JL]
  by_cases e:z=y
  .subst e
   rw[Zp rfl]
  .rw [Zq (F e)]
   exact k.pd z<|US G e
 .rw [C x]
  have e:JE (Z++[(y,s)]) x=(JE Z x).or (if JK x s=true then some y else none):=by
   unfold JE;rw[XU]
   cases Z.find? λk=>JK x k.2 with
   |some k=>rfl
   |none=>
    show Option.map _ (if JK x s=true then some (y,s)else none)=_;cases JK x s <;> rfl
  rw[e]
  cases hx:JK x s with
  |true=>rw[I x hx];rfl
  |false=>
   rw[k.tk x];cases JE Z x <;> rfl
 .rw [X a b]
  have e:Vt (Z++[(y,s)]) a b=(Vt Z a b).or (if JJ a b s=true then some y else none):=by
   unfold Vt;rw[XU]
   cases Z.find? λk=>JJ a b k.2 with
   |some k=>rfl
   |none=>
    show Option.map _ (if JJ a b s=true then some (y,s)else none)=_;cases JJ a b s <;> rfl
  rw[e]
  cases hx:JJ a b s with
  |true=>rw[U a b hx];rfl
  |false=>
   rw[k.pk a b];cases Vt Z a b <;> rfl
 .rw [ZL,vy,M,R,B,T]
  have:=Vd S.sh (Sum.inr y) v;have:=Vd S.wo (Sum.inr y)<|.ref r;have:=Vd S.he (Sum.inr y)<|.int (hOf Z 3 s:Nat);have:=Vd S.pd (Sum.inr y)<|.int (d y:Nat);exact⟨by omega,by omega,by omega,by omega,by omega,by omega⟩
end L2
namespace K4
open PySem L2
section
variable{f g C gt gp gn:Addr}
def R0(C:Addr):Sp:=λM H Q _=>∃(A:KA6)(S:KC)(y:Str)(v:V)(s:Shp)(Z:xq)(c d:xr),M=[.ref A.t,.str y,v]/\KD H C A S/\KR H S Z d/\KK 30 c d Z/\KK1 30 c d (Z.map (·.1)) y s/\y∉Z.map (·.1)/\
 (1<=y.length/\y.length<=8/\∀c∈y.cps.toList,97<=c/\c<97+26)/\(∃G,s=.tags G/\Wds 65 G)/\(∀x,JK x s=true->JE Z x=none)/\(∀a b,JJ a b s=true->Vt Z a b=none)/\Has H v s.dat/\Z.length<=6/\
 ∀J L,KFr A H J->KD J C A L->KR J L (Z++[(y,s)]) d->Q .non J
def vf(A:KA6):(Ta A).lookup ("take_tags":Str)=none:=rfl
def Oz:Yh ["self","name","shape"] ["self","name","shape"] (Yd Ba):=Y2
def Ks(B:Blt D)(T:KCl K C)(F:Fun K "take" "Kinds.take" Ba f fd)(GN:Ye P w K D base CX0 n gn nd' ["text"] (U4 97))(bN:Binds K nd' ["text"] [])(kN:W.keepIn K (.ref gn)=true)(mN:D "is_name"=some (.ref gn))(GT:Ye P w K D base CX0 n gt td ["self","name","tags"] (BF C))(bT:Binds K td ["self","name","tags"] [])(mT:VM K C "take_tags" gt):
  Ye P w K D base CX0 (n+1) f fd ["self","name","shape"] (R0 C):=by
 refine F.oq Oz λG1 A X s H vs Q E e h=>?_;obtain⟨G,S,y,v,s,ks,c,d,rfl,kd,I,kk,k1,ny,⟨y1,y8,yc⟩,⟨L,rfl,wt⟩,N,j,hv,k6,q⟩:=h;have hu:=JI e;refine⟨_,YY (Y4 (Jg<|JB<|JP GN e rfl mN kN bN .nil Y3 (pa1<|pv 1)) (YZ JU) Yo)
  (YY (Y4 (Uk<|Xk hu (pv 1)<|Yt (pv 0) rfl) (YZ JU) Yo)
  (YY (Y4 (PW.pt<|Bs (Ys Vi (VD Y6 rfl B.len Zu (pa1<|pv 2)) Ya<|Yz _)<|MS<|Ys Vi (Ym Yq (pv 2) Ya) Yp<|Yz _)
   (YZ<|VR<|Y5 (pv 0) T.cl mT GT e bT .nil Y3<|pa2 (pv 1)<|Ym Yq (pv 2) Ya)
   (YZ JU))
  (YZ<|Vw hu (Yt (pv 0) rfl) (pv 1) (pv 2) rfl))),?_⟩
 show let a:=_;let b:=_;let f:=Yn (VH _ b _) a;let g:=_;let h:=Yn (VH _ g _) f;let i:=_;Yn (VH _ i _) h _ _ _
 intros
 refine⟨y,Y,y1,y8,yc,λH1 R=>⟨_,Y,?_⟩⟩;refine Y1 (by simp) ?_;have J:=kd.mono R;have z:=I.tl R.tl;have O:=hv.mono R;have gn:V9 H1 G.sh (.str y) none:=by rw[<-M0 I.ke ny];exact V9.k (k:=Sum.inr y) J.sh
 exists C,_,_,_,J.ins,T.cl,T.sh,Fb _,_,gn,_,Y;refine Y1 (by simp) ?_;obtain⟨b1,b2,b3,b4,b5,b6⟩:=I.ln;obtain⟨p,l,rfl,o,hl⟩:=X9 O;have l2:([V.str "tags",V.ref l]:xg).length=2:=rfl;exists p,_,Y,.inr<|Z2 o,rfl,_,rfl;refine VI (by simp) ?_;exists _,_,Z2 o,Y,Y,_,Y;refine VI (by simp) ?_;obtain⟨t1,t4,_,t0,_⟩:=k1;refine⟨_,_,J.ins,vf _,_,_,Z2 o,Y,G,S,y,l,L,Y,J,hl,t1,t4,wt,λx hx=>?_,by omega,by omega,by omega,by omega,λH2 J2 r f2 Z tv tl u=>?_⟩
 .rw [I.tk x,N x (by unfold JK;exact decide_eq_true hx)];rfl
 .have tl2:=f2.tl J
  refine⟨C,_,_,_,Z.ins,T.cl,T.sh,Fb _,_,Uw.k (k:=Sum.inr y) Z.sh<|Yx (by show S.sh.length<=1000;omega),?_⟩;have t:=Z.put_sh<|putK S.sh (Sum.inr y)<|.ref p;have f3:=f2.put (x:=G.sh) (by simp[KA6.ds])<|.dK<|putK S.sh (Sum.inr y)<|.ref p;have M:=tl2.trans<|(KFr.put (KFr.refl G H2) (x:=G.sh) (by simp[KA6.ds])<|.dK<|putK S.sh (Sum.inr y)<|.ref p).tl Z;have U:=(KFr.put (KFr.refl G H2) (x:=G.sh) (by simp[KA6.ds])<|.dK<|putK S.sh (Sum.inr y)<|.ref p).tl Z;refine q _ _ (R.kfr.trans f3) t<|KR.snoc (v:=.ref p) (r:=r) z M kk ⟨t1,t4,by assumption,t0,by assumption⟩ ny rfl (Has.tl M _ O) rfl ⟨_,U.2 _ _ u,?_⟩ rfl (by rw[t0];rfl) (λx=>?_) tl N (λa b=>rfl) (jy _ _) j
  .show HasL _ (V.non::L.map V.str) ((W.non::L.map W.tag).map W.dat)
   exact Z4 Mi<|M8 L
  .rw [tv x]
   unfold JK
   by_cases m:x∈L
   .rw [Zp m,Zp (decide_eq_true m)]
   .rw [Zq m,Zq (by simp[m])]
end
end K4
namespace L2
open PySem
def Jp(L:H x=some (.ins C Z fs))(G:H p=none):
  upd (upd H p o) x (.ins C Z<|VT f (.ref p) fs) x=some (.ins C Z<|VT f (.ref p) fs)/\upd (upd H p o) x (.ins C Z<|VT f (.ref p) fs) p=some o/\p≠x/\∀b u,b≠x->H b=some u->upd (upd H p o) x (.ins C Z<|VT f (.ref p) fs) b=some u:=by
 have J:p≠x:=(Yb L G).symm;exact⟨Yf,(Yg J).trans Yf,J,λb u M h=>by rw[Yg M,Yg (Yb h G)];exact h⟩
def KK.take(h:KK top c d J)(i:Nat):KK top c d (J.take i):=λj y s e=>by
 have Z:j<i:=by
  have:=(ZF.mp e).1;rw[ZN]at this;omega
 rw[pI,Zp Z]at e;have q:=h j y s e;rw[List.take_take,jE (Zh Z)];exact q
def QA{i j a b:Nat}(h:4*i+a=4*j+b)(J:a<4)(Z:b<4):i=j:=by omega
def KG.apart(g:KG M){i j:Nat}(E:M[i]?=some (y,.tags G))(D:M[j]?=some (z,.tags J))(A:x∈G)(F:x∈J):i=j:=by
 obtain⟨Z,wd,q⟩:=g.tg;obtain⟨r,X,rfl⟩:=q i y G E;obtain⟨C,B,rfl⟩:=q j z J D;obtain⟨a,O,T⟩:=jJ.mp A;obtain⟨b,N,R⟩:=jJ.mp F;rw[ZN,qG]at O N;obtain⟨Q,U⟩:=Nat.lt_min.mp O;obtain⟨P,S⟩:=Nat.lt_min.mp N;rw[List.getElem_take,List.getElem_drop]at T R;have e:Z[4*i+a]'(Nat.add_lt_of_lt_sub' U)=Z[4*j+b]'(Nat.add_lt_of_lt_sub' S):=T.trans R.symm;have L:=jD.mp wd.nd
 have I:4*i+a=4*j+b:=by
  rcases qY (4*i+a) (4*j+b)with h|h|h
  .exact Zr e (L _ _ _ _ h)
  .exact h
  .exact Zr e.symm (L _ _ _ _ h)
 exact QA I (by omega)<|by omega
def KG.ntk(g:KG Z)(T:Z[i]?=some (y,s))(x:Str)(h:JK x s=true):JE (Z.take i) x=none:=by
 cases s with
 |pair a b=>cases h
 |tags N=>
  have R:x∈N:=Zt h;unfold JE
  cases e:(Z.take i).find? λk=>JK x k.2 with
  |none=>rfl
  |some k=>
   have m:=jp e;have q:=List.find?_some e;obtain⟨z,O⟩:=k
   cases O with
   |pair a b=>cases q
   |tags L=>
    have J:x∈L:=Zt q;obtain⟨j,M,B⟩:=jJ.mp m;have G:j<i:=by rw[ZN]at M;omega
    have D:Z[j]?=some (z,.tags L):=by
     have:=ZD M;rw[B,pI,Zp G]at this;exact this
    have:=g.apart T D R J;omega
def KG.npk(g:KG J)(N:J[i]?=some (y,s))(a b:Str)(h:JJ a b s=true):Vt (J.take i) a b=none:=by
 have L:∀{Z:Shp},JJ a b Z=true->Z=.pair a b:=λ{Z} h=>by
  cases Z with
  |tags D=>cases h
  |pair c e=>
   unfold JJ at h;rw[ZZ]at h;rw[Zt h.1,Zt h.2]
 unfold Vt
 cases e:(J.take i).find? λk=>JJ a b k.2 with
 |none=>rfl
 |some k=>
  have m:=jp e;have q:=List.find?_some e;obtain⟨z,Z⟩:=k;have B:=L h;have R:Z=.pair a b:=L q;subst B R;obtain⟨j,M,O⟩:=jJ.mp m;have G:j<i:=by rw[ZN]at M;omega
  have T:J[j]?=some (z,.pair a b):=by
   have:=ZD M;rw[O,pI,Zp G]at this;exact this
  have:=g.pr i j y z a b N T;omega
end L2
namespace K4
open PySem L2
section
variable{f g C gt:Addr}
def BH(C:Addr):Sp:=λL H Q _=>∃(x N l:Addr)(G:xg)(Z:xq)(c d:xr),L=[.ref x,.ref l]/\H x=some (.ins C N [])/\H l=some (.lst G)/\HasL H G (Z.map NY)/\KK 30 c d Z/\(Z.map (·.1)).Nodup/\KG Z/\(∀k∈Z,∃M,k.2=.tags M)/\0<Z.length/\Z.length<=6/\
 ∀J,(∀b o,b≠x->H b=some o->J b=some o)->KI J C x Z d->Q .non J
def yB(A:KA6):(Ta A).lookup ("take":Str)=none:=rfl
def BQ:Yh ["self","told","name","shape"] ["self","told"] (Yd KA):=Y2
def Pm(B:Blt mg)(T:KCl K C)(F:Fun K "__init__" "Kinds.__init__" KA f fd)(hM:mg "MOST_KINDS"=some u)(rM:RelV (.int 6) u)(GT:Ye P w K mg base CX0 n gt td ["self","name","shape"] (R0 C))(bT:Binds K td ["self","name","shape"] [])(mT:VM K C "take" gt):
  Ye P w K mg base CX0 (n+1) f fd ["self","told"] (BH C):=by
 refine F.oq BQ λS3 A T3 s H vs Q E hr h=>?_;obtain⟨x,M,l,xs,ks,c,d,rfl,hx,hl,G3,kk,nd,kg,tg,k0,k6,q⟩:=h;refine⟨_,YY (Y4 (Jg<|Xy XY XY Ya (VD Y6 rfl B.len Zu (pa1<|pv 1))<|Ji rfl hM rM) (YZ JU) Yo)
  (YY (VX (pv 0) Vz rfl) (YY (VX (pv 0) Vz rfl) (YY (VX (pv 0) Vz rfl) (YY (VX (pv 0) Vz rfl) (YY (VX (pv 0) Vz rfl) (YY (VX (pv 0) KS rfl)
  (YZ (JC Zv rfl (UQ<|pv 1) (VU (n:=2) rfl (Yk (Yl 2 BQ.nd)<|Yk (Yl 3 BQ.nd) VJ))
   (YZ<|VR<|Y5 (pv 0) T.cl mT GT hr bT .nil Y3<|pa2 (pv 2)<|pv 3))))))))),?_⟩
 show let a:=_;let b:=U1 _ _ a;let c:=Yn _ b;let d:=Yn _ c;let e:=Yn _ d;let f:=Yn _ e;let g:=Yn _ f;let h:=Yn _ g;let i:=_;Yn (VH _ i _) h _ _ _
 intros
 have lx:=G3.length;rw[ZA]at lx;exists l,_,Y,.inl<|Z3 hl,_,rfl;refine VI (by simp;omega) ?_;exists _,Y;refine Y1 (by simp;omega) ?_;intro X J2;refine⟨x,C,M,_,Y,by rw[Yg (Yb hx J2)];exact hx,T.cl,T.sh,by decide,?_⟩;obtain⟨x1,a1,n1,r⟩:=Jp (f:="shapes") (o:=.dK []) hx J2;generalize upd (upd H X<|.dK []) x (.ins C M<|VT "shapes" (.ref X) [])=H1 at x1 a1 r |-;intro p2 N;refine⟨x,C,M,_,Y,by rw[Yg (Yb x1 N)];exact x1,T.cl,T.wo,(by show 1<1000;decide),?_⟩;obtain⟨x2,a2,n2,p⟩:=Jp (f:="worths") (o:=.dK []) x1 N;generalize upd (upd H1 p2<|.dK []) x (.ins C M<|VT "worths" (.ref p2)<|VT "shapes" (.ref X) [])=H2 at x2 a2 p |-;intro p3 L;refine⟨x,C,M,_,Y,by rw[Yg (Yb x2 L)];exact x2,T.cl,T.he,(by show 2<1000;decide),?_⟩;obtain⟨x3,a3,n3,k⟩:=Jp (f:="heights") (o:=.dK []) x2 L;generalize upd (upd H2 p3<|.dK []) x (.ins C M<|VT "heights" (.ref p3)<|VT "worths" (.ref p2)<|VT "shapes" (.ref X) [])=H3 at x3 a3 k |-;intro p4 G;refine⟨x,C,M,_,Y,by rw[Yg (Yb x3 G)];exact x3,T.cl,T.pd,(by show 3<1000;decide),?_⟩;obtain⟨x4,a4,n4,m⟩:=Jp (f:="pairs_deep") (o:=.dK []) x3 G;generalize upd (upd H3 p4<|.dK []) x (.ins C M<|VT "pairs_deep" (.ref p4)<|VT "heights" (.ref p3)<|VT "worths" (.ref p2)<|VT "shapes" (.ref X) [])=H4 at x4 a4 m |-;intro p5 J;refine⟨x,C,M,_,Y,by rw[Yg (Yb x4 J)];exact x4,T.cl,T.tk,(by show 4<1000;decide),?_⟩;obtain⟨x5,a5,n5,t⟩:=Jp (f:="tag_kinds") (o:=.dK []) x4 J;generalize upd (upd H4 p5<|.dK []) x (.ins C M<|VT "tag_kinds" (.ref p5)<|VT "pairs_deep" (.ref p4)<|VT "heights" (.ref p3)<|VT "worths" (.ref p2)<|VT "shapes" (.ref X) [])=H5 at x5 a5 t |-;intro p6 Z;refine⟨x,C,M,_,Y,by rw[Yg (Yb x5 Z)];exact x5,T.cl,T.pk,(by show 5<1000;decide),?_⟩;obtain⟨x6,a6,n6,j⟩:=Jp (f:="pair_kinds") (o:=.dT []) x5 Z;generalize upd (upd H5 p6<|.dT []) x (.ins C M<|VT "pair_kinds" (.ref p6)<|VT "tag_kinds" (.ref p5)<|VT "pairs_deep" (.ref p4)<|VT "heights" (.ref p3)<|VT "worths" (.ref p2)<|VT "shapes" (.ref X) [])=H6 at x6 a6 j |-
 let D:KA6:=⟨x,M,X,p2,p3,p4,p5,p6⟩
 have frame:∀b o,b≠x->H b=some o->H6 b=some o:=λb o R h=>j b o R<|t b o R<|m b o R<|k b o R<|p b o R<|r b o R h;have T1:=p _ _ n1 a1;have T0:=k _ _ n1 T1;have R8:=m _ _ n1 T0;have R7:=t _ _ n1 R8;have I9:=j _ _ n1 R7;have R6:=k _ _ n2 a2;have R5:=m _ _ n2 R6;have R4:=t _ _ n2 R5;have I8:=j _ _ n2 R4;have R3:=m _ _ n3 a3;have R1:=t _ _ n3 R3;have I7:=j _ _ n3 R1;have O1:=t _ _ n4 a4;have I6:=j _ _ n4 O1;have I5:=j _ _ n5 a5
 have T4:D.ds.Nodup:=by
  have I4:=Yb a1 N;have I3:=Yb T1 L;have I2:=Yb T0 G;have I1:=Yb R8 J;have F9:=Yb R7 Z;have F8:=Yb a2 L;have F7:=Yb R6 G;have F6:=Yb R5 J;have F5:=Yb R4 Z;have F4:=Yb a3 G;have F3:=Yb R3 J;have F2:=Yb R1 Z;have F1:=Yb a4 J;have D3:=Yb O1 Z;have D0:=Yb a5 Z;simp[KA6.ds,D,I4,I3,I2,I1,F9,F8,F7,F6,F5,F4,F3,F2,F1,D3,D0]
 have kd:KD H6 C D ⟨[],[],[],[],[],[]⟩:=⟨x6,I9,I8,I7,I6,I5,a6,T4⟩
 have new:∀b,b∈D.ds->H b=none:=λb R=>by
  cases e:H b with
  |none=>rfl
  |some o=>
   simp only[KA6.ds,D,Zd,qH,or_false]at R;rcases R with z|z|z|z|z|z
   .subst z;rw[J2]at e;cases e
   .subst z;rw[r _ _ n2 e]at N;cases N
   .subst z;rw[p _ _ n3 (r _ _ n3 e)]at L;cases L
   .subst z;rw[k _ _ n4 (p _ _ n4<|r _ _ n4 e)]at G;cases G
   .subst z;rw[m _ _ n5 (k _ _ n5<|p _ _ n5<|r _ _ n5 e)]at J;cases J
   .subst z;rw[t _ _ n6 (m _ _ n6<|k _ _ n6<|p _ _ n6<|r _ _ n6 e)]at Z;cases Z
 have T5:l≠x:=Jl hl hx (by intro z;cases z);have M2:=frame _ _ T5 hl;have G1:TL H H6:=⟨λb ys h=>frame _ _ (Jl h hx (by intro z;cases z)) h,λb ys h=>frame _ _ (Jl h hx (by intro z;cases z)) h⟩;have T7:=HasL.tl G1 _ G3;exists ⟨_,Z3 M2⟩
 let I:xi:=λi U H'=>∃S z1 z2,KFr D H6 H'/\KD H' C D S/\KR H' S (ks.take i) d/\U=[some (.ref x),some<|.ref l,z1,z2]
 refine Mp (xs:=xs) I ⟨_,_,_,KFr.refl _ _,kd,?_,Y⟩ ?_ ?_ ?_
 .rw [pe]
  exact⟨Y,λy s e=>by simp[Vc]at e,λy hy=>by simp at hy,λy hy=>by simp at hy,λy hy=>by simp at hy,λy=>Y,λa b=>Y,by decide⟩
 .rintro i U H' _ ⟨S,z1,z2,fr,kd',kr',rfl⟩
  exact Z3<|(fr.tl kd).2 _ _ M2
 .rintro BB RR i v U H' hv ⟨S,z1,z2,fr,kd',kr',rfl⟩
  have S1:=(ZF.mp hv).1;obtain⟨dv,O,T9⟩:=T7.get hv;rw[ZH]at O
  cases hk:ks[i]? with
  |none=>rw[hk]at O;cases O
  |some ys=>
   rw[hk]at O;cases O;obtain⟨y,sh⟩:=ys;have T2:=fr.tl kd;obtain⟨a,v2,rfl,ha,T8⟩:=Lj<|Has.tl T2 _ T9;have my:y∈ks.map (·.1):=ZW.mpr ⟨_,ZJ hk,rfl⟩
   have ny:y∉(ks.take i).map (·.1):=λhm=>by
    have q':((ks.take i++[(y,sh)]).map (·.1)).Nodup:=by rw[<-take_snoc hk];exact nd.sublist<|(jR _ _).map _
    rw[ZK]at q';exact(ji.mp q').2.2 y hm y (by simp) rfl
   exists _,Z2 ha,Y;refine⟨_,_,kd'.ins,yB D,D,S,y,v2,sh,ks.take i,c,d,Y,kd',kr',kk.take i,kk i y sh hk,ny,⟨(kg.nm.len y my).1,(kg.nm.len y my).2,kg.nm.abc y my⟩,?_,kg.ntk hk,kg.npk hk,T8,by rw[ZN];omega,λH2 S2 f2 T6 G2=>?_⟩
   .obtain ⟨ts,e⟩:=tg _<|ZJ hk
    have e':sh=.tags ts:=e;subst e';exact⟨ts,Y,kg.tags<|ZJ hk⟩
   .rw [<-take_snoc hk]at G2
    exact⟨S2,_,_,fr.trans f2,T6,G2,Y⟩
 .rintro U H' ⟨S,z1,z2,fr,kd',kr',rfl⟩
  rw[Zg (by omega)]at kr';refine q H' (λb o R h=>fr b o (λhm=>?_)<|frame b o R h) ⟨D,S,rfl,kd',kr'⟩;rw[new b hm]at h;cases h
end
end K4
namespace L2
open PySem
def Td{α:Type}{p:α->Bool}{l:List α}{x:α}(h:(l.take i).find? p=none)(e:l[i]?=some x)(Z:p x=true):l.find? p=some x:=by
 have J:=(ZF.mp e).1;have G:l.drop i=x::l.drop (i+1):=by rw[List.drop_eq_getElem_cons J,(ZF.mp e).2]
 rw[<-kT i l,List.find?_append,h,G,jB,Z]
 rfl
def Qc(h:Vc Z y=some s):∃i:Nat,Z[i]?=some (y,s):=jn.mp<|Xu h
def N7(g:KG Z)(h:Vc Z y=some (.tags J))(m:t∈J):JE Z t=some y:=by
 obtain⟨i,L⟩:=Qc h;have G:JK t (.tags J)=true:=by unfold JK;exact decide_eq_true m
 have n:=g.ntk L t G;unfold JE at n |-
 rw[Td (by cases e:(Z.take i).find? λk=>JK t k.2 with
  |none=>rfl
  |some k=>rw[e]at n;cases n) L G]
 rfl
def NL(g:KG Z)(h:Vc Z y=some (.pair a b)):Vt Z a b=some y:=by
 obtain⟨i,G⟩:=Qc h;have J:JJ a b (.pair a b)=true:=by unfold JJ;simp
 have n:=g.npk G a b J;unfold Vt at n |-
 rw[Td (by cases e:(Z.take i).find? λk=>JJ a b k.2 with
  |none=>rfl
  |some k=>rw[e]at n;cases n) G J]
 rfl
def Lh(h:Has H v (.tup [.str b,d])):∃a u,v=.ref a/\H a=some (.tup [.str b,u])/\Has H u d:=by
 obtain⟨t,R,rfl,L,M⟩:=Yr h;obtain⟨T,D,rfl,O,J⟩:=Yc M;obtain⟨G,B,rfl,N,Z⟩:=Yc J;obtain rfl:=VB Z;obtain rfl:=has_str O;exact⟨t,G,Y,L,N⟩
def Fl:List (Option Str)->Option (pX)
 |[]=>some []
 |none::_=>none
 |some x::r=>(Fl r).map (x:: ·)
theorem Nw:∀Z:pX,Fl (Z.map some)=some Z
 |[]=>rfl
 |z::Z=>by show(Fl<|Z.map some).map (z:: ·)=_;rw[Nw Z];rfl
theorem Rb:∀{l:List (Option Str)},none∈l->Fl l=none
 |none::l,_=>rfl
 |some y::l,h=>by
  show(Fl l).map (y:: ·)=none;rw[Rb ((Zd.mp h).resolve_left λe=>nomatch e)];rfl
theorem Ez:∀{l:List (Option Str)},none∉l->∃Z,l=List.map some Z
 |[],_=>⟨[],rfl⟩
 |none::_,h=>Zr Za h
 |some y::l,h=>let⟨Z,e⟩:=Ez (l:=l) λm=>h<|ZM _ m;⟨y::Z,by rw[e];rfl⟩
def On:V->Option Str
 |.str y=>some y
 |_=>none
open Classical in
noncomputable def own (ks:xq) (hd:Hds) (kv:xf):Bd->List Str->Option Str
 |.tag t,_=>JE ks t
 |.name x,_=>(VF kv<|Sum.inr x).bind On
 |.pair _ _,zs=>match zs with|[a,b]=>Vt ks a b|_=>none
 |.one _,zs=>match zs with|[z]=>(match Vc ks z with|some (.pair a _)=>some a|_=>none)|_=>none
 |.other _,zs=>match zs with|[z]=>(match Vc ks z with|some (.pair _ b)=>some b|_=>none)|_=>none
 |.choose _ ts _,zs=>match zs with|z::y::r=>if Vc ks z=some (.tags ts)/\∀u∈r,u=y then some y else none|_=>none
 |.ask f _,zs=>match hd f with|some (ps,k)=>if ps.map (·.2)=zs then some k else none|none=>none
 |.letb _ z _ _,zs=>match zs with|[a,y]=>if a=z then some y else none|_=>none
def J3(ks:xq)(kv:xf):Bd->Prop
 |.letb x z _ _=>(VF kv<|Sum.inr x).isSome=true\/z∉ks.map (·.1)
 |_=>False
open Classical in
noncomputable def kdn (ks:xq) (hd:Hds):Nat->List (Key×V)->Bd->Option Str
 |0,_,_=>none
 |n+1,kv,b=>if J3 ks kv b then none else(Fl<|b.parts.map<|kdn ks hd n<|wth kv b).bind (own ks hd kv b)
def Gc(h:J3 J Z b):kdn J hd (n+1) Z b=none:=by unfold kdn;exact Zp h
def TJ(h:none∈b.parts.map (kdn J hd n<|wth Z b)):kdn J hd (n+1) Z b=none:=by
 unfold kdn;split
 .rfl
 .rw [Rb h];rfl
def Mc(h:¬J3 J Z b)(e:b.parts.map (kdn J hd n<|wth Z b)=G.map some):kdn J hd (n+1) Z b=own J hd Z b G:=by unfold kdn;rw[Zq h,e,Nw];rfl
def NK(ns:pX)(kv:xf):Prop:=∀q∈kv,∃(x k:Str),q=(Sum.inr x,V.str k)/\k∈ns
def HK(ns:pX)(hd:Hds):Prop:=∀f Z k,hd f=some (Z,k)->k∈ns
def NK.wth(h:NK (J.map (·.1)) Z)(G:¬J3 J Z b):NK (J.map (·.1)) (wth Z b):=by
 cases b with
 |letb x z e g=>
  intro q L;rcases KJ L with m|rfl
  .exact h q m
  .exact ⟨x,z,rfl,Classical.not_not.mp λm=>G<|.inr m⟩
 |_=>exact h
def Nh{Z:xq}{p:Str×Shp->Bool}(h:(Z.find? p).map (·.1)=some y):y∈Z.map (·.1):=by
 obtain⟨k,J,rfl⟩:=Zj.mp h;exact ZW.mpr ⟨k,jp J,Y⟩
def NK.at(h:NK Z J)(e:VF J (Sum.inr x)=some v):∃k,v=.str k/\k∈Z:=by
 obtain⟨q,m,_,rfl⟩:=Fz e;obtain⟨_,k,rfl,G⟩:=h q m;exact⟨k,Y,G⟩
def PZ(G:KK 30 c d Z)(N:NK (Z.map (·.1)) J)(R:HK (Z.map (·.1)) hd)(L:∀z∈M,z∈Z.map (·.1))(h:own Z hd J b M=some y):y∈Z.map (·.1):=by
 cases b with
 |tag t=>exact Nh h
 |name x=>
  obtain⟨v,O,e⟩:=Option.bind_eq_some_iff.mp (show(VF J<|Sum.inr x).bind On=some y from h);obtain⟨k,rfl,m⟩:=N.at O;cases e;exact m
 |pair a b=>
  unfold own at h;dsimp only at h;split at h
  .exact Nh h
  .cases h
 |one e=>
  unfold own at h;dsimp only at h;split at h
  .split at h
   .rename_i hs;cases h;exact(G.at hs).1
   .cases h
  .cases h
 |other e=>
  unfold own at h;dsimp only at h;split at h
  .split at h
   .rename_i hs;cases h;exact(G.at hs).2.1
   .cases h
  .cases h
 |choose e T B=>
  unfold own at h;dsimp only at h;split at h
  .split at h
   .cases h;exact L _<|by simp
   .cases h
  .cases h
 |ask f D=>
  unfold own at h;dsimp only at h;split at h
  .split at h
   .rename_i hf _;cases h;exact R _ _ _ hf
   .cases h
  .cases h
 |letb x z e g=>
  unfold own at h;dsimp only at h;split at h
  .split at h
   .cases h;exact L _<|by simp
   .cases h
  .cases h
theorem Ea(G:KK 30 c d Z)(L:HK (Z.map (·.1)) hd):∀(n:Nat)(J:xf)(b:Bd)(y:Str),NK (Z.map (·.1)) J->kdn Z hd n J b=some y->y∈Z.map (·.1)
 |0,_,_,_,_,h=>nomatch h
 |n+1,J,b,y,nk,h=>by
  by_cases nb:J3 Z J b
  .rw [Gc nb]at h;cases h
  by_cases hn:none∈b.parts.map (kdn Z hd n<|wth J b)
  .rw [TJ hn]at h;cases h
  obtain⟨O,M⟩:=Ez hn;rw[Mc nb M]at h;refine PZ G nk L (λz N=>?_) h;have m:some z∈b.parts.map (kdn Z hd n<|wth J b):=by rw[M];exact ZW.mpr ⟨z,N,Y⟩
  obtain⟨p,_,e⟩:=ZW.mp m;exact Ea G L n _ p z (nk.wth nb) e
def AE(N:KG L)(E:∀e G J,b=.choose e G J->1<=J.length)(h:Kr L hd M y b R):own L hd M b R=some y:=by
 cases b with
 |tag t=>obtain⟨_,G,Z,T⟩:=h;exact N7 N Z T
 |name x=>obtain⟨_,Z⟩:=h;show(VF M<|Sum.inr x).bind On=_;rw[Z];rfl
 |pair a b=>obtain⟨S,O,rfl,Z⟩:=h;exact NL N Z
 |one e=>obtain⟨z,O,rfl,Z⟩:=h;show(match Vc L z with|some (.pair a _)=>some a|_=>none)=_;rw[Z]
 |other e=>obtain⟨z,O,rfl,Z⟩:=h;show(match Vc L z with|some (.pair _ b)=>some b|_=>none)=_;rw[Z]
 |choose e G J=>
  obtain⟨z,rfl,Z,A⟩:=h;have:=E e G J rfl;obtain⟨m,D⟩:∃m,J.length=m+1:=⟨J.length-1,by omega⟩;rw[D,jV];exact Zp ⟨Z,λu B=>List.eq_of_mem_replicate B⟩
 |ask f I=>
  obtain⟨F,Z,rfl⟩:=h;unfold own;dsimp only;rw[Z];exact Zp Y
 |letb x z e g=>obtain⟨rfl,_,_⟩:=h;exact Zp Y
theorem Kd.kdn(T:KG G)(O:∀z L,Vc G z=some (.tags L)->1<=L.length):∀(n:Nat)(J:xf)(b:Bd)(y:Str),Kd G hd J y b->b.dep<n->L2.kdn G hd n J b=some y
 |0,_,_,_,_,h=>nomatch h
 |n+1,J,b,y,h,hn=>by
  obtain⟨Z,M,R,F⟩:=h.inv
  have D:¬J3 G J b:=by
   cases b with
   |letb x z e g=>obtain⟨_,N,A⟩:=M;exact λm=>m.elim (λm=>by rw[N]at m;cases m) λm=>m A
   |_=>exact id
  have e:b.parts.map (L2.kdn G hd n<|L2.wth J b)=Z.map some:=by
   refine pO λi=>?_;rw[ZH,ZH]
   cases hp:b.parts[i]? with
   |none=>
    have:Z[i]?=none:=qU.mpr (by rw[R];exact qU.mp hp);rw[this];rfl
   |some p=>
    have I:i<Z.length:=by rw[R];exact(ZF.mp hp).1
    have B:Z[i]?=some Z[i]:=ZD I;have:=Bd.dep_mem<|ZJ hp;rw[B];exact congrArg some<|Kd.kdn T O n _ p _ (F i p _ hp B)<|by omega
  rw[Mc D e];refine AE T (λU L C S=>?_) M;subst S;obtain⟨z,_,N,E⟩:=M;rw[E];exact O _ _ N
def wrs(f:Bd->List (pZ)):Nat->List Bd->List (pZ)
 |_,[]=>[]
 |k,c::cs=>(f c).map (((k:Nat):Int):: ·)++ wrs f (k+1) cs
open Classical in
noncomputable def wr (ks:xq) (hd:Hds):Nat->List (Key×V)->Bd->List (pZ)
 |0,_,_=>[]
 |n+1,kv,b=>if J3 ks kv b then[[]]else if none∈b.parts.map (kdn ks hd n<|wth kv b)then wrs (wr ks hd n<|wth kv b) 0 b.parts else if kdn ks hd (n+1) kv b=none then[[]]else[]
theorem Rg{f:Bd->List (pZ)}:∀(k:Nat)(Z J:List Bd),wrs f k (Z++ J)=wrs f k Z++ wrs f (k+Z.length) J
 |k,[],J=>by simp[wrs]
 |k,x::Z,J=>by
  have e:k+1+Z.length=k+(Z.length+1):=by omega
  simp[wrs,Rg (k+1) Z J,e]
def Fn{f:Bd->List (pZ)}{Z:List Bd}(h:Z[i]?=some c):wrs f 0 (Z.take<|i+1)=wrs f 0 (Z.take i)++ (f c).map (((i:Nat):Int):: ·):=by
 have J:=(ZF.mp h).1;rw[take_snoc h,Rg];simp[wrs,ZN,jE (Zh J)]
theorem Rf{f:Bd->List (pZ)}:∀(k:Nat)(Z:List Bd),wrs f k Z=[]↔∀c∈Z,f c=[]
 |k,[]=>by simp[wrs]
 |k,x::Z=>by simp[wrs,Rf (k+1) Z]
theorem Rh:∀(n:Nat)(Z:xf)(b:Bd),b.dep<n->(wr J hd n Z b=[]↔kdn J hd n Z b≠none)
 |0,_,_,h=>Zr h<|Zw _
 |n+1,Z,b,h=>by
  unfold wr
  by_cases c1:J3 J Z b
  .rw [Zp c1,Gc c1];simp
  .rw [Zq c1]
   by_cases c2:none∈b.parts.map (kdn J hd n<|wth Z b)
   .rw [Zp c2,TJ c2]
    refine⟨λe=>?_,λe=>Zr Y e⟩;obtain⟨c,G,L⟩:=ZW.mp c2;have M:=Bd.dep_mem G;exact Zr L<|(Rh n (wth Z b) c<|by omega).mp<|(Rf 0 _).mp e c G
   .rw [Zq c2]
    by_cases c3:kdn J hd (n+1) Z b=none
    .rw [Zp c3];simp[c3]
    .rw [Zq c3];simp[c3]
def Oe(h:¬J3 J Z b)(e:none∈b.parts.map (kdn J hd n<|wth Z b)):wr J hd (n+1) Z b=wrs (wr J hd n<|wth Z b) 0 b.parts:=by
 unfold wr;rw[Zq h,Zp e]
def Fq(h:J3 J Z b):[[]]=wr J hd (n+1) Z b:=by unfold wr;rw[Zp h]
def Q7(h:¬J3 J Z b)(e:none∉b.parts.map (kdn J hd n<|wth Z b))(k:kdn J hd (n+1) Z b=none):[[]]=wr J hd (n+1) Z b:=by unfold wr;rw[Zq h,Zq e,Zp k]
def Fp{G:List Bd}(h:∀c∈G,c.dep<n):wrs (wr L hd n J) k G=[]↔none∉G.map (kdn L hd n J):=by
 rw[Rf]
 constructor
 .intro z m
  obtain⟨c,Z,e⟩:=ZW.mp m;exact(Rh n J c<|h c Z).mp (z c Z) e
 .intro z c Z
  exact(Rh n J c<|h c Z).mpr λe=>z<|ZW.mpr ⟨c,Z,e⟩
def E2{f:Bd->List (pZ)}{Z:List Bd}(h:Z[i]?=some c)(e:wrs f 0 (Z.take i)=[])(J:f c=w::r):∃t,wrs f 0 Z=(((i:Nat):Int)::w)::t:=by
 exists r.map (((i:Nat):Int):: ·)++ wrs f (0+(Z.take<|i+1).length) (Z.drop<|i+1)
 conv=>lhs;rw[<-kT (i+1) Z]
 rw[Rg,Fn h,e,J];simp
end L2
namespace L2
open PySem PySem.Spec PyProof.Rows
section
variable{X:Cx}{CX:CXT}{k:Nat}{E:XK}{ta ti:TE}{t:TA}
def SQ(X:Cx)(CX:CXT)(k:Nat)(E:XK)(ta:TE)(t:TA):TE:=λU H Q=>ta U H λv L=>∃(f:Addr)(G:FuncData)(J:pX)(Z:Sp),v=.ref f/\Ye X.prog X.w X.K X.mg X.base CX k f G J Z/\W.keepIn X.K (.ref f)=true/\Binds X.K G J []/\M9 Z [] E t U L Q
def Ka(S:PE X (.Name x p) ta)(D:Vn k X.A)(B:Uv CX X E)(j:PA X (e::J) t)(C:starEach (e::J) X.env=(false,eval e X.env)::starEach J X.env:=by rfl)(G:(backTo pos<|starEach J X.env).any (·.1)=false:=by rfl):
  PE X (.Call (.Name x p) (e::J) [] pos) (SQ X CX k E ta t):=by
 intro Z s U H Q I h;refine qC<|thn (S Z s U H _ I h) λu N ⟨v,z,M,R,f,r,w,c,y,F,A,P,q⟩=>?_;subst y;obtain rfl:u=Value.ref f:=R;refine px (h₀:=X.base) M.ok.mod.kin A (thn (j pos Z N U z _ M q) λg d ⟨m,l,L,O,T⟩=>⟨L.kIn,?_⟩) C G;exact G0 F D P .nil B L O T
def CV(a:Addr)(m:Key->Option Value)(ti:TE):TE:=λU H Q=>ti U H λv Z=>∃(q:Key)(u:Value)(y:V),v=kV q/\m q=some u/\RelV y u/\Q y Z
def PQ(A:Gl X x)(D:X.mg x=some (.ref a))(S:X.base.MapOf (VA X.prog X.w) a m)(f:X.A.units+1<cLine)(F:PE X i ti)(B:QR i)(G:(x==("__debug__":Str))=false:=by decide):
  PE X (.Subscript (.Name x p) i pos) (CV a m ti):=by
 intro Z s U H Q I h;refine Rq PySem.F.slot_dict_getitem.lookup B<|Ga I A D ?_ G;refine thn (F Z s U H _ I h) λd L ⟨v,c,N,O,q,u,y,P,T,J,R⟩=>?_;subst P;have M:L.heap.MapOf (VA X.prog X.w) a m:=let⟨o,j,z,C,r⟩:=S;⟨o,j,z,N.bk _ _ C,r⟩
 have g:L.TypeIs (.ref a) "dict":=M.typeIs;exists g;exact wpAny_getItem_of (XA O) M T ⟨y,c,N.tok _,J,R⟩
end
end L2
namespace L2
open PySem
structure BA where
 t:Addr
 dx:Addr
 so:Addr
 td:Addr
 rd:Addr
 tn:Addr
def UU(A:BA):List (Str×V):=[("sorts",.ref A.so),("told",.ref A.td),("rows",.ref A.rd),("turns",.ref A.tn)]
def psD(ps:List (Str×Str)):Dat:=.tup<|ps.map λp=>.tup [.str p.1,.str p.2]
def U3(x:Dd):Dat:=.tup [psD x.1.2.1,.str x.1.2.2,x.2.dat]
structure BD(H:Hp)(C CK:Addr)(A:BA)(kv:List (Key×V))(ks:List (Str×Shp))(d:Str->Nat)(ds:List Dd):Prop where
 ins:H A.t=some (.ins C A.dx (UU A))
 so:KI H CK A.so ks d
 td:H A.td=some (.dK kv)
 ke:kv.map (·.1)=ds.map (λx=>(Sum.inr x.1.1:Key))
 va:HasL H (kv.map (·.2)) (ds.map U3)
 nd:(ds.map λx=>x.1.1).Nodup
def BI(H:Hp)(C CK t:Addr)(ks:xq)(d:xr)(ds:List Dd):Prop:=∃A Z,A.t=t/\BD H C CK A Z ks d ds
def BI.mono(b:BI H C M t J d G)(e:Same H L):BI L C M t J d G:=by
 obtain⟨A,Z,h,k⟩:=b;exact⟨A,Z,h,e _ _ k.ins,k.so.mono e,e _ _ k.td,k.ke,k.va.mono e,k.nd⟩
structure BCl(K:W.Frag)(C:Addr):Prop where
 cl:Cls K C
 so:VG K C "sorts"
 td:VG K C "told"
 rd:VG K C "rows"
 tn:VG K C "turns"
def Lr(A:BA):(UU A).lookup ("sorts":Str)=some (V.ref A.so):=rfl
def FZ(A:BA):(UU A).lookup ("told":Str)=some (V.ref A.td):=rfl
def Aq(A:BA):(UU A).lookup ("told_of":Str)=none:=rfl
def BD.at(b:BD H C I A J E d O)(h:x∈O):∃v,V9 H A.td (.str x.1.1) (some v)/\Has H v (U3 x):=by
 obtain⟨i,M⟩:=jn.mp h;have Z:(J.map (·.1))[i]?=(O.map λx=>(Sum.inr x.1.1:Key))[i]?:=by rw[b.ke]
 rw[ZH,ZH,M]at Z
 cases ek:J[i]? with
 |none=>rw[ek]at Z;cases Z
 |some q=>
  rw[ek]at Z;have B:q.1=Sum.inr x.1.1:=ZT Z
  have T:(J.map (·.1)).Nodup:=by
   rw[b.ke];have G:=b.nd;unfold List.Nodup at G |-;rw[qX]at G |-;exact G.imp λL z=>L<|Sum.inr.inj z
  obtain⟨F,R,D⟩:=b.va.get (show(J.map (·.2))[i]?=some q.2 by rw[ZH,ek];rfl);rw[ZH,M]at R;cases R;refine⟨q.2,?_,D⟩;have N:=D7 T<|ZJ ek;rw[B]at N;rw[<-N];exact V9.k (k:=Sum.inr x.1.1) b.td
def X8(h:Has H v (U3 x)):∃a u w,v=.ref a/\H a=some (.tup [u,.str x.1.2.2,w])/\Has H u (psD x.1.2.1)/\Has H w x.2.dat:=by
 unfold U3 at h;obtain⟨t,D,rfl,N,O⟩:=Yr h;obtain⟨M,I,rfl,B,G⟩:=Yc O;obtain⟨E,A,rfl,T,J⟩:=Yc G;obtain⟨L,F,rfl,R,Z⟩:=Yc J;obtain rfl:=VB Z;obtain rfl:=has_str T;exact⟨t,M,L,Y,N,B,R⟩
end L2
namespace K4
open PySem L2
section
variable{f g C CK:Addr}
def JY(C CK:Addr):Sp:=λG H Q _=>∃(t:Addr)(J:xq)(d:xr)(L:List Dd),G=[.ref t]/\BI H C CK t J d L/\∀Z,KI H CK Z J d->Q (.ref Z) H
def Iq:Yh ["self"] ["self"] (Yd MQ):=Y2
def FS(T:BCl K C)(F:Fun K "kinds" "Book.kinds" MQ f J):Ye P w K M base CX0 (n+1) f J ["self"] (JY C CK):=by
 refine F.oq Iq λG A Z s H L Q E R h=>?_;obtain⟨t,O,d,B,rfl,⟨D,N,rfl,b⟩,q⟩:=h;exists _,YZ<|Yj<|Yt (pv 0) rfl;exact⟨C,_,_,_,b.ins,T.cl,T.so,Lr _,q _ b.so⟩
def U5(C CK:Addr):Sp:=λG H Q _=>∃(t:Addr)(L:xq)(d:xr)(J:List Dd),G=[.ref t]/\BI H C CK t L d J/\∀l Z,Same H Z->H l=none->Z l=some (.lst<|J.map λx=>V.str x.1.1)->Q (.ref l) Z
def Ip:Yh ["self"] ["self"] (Yd MP):=Y2
def FR(B:Blt L)(T:BCl K C)(F:Fun K "names" "Book.names" MP f M):Ye P w K L base CX0 (n+1) f M ["self"] (U5 C CK):=by
 refine F.oq Ip λN A Z s H O Q E D h=>?_;obtain⟨t,R,d,I,rfl,⟨S,J,rfl,b⟩,q⟩:=h;exists _,YZ<|Yj<|VW (XF rfl) rfl B.list Jt (pa1<|Yt (pv 0) rfl);refine⟨C,_,_,_,b.ins,T.cl,T.td,FZ _,_,_,Y,b.td,λl G=>?_⟩;refine q l _ (Yv G _) G ?_;rw[Yf];have e:(J.map λq=>kV q.1)=(J.map (·.1)).map kV:=by rw[jk];rfl
 rw[e,b.ke,jk]
 rfl
def Gm(C CK:Addr):Sp:=λJ H Q _=>∃(t:Addr)(G:xq)(d:xr)(Z:List Dd)(x:Dd),J=[.ref t,.str x.1.1]/\BI H C CK t G d Z/\x∈Z/\∀v,Has H v (U3 x)->Q v H
def O7:Yh ["self","F"] ["self","F"] (Yd Bg):=Y2
def Pd(B:Blt L)(T:BCl K C)(F:Fun K "told_of" "Book.told_of" Bg f R):Ye P w K L base CX0 (n+1) f R ["self","F"] (Gm C CK):=by
 refine F.oq O7 λD A Z s H I Q E N h=>?_;obtain⟨t,U,d,X,x,rfl,⟨j,S,rfl,b⟩,M,q⟩:=h;have J:=JI N;obtain⟨v,G,O⟩:=b.at M;refine⟨_,YY (Y4 (PW.pt<|UZ (Jg<|JB<|Wf rfl B.isi rfl B.str W0 (pv 1))<|UG<|Uk<|FK J (pv 1)<|Yt (pv 0) rfl) (YZ JU) Yo)
  (YZ<|Yj<|JN J (Yt (pv 0) rfl) (pv 1) λ_ _=>rfl),?_⟩
 show let a:=_;let b:=_;Yn (VH _ b _) a _ _ _
 intros
 refine⟨_,_,_,_,Y,.str _,TH K "str",_,Y,Y1 (by simp) ?_⟩;refine⟨C,_,_,_,b.ins,T.cl,T.td,FZ _,_,G,_,Y,Y1 (by simp) ?_⟩;exact⟨C,_,_,_,b.ins,T.cl,T.td,FZ _,v,G,q v O⟩
end
end K4
namespace L2
open PySem
def Wi(o:Option Str):V:=(o.map V.str).getD .non
def zZ{α:Type}{Z:List α}(h:Z.length=1):∃a,Z=[a]:=match Z,h with|[a],_=>⟨a,rfl⟩
def zY{α:Type}{Z:List α}(h:Z.length=2):∃a b,Z=[a,b]:=match Z,h with|[a,b],_=>⟨a,b,rfl⟩
def Bd.word:Bd->Str
 |.tag _=>"tag"
 |.name _=>"name"
 |.pair _ _=>"pair"
 |.one _=>"one"
 |.other _=>"other"
 |.choose _ _ _=>"choose"
 |.ask _ _=>"ask"
 |.letb _ _ _ _=>"let"
def Lk{b:Bd}(h:Has H v b.dat):∃a Z,v=.ref a/\H a=some (.tup (.str b.word::Z)):=by
 obtain⟨J,e⟩:∃J,b.dat=.tup (.str b.word::J):=by cases b <;> exact⟨_,by unfold Bd.dat;rfl⟩
 rw[e]at h;obtain⟨t,Z,rfl,L,M⟩:=Yr h;obtain⟨O,G,rfl,N,_⟩:=Yc M;obtain rfl:=has_str N;exact⟨t,G,Y,L⟩
def Eg(h:Has H v (Bd.letb x k e b).dat):∃a T R,v=.ref a/\H a=some (.tup [.str "let",.str x,.str k,T,R]):=by
 unfold Bd.dat at h;obtain⟨t,I,rfl,B,D⟩:=Yr h;obtain⟨C,y,rfl,A,M⟩:=Yc D;obtain⟨U,j,rfl,F,L⟩:=Yc M;obtain⟨S,Q,rfl,E,G⟩:=Yc L;obtain⟨O,P,rfl,q,J⟩:=Yc G;obtain⟨N,X,rfl,z,Z⟩:=Yc J;obtain rfl:=VB Z;obtain rfl:=has_str A;obtain rfl:=has_str F;obtain rfl:=has_str E;exact⟨t,O,N,Y,B⟩
end L2
namespace K4
open PySem L2
section
variable{f g C CK:Addr}
def Gn(C CK:Addr):Sp:=λJ H Q _=>∃(t:Addr)(G:xq)(d:xr)(Z:List Dd)(x:Dd),J=[.ref t,.str x.1.1]/\BI H C CK t G d Z/\x∈Z/\∀v,Has H v (psD x.1.2.1)->Q v H
def Rz(C CK:Addr):Sp:=λJ H Q _=>∃(t:Addr)(G:xq)(d:xr)(Z:List Dd)(x:Dd),J=[.ref t,.str x.1.1]/\BI H C CK t G d Z/\x∈Z/\Q (.str x.1.2.2) H
def Sl:Yh ["self","F"] ["self","F"] (Yd Bi):=Y2
def Oy:Yh ["self","F"] ["self","F"] (Yd Bj):=Y2
def Pg(T:BCl K C)(F:Fun K "parameters" "Book.parameters" Bi f I)(m:VM K C "told_of" g)(G:Ye P w K J base CX0 n g D ["self","F"] (Gm C CK))(X:Binds K D ["self","F"] []):Ye P w K J base CX0 (n+1) f I ["self","F"] (Gn C CK):=by
 refine F.oq Sl λU A Z s H k Q E R h=>?_;obtain⟨t,L,d,S,x,rfl,b,M,q⟩:=h;obtain⟨y,p,rfl,j⟩:=id b;exists _,YZ<|Yj<|Ym Yq (Y5 (pv 0) T.cl m G R X .nil Y3<|pa1<|pv 1) Ya;refine⟨_,_,j.ins,Aq _,y.t,L,d,S,x,Y,b,M,λv N=>?_⟩;obtain⟨a,u,z,rfl,B,O,_⟩:=X8 N;exact⟨_,_,Z2 B,Y,q u O⟩
def Kw(T:BCl K C)(F:Fun K "kind_of" "Book.kind_of" Bj f D)(m:VM K C "told_of" g)(G:Ye P w K J base CX0 n g B ["self","F"] (Gm C CK))(U:Binds K B ["self","F"] []):Ye P w K J base CX0 (n+1) f D ["self","F"] (Rz C CK):=by
 refine F.oq Oy λS A Z s H z Q E O h=>?_;obtain⟨t,L,d,I,x,rfl,b,M,q⟩:=h;obtain⟨j,k,rfl,X⟩:=id b;exists _,YZ<|Yj<|Ym Yq (Y5 (pv 0) T.cl m G O U .nil Y3<|pa1<|pv 1) Ya;refine⟨_,_,X.ins,Aq _,j.t,L,d,I,x,Y,b,M,λv N=>?_⟩;obtain⟨a,u,y,rfl,R,p,_⟩:=X8 N;exact⟨_,_,Z2 R,Y,q⟩
def Xs(C CK:Addr)(p:Bd->Prop):Sp:=λO H Q _=>∃(t a M:Addr)(v:V)(Z:xq)(c d:xr)(L:List Dd)(G:xf)(b:Bd)(J:pX),
 O=[.ref t,.ref a,v,.ref M]/\BI H C CK t Z d L/\KK 30 c d Z/\NK (Z.map (·.1)) G/\(∀x∈L,x.1.2.1.length<=3)/\Rd H a (.dK G)/\Has H v b.dat/\b.ok/\p b/\H M=some (.lst<|J.map V.str)/\J.length=b.parts.length/\(∀z∈J,z∈Z.map (·.1))/\∀N,Same H N->Q (Wi<|own Z (Vq<|L.map (·.1)) G b J) N
abbrev rps:pX:=["book","around","body","found"]
def Sn:Yh ["book","around","body","found"] ["book","around","body","found"] (Yd Iw):=Y2
def O2:Yh ["book","around","body","found"] ["book","around","body","found"] (Yd Be):=Y2
def O0:Yh ["book","around","body","found"] ["book","around","body","found"] (Yd Bc):=Y2
def Su:Yh ["book","around","body","found"] ["book","around","body","found"] (Yd Iz):=Y2
def Pi(u:BCl K C)(TK:KCl K CK)(F:Fun K "kind_of_tag_body" "kind_of_tag_body" Iw f U)(B:VM K C "kinds" S)(l:Ye P w K J base CX0 n S y ["self"] (JY C CK))(k:Binds K y ["self"] [])(T:VM K CK "kind_of_tag" g2)(r:Ye P w K J base CX0 n g2 j ["self","tag"] (Gp CK))(m:Binds K j ["self","tag"] []):Ye P w K J base CX0 (n+1) f U rps (Xs C CK λb=>∃t,b=.tag t):=by
 refine F.oq Sn λz A Z s H x Q E N h=>?_;obtain⟨t,a,fl,v,G,c,d,X,kv,b,i,rfl,O,kk,nk,pl,ha,M,ok,⟨R,rfl⟩,hf,lz,hz,q⟩:=h;obtain⟨o,kt,rfl,p⟩:=id O;exists _,YZ<|Yj<|Y5 (Vg (pv 0) u.cl B l N k .nil Y3) TK.cl T r N m .nil Y3<|pa1<|Ym Yq (pv 2) Ya;unfold Bd.dat at M;obtain⟨bt,rfl,I⟩:=X7 M;refine⟨_,_,p.ins,Y,o.t,G,d,X,Y,O,λso L=>?_⟩;obtain⟨e,SK,rfl,D,kr⟩:=id L;exact⟨_,_,D.ins,Y,_,_,Z2 I,Y,e.t,G,d,R,Y,L,q H<|Z8 _⟩
def Kv(F:Fun K "kind_of_name_body" "kind_of_name_body" Be f B):Ye P w K j base CX0 (n+1) f B rps (Xs C CK λb=>∃x,b=.name x):=by
 refine F.oq O2 λD A G s H S Q E R h=>?_;obtain⟨t,a,r,v,z,c,d,l,J,b,I,rfl,i,m,N,U,M,L,X,⟨x,rfl⟩,u,y,p,q⟩:=h;have O:=JI R;exists _,YZ<|Yj<|G9 O (pv 1) (Ym Yq (pv 2) Ya) ⟨rfl,rfl,rfl,rfl⟩;unfold Bd.dat at L;obtain⟨o,rfl,T⟩:=X7 L;exists .inl ⟨J,M⟩,_,_,Z2 T,Y,_,.inl ⟨J,Sum.inr x,M,Y,Y⟩;have Z:Q (Wi<|(VF J<|Sum.inr x).bind On) H:=q H<|Z8 _
 cases e:VF J (Sum.inr x)with
 |none=>rw[e]at Z;exact Z
 |some v=>
  obtain⟨k,rfl,_⟩:=N.at e;rw[e]at Z;exact Z
def Ku(r:BCl K C)(TK:KCl K CK)(F:Fun K "kind_of_pair_body" "kind_of_pair_body" Bc f X)(D:VM K C "kinds" U)(o:Ye P w K J base CX0 n U z ["self"] (JY C CK))(p:Binds K z ["self"] [])(B:VM K CK "kind_of_pair" g2)(l:Ye P w K J base CX0 n g2 y ["self","one","other"] (WU CK))(k:Binds K y ["self","one","other"] []):Ye P w K J base CX0 (n+1) f X rps (Xs C CK λb=>∃e g,b=.pair e g):=by
 refine F.oq O0 λm A Z s H vs Q E M h=>?_;obtain⟨t,a,fl,v,G,c,d,j,kv,b,zs,rfl,O,kk,nk,pl,ha,hv,ok,⟨e,g,rfl⟩,N,I,hz,q⟩:=h;obtain⟨T,R,rfl⟩:=zY I;obtain⟨x,kt,rfl,u⟩:=id O;exists _,YZ<|Yj<|Y5 (Vg (pv 0) r.cl D o M p .nil Y3) TK.cl B l M k .nil Y3<|pa2 (Ym Y7 (pv 3) Ya)<|Ym Y7 (pv 3) Ya;refine⟨_,_,u.ins,Y,x.t,G,d,j,Y,O,λso L=>?_⟩;obtain⟨i,SK,rfl,S,kr⟩:=id L;exact⟨_,_,S.ins,Y,_,_,Z3 N,Y,_,_,Z3 N,Y,i.t,G,d,T,R,Y,L,q⟩
def Pk(F:Fun K "kind_of_let_body" "kind_of_let_body" Iz f T):Ye P w K z base CX0 (n+1) f T rps (Xs C CK λb=>∃x k e g,b=.letb x k e g):=by
 refine F.oq Su λB A J s H I Q E l h=>?_;obtain⟨t,a,i,v,p,c,d,ds,m,b,D,rfl,bi,u,y,X,o,O,j,⟨x,k,e,g,rfl⟩,L,N,r,q⟩:=h;obtain⟨G,M,rfl⟩:=zY N;refine⟨_,YY (Y4 (Ys UJ (Ym Y7 (pv 3) Ya) (Ym Yq (pv 2) Ya)<|Yz _) (YZ<|Yj Vo) Yo)
  (YZ<|Yj<|Ym Y7 (pv 3) Ya),?_⟩
 obtain⟨bt,U,S,rfl,R⟩:=Eg O;have Z:Q (Wi<|if G=k then some M else none) H:=q H<|Z8 _;exists _,_,Z3 L,Y,_,_,Z2 R,Y,Y,_,Y
 by_cases c1:G=k
 .rw [Zp c1]at Z
  exact Y1 (by simp[c1]) ⟨_,_,Z3 L,Y,Z⟩
 .rw [Zq c1]at Z
  exact VI (by simpa using c1) Z
def GS(C CK:Addr):Sp:=λJ H Q _=>∃(t:Addr)(Z:xq)(d:xr)(L:List Dd)(z:Str)(s:Shp)(i:Nat),J=[.ref t,.str z,.int i]/\BI H C CK t Z d L/\Vc Z z=some s/\(∀G,s=.tags G->Q .non H)/\∀a b,s=.pair a b->(i=1/\Q (.str a) H\/i=2/\Q (.str b) H)
def EH:Yh ["book","kind","at","shape"] ["book","kind","at"] (Yd Bb):=Y2
def Kt(TB:BCl K C)(TK:KCl K CK)(F:Fun K "kind_of_part" "kind_of_part" Bb f k)(X:VM K C "kinds" m)(G1:Ye P w K G base CX0 n m u ["self"] (JY C CK))(o:Binds K u ["self"] [])(U:VM K CK "shape_of" g2)(G2:Ye P w K G base CX0 n g2 c ["self","kind"] (XI CK))(e:Binds K c ["self","kind"] []):Ye P w K G base CX0 (n+1) f k ["book","kind","at"] (GS C CK):=by
 refine F.oq EH λr A J s H vs Q E O h=>?_;obtain⟨t,L,d,p,z,B,i,rfl,R,y,D,I⟩:=h;obtain⟨A',kt,rfl,x⟩:=id R;refine⟨_,YY (Y0 3 EH.nd<|Y5 (Vg (pv 0) TB.cl X G1 O o .nil Y3) TK.cl U G2 O e .nil Y3<|pa1<|pv 1)
  (YY (Y4 (Ys UJ (Ym Yq (pv 3) Ya) Yp<|Yz _) (YZ<|Yj Vo) Yo)
  (YZ<|Yj<|Ym Yq (pv 3) (pv 2) λ_ _=>rfl)),?_⟩
 refine⟨_,_,x.ins,Y,A'.t,L,d,p,Y,R,λso M=>?_⟩;obtain⟨AK,SK,rfl,j,kr⟩:=id M;refine⟨_,_,j.ins,Y,AK.t,L,d,z,_,Y,M,y,λv N=>?_⟩
 cases B with
 |tags T=>
  obtain⟨S,l,rfl,Z,hl⟩:=X9 N;exact⟨_,_,Z2 Z,Y,Y,_,Y,VI (by decide +kernel)<|D T rfl⟩
 |pair a b=>
  obtain⟨S,rfl,Z⟩:=Xn N;refine⟨_,_,Z2 Z,Y,Y,_,Y,Y1 (by decide +kernel) ?_⟩;rcases I a b rfl with⟨rfl,q⟩|⟨rfl,q⟩
  .exact ⟨_,_,Z2 Z,rfl,q⟩
  .exact ⟨_,_,Z2 Z,rfl,q⟩
def Sr:Yh ["book","around","body","found"] ["book","around","body","found"] (Yd Iy):=Y2
def Ik:Yh ["book","around","body","found"] ["book","around","body","found"] (Yd ML):=Y2
def Pj(F:Fun K "kind_of_one_body" "kind_of_one_body" Iy f D)(X:Df P w K N base n "kind_of_part" ["book","kind","at"] (GS C CK)):Ye P w K N base CX0 (n+1) f D rps (Xs C CK λb=>∃e,b=.one e):=by
 refine F.oq Sr λS A J s H y Q E T h=>?_;obtain⟨t,a,x,v,G,c,d,I,r,b,j,rfl,U,l,u,k,i,o,p,⟨e,rfl⟩,B,O,R,q⟩:=h;obtain⟨z,rfl⟩:=zZ O;exists _,YZ<|Yj<|Vh X T<|pa3 (pv 0) (Ym Y7 (pv 3) Ya) Ya;obtain⟨M,L⟩:=Jv (R z<|by simp);have Z:Q (Wi<|match Vc G z with|some (.pair a _)=>some a|_=>none) H:=q H<|Z8 _;rw[L]at Z;exact⟨_,_,Z3 B,Y,t,G,d,I,z,M,1,Y,U,L,λm e=>by rw[e]at Z;exact Z,λa b e=>.inl ⟨Y,by rw[e]at Z;exact Z⟩⟩
def FO(F:Fun K "kind_of_other_body" "kind_of_other_body" ML f D)(X:Df P w K N base n "kind_of_part" ["book","kind","at"] (GS C CK)):Ye P w K N base CX0 (n+1) f D rps (Xs C CK λb=>∃e,b=.other e):=by
 refine F.oq Ik λS A J s H y Q E T h=>?_;obtain⟨t,a,x,v,G,c,d,I,r,b,j,rfl,U,l,u,k,i,o,p,⟨e,rfl⟩,B,O,R,q⟩:=h;obtain⟨z,rfl⟩:=zZ O;exists _,YZ<|Yj<|Vh X T<|pa3 (pv 0) (Ym Y7 (pv 3) Ya) Ya;obtain⟨M,L⟩:=Jv (R z<|by simp);have Z:Q (Wi<|match Vc G z with|some (.pair _ b)=>some b|_=>none) H:=q H<|Z8 _;rw[L]at Z;exact⟨_,_,Z3 B,Y,t,G,d,I,z,M,2,Y,U,L,λm e=>by rw[e]at Z;exact Z,λa b e=>.inr ⟨Y,by rw[e]at Z;exact Z⟩⟩
end
end K4
namespace L2
open PySem
def P6(h:Has H v (Bd.ask fn B).dat):∃a u,v=.ref a/\H a=some (.tup [.str "ask",.str fn,u])/\Has H u (.tup<|Bd.dats B):=by
 unfold Bd.dat at h;obtain⟨t,D,rfl,M,N⟩:=Yr h;obtain⟨F,S,rfl,T,G⟩:=Yc N;obtain⟨E,I,rfl,R,J⟩:=Yc G;obtain⟨L,A,rfl,O,Z⟩:=Yc J;obtain rfl:=VB Z;obtain rfl:=has_str T;obtain rfl:=has_str R;exact⟨t,L,Y,M,O⟩
def Ee(h:Vq J fn=some (Z,y)):(fn,Z,y)∈J:=by
 unfold Vq at h
 cases e:J.find? (λh=>decide<|h.1=fn)with
 |none=>rw[e]at h;cases h
 |some g=>
  rw[e]at h;have m:=jp e;have q:g.1=fn:=by simpa using List.find?_some e
  have G:g.2=(Z,y):=ZT h;obtain⟨L,g2⟩:=g;dsimp only at q G;subst q G;exact m
theorem G8:∀Z J:pX,Dat.pqs (Z.map Dat.str) (J.map Dat.str)=decide (Z=J)
 |[],[]=>by unfold List.map Dat.pqs;rfl
 |[],w::J=>by unfold List.map Dat.pqs;rfl
 |z::Z,[]=>by unfold List.map Dat.pqs;rfl
 |z::Z,w::J=>by
  rw[ZV,ZV];unfold Dat.pqs;rw[G8 Z J,j3];simp[Dat.pq]
def LW{ds:List Dd}(Z:(ds.map λx=>x.1.1).Nodup)(h:x∈ds):Vq (ds.map (·.1)) x.1.1=some x.1.2:=
 LX (h:=x.1) (by rw[jk];exact Z) (ZW.mpr ⟨x,h,rfl⟩)
def Al{Z:List Dd}(h:fn∉Z.map λx=>x.1.1):Vq (Z.map (·.1)) fn=none:=by
 cases e:Vq (Z.map (·.1)) fn with
 |none=>rfl
 |some p=>
  obtain⟨x,J,G⟩:=ZW.mp<|Ee e;exact Zr (ZW.mpr ⟨x,J,by rw[G]⟩) h
end L2
namespace K4
open PySem L2
section
def Sv:Yh ["book","around","body","found"] ["book","around","body","found"] (Yd I0):=Y2
def LC:List.Nodup [("name":Str),"kind"]:=by decide +kernel
def Pl(TB:BCl K C)(F:Fun K "kind_of_ask_body" "kind_of_ask_body" I0 f fd)(m1:VM K C "names" g)(G1:Ye P w K mg base CX0 (n+2) g d1 ["self"] (U5 C CK))(b1:Binds K d1 ["self"] [])(m2:VM K C "parameters" g2)(G2:Ye P w K mg base CX0 (n+2) g2 d2 ["self","F"] (Gn C CK))(b2:Binds K d2 ["self","F"] [])(m3:VM K C "kind_of" g3)(G3:Ye P w K mg base CX0 (n+2) g3 d3 ["self","F"] (Rz C CK))(b3:Binds K d3 ["self","F"] []):
  Ye P w K mg base CX0 (n+2+1) f fd rps (Xs C CK λb=>∃p as,b=.ask p as):=by
 refine F.oq Sv λR4 A i s H O Q E m h=>?_;obtain⟨t,a,fl,v,ks,c,d,I,kv,b,o,rfl,r,kk,nk,pl,ha,hv,ok,⟨p,as,rfl⟩,hf,lz,hz,q⟩:=h;have M2:=m.mono (show 2<=n+2 by omega);refine⟨_,YY (Y4 (Ys Jk (Ym Yq (pv 2) Ya) (Vg (pv 0) TB.cl m1 G1 m b1 .nil Y3) Y) (YZ<|Yj Vo) Yo)
  (YY (Y4 (Ys (Bz M2) (JO ["name","kind"] [] (UH<|Y5 (pv 0) TB.cl m2 G2 m b2 .nil Y3<|pa1<|Ym Yq (pv 2) Ya) TR (λcl C fp s H=>VU (n:=2) rfl (Yk (Yl 0 LC rfl (Or.inl rfl) (Or.inr rfl))<|Yk (Yl 1 LC rfl (Or.inl rfl) (Or.inr rfl)) VJ))
    (λcl C fp s H=>pv 1)) (pv 3)<|Yz _) (YZ<|Yj Vo) Yo)
  (YZ<|Yj<|Y5 (pv 0) TB.cl m3 G3 m b3 .nil Y3<|pa1<|Ym Yq (pv 2) Ya)),?_⟩
 show let a:=_;let b:=_;let c:=Yn (VH _ b _) a;let d:=_;Yn (VH _ d _) c _ _ _
 intros
 obtain⟨bt,ub,rfl,hb,_⟩:=P6 hv;obtain⟨A',kt,rfl,e⟩:=id r;have T:∀N,Same H N->Q (Wi<|match Vq (I.map (·.1)) p with|some (L,k)=>if L.map (·.2)=o then some k else none|none=>none) N:=q;refine⟨_,_,Z2 hb,Y,_,_,e.ins,Y,A'.t,ks,d,I,Y,r,λl H1 S hl g=>?_⟩;have el:(I.map λx=>V.str x.1.1)=(I.map λx=>x.1.1).map V.str:=by rw[jk];rfl
 rw[el]at g;exists l,_,Y,.inl<|Z3 g,rfl,UB _,_,rfl;rw[Ua]
 by_cases mf:p∈I.map λx=>x.1.1
 case neg=>
  rw[Al mf]at T;exact VI (by simp only[if_true,qz,decide_eq_false_iff_not];exact mf)<|T _ S
 refine Y1 (by simp only[if_true,qz,decide_eq_false_iff_not,Classical.not_not];exact mf) ?_;obtain⟨x,X,D⟩:=ZW.mp mf;have Z:=LW e.nd X;rw[D]at Z;rw[Z]at T;obtain⟨⟨_,L,y⟩,bx⟩:=x;dsimp only at D T;subst D;have R3:L.length<=3:=pl _ X;have R1:=r.mono S;refine⟨_,_,S _ _ e.ins,Y,_,_,Z2<|S _ _ hb,rfl,A'.t,ks,d,I,_,rfl,R1,X,λv B=>?_⟩;unfold psD at B;dsimp only at B;obtain⟨pa,G,rfl,M,U⟩:=Yr B;have lp:=U.length;rw[ZA]at lp;exists ⟨_,Z2 M⟩;refine Vu G.length (Yx<|by omega) (λj O N=>Same H1 N/\O.length=j/\O=((L.map (·.2)).take j).map V.str) ⟨Z8 _,rfl,rfl⟩ (λj O N z=>z.2.1) ?_ ?_ ?_ ?_
 .intro j O N hj z
  exact⟨G,G[j],Z2<|z.1 _ _ M,by simp[hj]⟩
 .intro O N z
  exact⟨G,Z2<|z.1 _ _ M,ZG _⟩
 .intro j O N u H'' R hj z yl hR
  obtain⟨rfl,yy⟩:=yl;obtain⟨dd,Z,O1⟩:=U.get<|yy G<|Z2<|z.1 _ _ M;rw[ZH]at Z
  cases hp:L[j]? with
  |none=>rw[hp]at Z;cases Z
  |some pr=>
   rw[hp]at Z;cases Z;obtain⟨t2,rfl,J2⟩:=X7 O1;exists _,Z2<|z.1 _ _ J2,rfl;refine hR _ _ ⟨z.1,by rw[ZL,z.2.1];rfl,?_⟩;rw[z.2.2,show(L.map (·.2)).take (j+1)=(L.map (·.2)).take j++[pr.2]from take_snoc (by rw[ZH,hp];rfl),ZK]
   rfl
 .intro O N l2 z hl2
  obtain⟨z1,_,rfl⟩:=z;rw[Zg (by rw[ZA];omega)];refine up_in hl2 _ λH2 s2 g2=>?_;have J:=(S.trans z1).trans s2;exists .lst<|(L.map (·.2)).map Dat.str,.lst<|o.map Dat.str,zU g2,zU<|J _ _ hf,NA _,_,rfl;unfold Dat.pq;rw[G8]
  by_cases cz:L.map (·.2)=o
  .rw [Zp cz]at T
   refine Y1 (by simp[cz]) ?_;exact⟨_,_,J _ _ e.ins,Y,_,_,Z2<|J _ _ hb,rfl,A'.t,ks,d,I,_,rfl,r.mono J,X,T H2 J⟩
  .rw [Zq cz]at T
   exact VI (by simp[cz])<|T H2 J
end
end K4
namespace L2
open PySem PySem.Spec PyProof.Rows
def RS(S:X.calm=true):J1 X (.builtin "any") (λL H Q=>∃(p:Addr)(Z:List Bool),L=[.ref p]/\SqL X.K H p (Z.map V.bl)/\Q (.bl<|Z.any id) H):=by
 intro N s U H L P Q I r h;obtain⟨p,Z,rfl,D,q⟩:=h;obtain⟨u,rfl,R⟩:=vals1 r;cases R;obtain⟨J,M,G,j⟩:=I.list D;have E:p<s.heap.objs.size:=let⟨o,_,e,_⟩:=G;ZP e
 have B:=M.length;rw[ZA]at B
 have T:((List.range J.toArray.size).any λi=>(Z[i]?).getD false)=Z.any id:=by
  rw[j3,kB,kB]
  constructor
  .rintro ⟨i,_,h⟩
   cases e:Z[i]? with
   |none=>rw[e]at h;cases h
   |some b=>rw[e]at h;exact⟨b,ZJ e,h⟩
  .rintro ⟨b,hb,h⟩
   obtain⟨i,O⟩:=jn.mp hb;exact⟨i,by have:=(ZF.mp O).1;simp;omega,by rw[O];exact h⟩
 refine call_any_walk<|qK G.isList ⟨s.heap.objs.size,_,_,J.toArray.size,_,_,λi=>(Z[i]?).getD false,rfl,Walks.list (A:=X.A.in1) (I.ok.hd S) _ p (Ze E) J.toArray,⟨⟨_,ZY _ rfl,rfl,rfl⟩,G.isList.push _⟩,?_,?_⟩
 .intro i v s' Q' E' hP hQ
  obtain⟨b,e,rfl⟩:=W1 M i v (by simpa using hP);dsimp only at hQ;rw[e]at hQ;exact jz hQ
 .intro h' tk hk
  rw[T];refine⟨.bl<|Z.any id,H,I.kept λb o e=>hk b o (λF=>?_)<|ZE _ e,rfl,q⟩;have C:b=s.heap.objs.size:=by simpa using F
  rw[C]at e;exact jt _<|ZP e
end L2
namespace L2
open PySem
def DX(h:Has H v (Bd.choose e N F).dat):∃a u l Z,v=.ref a/\H a=some (.tup [.str "choose",u,.ref l])/\H l=some (.tup Z)/\HasL H Z (Bd.brs F N):=by
 unfold Bd.dat at h;obtain⟨t,A,rfl,O,R⟩:=Yr h;obtain⟨S,X,rfl,E,L⟩:=Yc R;obtain⟨M,C,rfl,P,G⟩:=Yc L;obtain⟨I,U,rfl,D,J⟩:=Yc G;obtain rfl:=VB J;obtain rfl:=has_str E;obtain⟨l,Z,rfl,B,T⟩:=Yr D;exact⟨t,M,l,Z,Y,O,B,T⟩
theorem brs_len:∀{bs:List Bd}{ts:pX},bs.length=ts.length->(Bd.brs bs ts).length=ts.length
 |[],[],_=>by simp[Bd.brs]
 |[],_::_,h=>by simp at h
 |_::_,[],h=>by simp at h
 |b::bs,t::ts,h=>by
  unfold Bd.brs;have:=brs_len (bs:=bs) (ts:=ts) (by simpa using h);simp[this]
theorem brs_get:∀{bs:List Bd}{ts:pX}{i:Nat}{d:Dat},(Bd.brs bs ts)[i]?=some d->∃t b,ts[i]?=some t/\d=.tup [.str t,Bd.dat b]
 |[],ts,i,d,h=>by unfold Bd.brs at h;simp at h
 |b::bs,[],i,d,h=>by unfold Bd.brs at h;simp at h
 |b::bs,t::ts,0,d,h=>by
  unfold Bd.brs at h;exact⟨t,b,Y,(ZT h).symm⟩
 |b::bs,t::ts,i+1,d,h=>by
  unfold Bd.brs at h;exact brs_get (bs:=bs) (ts:=ts) h
def vm{z y:Str}{r:pX}:Uq ((z::y::r).map V.str) (some 2) none=r.map V.str:=by
 have e:HT.sIx ((z::y::r).map V.str).length 0 (some 2)=2:=by
  unfold HT.sIx;simp
  try omega
 unfold Uq;rw[e];simp[HT.sIx];exact Zg (by rw[ZA];exact ZG _)
def Pa(h:Vc J z=some (.tags Z))(g:∀u∈r,u=y):own J hd G (.choose e Z L) (z::y::r)=some y:=Zp ⟨h,g⟩
def MU(h:¬(Vc J z=some (.tags Z)/\∀u∈r,u=y)):own J hd G (.choose e Z L) (z::y::r)=none:=Zq h
def OS(y:Str)(r:pX):((r.map λu=>!decide (V.str u=V.str y)).any id=false)↔∀u∈r,u=y:=by
 rw[pK]
 constructor
 .intro h u Z
  have:=h _<|ZW.mpr ⟨u,Z,rfl⟩;simpa using this
 .intro h b hb
  obtain⟨u,Z,rfl⟩:=ZW.mp hb;simp[h u Z]
end L2
namespace K4
open PySem L2
section
def RU:bootBuiltins "any"=some (.builtin "any"):=by decide +kernel
def WZ:Yh ["book","around","body","found","shape","kind"] ["book","around","body","found"] (Yd Gz):=Y2
def LA:List.Nodup [("tag":Str),"branch"]:=by decide +kernel
def zL:List.Nodup [("other":Str),"kind"]:=by decide +kernel
def B3(B:Blt X)(ma:X "any"=none)(TB:BCl K C)(TK:KCl K p)(F:Fun K "kind_of_choose_body" "kind_of_choose_body" Gz f fd)(m1:VM K C "kinds" g1)(G1:Ye P w K X base CX0 (n+2) g1 d1 ["self"] (JY C p))(b1:Binds K d1 ["self"] [])(m2:VM K p "shape_of" g2)(G2:Ye P w K X base CX0 (n+2) g2 d2 ["self","kind"] (XI p))(b2:Binds K d2 ["self","kind"] []):Ye P w K X base CX0 (n+2+1) f fd rps (Xs C p λb=>∃e L k,b=.choose e L k/\1<=k.length):=by
 refine F.oq WZ λR6 A J2 s H Z Q E hr h=>?_;obtain⟨t,a,fl,v,ks,c,d,ds,kv,b,zs,rfl,bi,kk,nk,pl,ha,hv,ok,⟨e,L,k,rfl,b0⟩,hf,lz,hz,q⟩:=h;have O1:=hr.mono (show 2<=n+2 by omega);refine⟨_,YY (Y0 4 WZ.nd<|Y5 (Vg (pv 0) TB.cl m1 G1 hr b1 .nil Y3) TK.cl m2 G2 hr b2 .nil Y3<|pa1<|Ym Y7 (pv 3) Ya)
  (YY (Y4 (PW.pt<|UZ (Ys UJ (Ym Yq (pv 4) Ya) Yp<|Yz _)<|UG<|Ys (Bz O1) (VW V3 rfl B.tuple Vm (pa1<|JO ["tag","branch"] [] (UH<|Ym Yq (pv 2) Ya) TR (λcl C fp s H=>VU (n:=2) rfl (Yk (Yl 0 LA rfl (Or.inl rfl) (Or.inr rfl))<|Yk (Yl 1 LA rfl (Or.inl rfl) (Or.inr rfl)) VJ)) λcl C fp s H=>pv 0)) (Ym Yq (pv 4) Ya)<|Yz _) (YZ<|Yj Vo) Yo)
  (YY (Y0 5 WZ.nd (hx:=Or.inr rfl)<|Ym Y7 (pv 3) Ya)
  (YY (Y4 (JB<|VD (RS rfl) rfl ma RU (pa1<|JO ["other"] [5] (UQ<|Vs XM (pv 3) (V6 Ya) JM) (V7 (i:=0)<|by decide) (λcl C fp s H=>Yl 0 zL rfl (Or.inl rfl) (Or.inr rfl)) λcl C fp s H=>Jj UJ (pv 0) (pv 1) rfl)) (YZ<|Yj Vo) Yo)
  (YZ<|Yj<|pv 5)))),?_⟩
 dsimp only[Vb,Cx.nox,Cx.wish];show let a:=_;let b:=_;let c:=Yn (VH _ b _) a;let d:=Yn _ c;let e:=_;let f:=Yn (VH _ e _) d;Yn _ f _ _ _
 intros
 obtain⟨bt,ub,bl,T,rfl,hb,N,I⟩:=DX hv;obtain⟨A',kt,rfl,b'⟩:=id bi;unfold Bd.ok at ok;obtain⟨_,lb,l7,_⟩:=ok;have lx:=I.length;rw[brs_len lb]at lx;obtain⟨z,O,rfl⟩:∃z O,zs=z::O:=match zs,lz with|z::O,_=>⟨z,O,rfl⟩
 have lr:O.length=k.length:=Nat.succ.inj lz;obtain⟨y,r,rfl⟩:∃y r,O=y::r:=match O,lr with|[],e=>by rw[<-e]at b0;exact Zr b0 (by decide)|y::r,_=>⟨y,r,rfl⟩
 rw[Zf]at lr;obtain⟨sz,M⟩:=Jv (hz z<|by simp);refine⟨_,_,b'.ins,Y,A'.t,ks,d,ds,Y,bi,λso ki=>?_⟩;obtain⟨AK,SK,rfl,kd,kr⟩:=id ki;refine⟨_,_,kd.ins,Y,_,_,Z3 hf,VE (j:=0) Y,AK.t,ks,d,z,sz,Y,ki,M,λv S=>?_⟩
 cases sz with
 |pair pa pb=>
  obtain⟨ps,rfl,m⟩:=Xn S;rw[MU (λz=>by rw[M]at z;cases z.1)]at q;exact⟨_,_,Z2 m,Y,Y,_,Y,VI (by decide +kernel)<|q H<|Z8 _⟩
 |tags us=>
 obtain⟨ps,l,rfl,m,hl⟩:=X9 S;refine⟨_,_,Z2 m,Y,Y,_,Y,Y1 (by decide +kernel) ?_⟩;exists _,_,Z2 hb,Y,⟨_,Z2 N⟩;refine Vu T.length (Yx<|by omega) (λj Z G=>Same H G/\Z.length=j/\Z=(L.take j).map V.str) ⟨Z8 _,rfl,rfl⟩ (λj Z G z=>z.2.1) ?_ ?_ ?_ ?_
 .intro j Z G hj z
  exact⟨T,T[j],Z2<|z.1 _ _ N,by simp[hj]⟩
 .intro Z G z
  exact⟨T,Z2<|z.1 _ _ N,ZG _⟩
 .intro j Z G u H'' R hj z yl hR
  obtain⟨rfl,x⟩:=yl;obtain⟨dd,R4,R3⟩:=I.get<|x T<|Z2<|z.1 _ _ N;obtain⟨tg,bb,ht,rfl⟩:=brs_get R4;obtain⟨t2,R5,rfl,M2,_⟩:=Lh R3;exists _,Z2<|z.1 _ _ M2,rfl;refine hR _ _ ⟨z.1,by rw[ZL,z.2.1];rfl,?_⟩;rw[z.2.2,take_snoc ht,ZK]
  rfl
 .intro Z H1 l2 z hl2
  obtain⟨o,_,rfl⟩:=z;rw[Zg (by omega)];refine up_in hl2 (.lst<|L.map V.str) λH2 s2 g2=>?_;refine⟨l2,_,Y,.inl ⟨Z3 g2,λt3 G3=>?_⟩⟩;refine up_in G3 (.tup<|L.map V.str) λH3 s3 g3=>?_;have J:=(o.trans s2).trans s3;exists _,_,Z2<|J _ _ m,rfl,.tup<|L.map Dat.str,.tup<|us.map Dat.str,Yu g3<|XH L,Yu (J _ _ hl)<|XH us,?_,_,rfl
  .have:=NA L
   unfold Dat.dep at this |-;exact this
  unfold Dat.pq;rw[G8]
  by_cases ct:L=us
  case neg=>
   rw[MU (λz=>ct (by have o:=M.symm.trans z.1;injection o with z2;injection z2 with z3;exact z3.symm))]at q;exact VI (by simp[ct])<|q H3 J
  subst ct;refine Y1 (by simp) ?_;have U:=J _ _ hf;exists _,.str y,Z3 U,VE (j:=1) Y;refine⟨2,Y,fl,_,Y,Z3 U,λl4 R1=>?_⟩;rw[vm];refine up_in R1 (.lst<|r.map V.str) λH4 s4 g=>?_;exists ⟨_,Z3 g⟩;refine Vu r.length (Yx<|by omega) (λj Z G=>Same H4 G/\Z=((r.take j).map λu=>!decide (V.str u=V.str y)).map V.bl/\Z.length=j) ⟨Z8 _,rfl,rfl⟩ (λj Z G z=>z.2.2) ?_ ?_ ?_ ?_
  .intro j Z G hj z
   exact⟨_,.str r[j],Z3<|z.1 _ _ g,by rw[ZH,ZD hj];rfl⟩
  .intro Z G z
   exact⟨_,Z3<|z.1 _ _ g,by rw[ZA];exact ZG _⟩
  .intro j Z G u H'' R hj z yl hR
   obtain⟨rfl,x⟩:=yl;have e5:=x _<|Z3<|z.1 _ _ g;rw[ZH,ZD hj]at e5;cases ZT e5;refine⟨Y,hR _ _ ⟨z.1,?_,by rw[ZL,z.2.2];rfl⟩⟩;rw[z.2.1,take_snoc<|ZD hj,ZK,ZK]
   rfl
  .intro Z H5 l6' z hl6
   obtain⟨z5,rfl,_⟩:=z;rw[pR];refine up_in hl6 (.lst<|(r.map λu=>!decide (V.str u=V.str y)).map V.bl) λH6 s6 g6=>?_;have D:=((J.trans s4).trans z5).trans s6;exists l6',_,Y,Z3 g6,_,Y
   by_cases cu:∀u∈r,u=y
   .rw [Pa M cu]at q
    exact Y1 (by rw[(OS y r).mpr cu];simp)<|q H6 D
   .rw [MU (λz=>cu z.2)]at q
    refine VI ?_<|q H6 D
    cases ea:(r.map λu=>!decide (V.str u=V.str y)).any id with
    |true=>rfl
    |false=>exact Zr ((OS y r).mp ea) cu
end
end K4
namespace L2
open PySem
def TZ{g:TG}{O:TS}{D:Ends}(Z:xi)(P:Z 0 U H)(S:∀i U H,i<=xs.length->Z i U H->Sq K tp H a xs)(A:∀i x U H r,xs[i]?=some x->Z i U H->H r=none->g (.ref r) U (upd H r<|.tup [.int ((i:Nat):Int),x]) fun σ2 M=>O {D with nx:=Z<|i+1,ct:=Z<|i+1,bk:=D.nx} σ2 M)(hd:∀U H,Z xs.length U H->D.nx U H):
  ∃W:Nat->Nat->St->Hp->Prop,(∃m,W 0 m U H)/\∀i m U H,W i m U H->
   ((Ite K tp a).stop i H/\D.nx U H)\/((Ite K tp a).go i H/\∃N:xj,(∀L J,N L J->∃R,R<m/\W (i+1) R L J)/\∀x J,(Ite K tp a).yld i H x J->g x U J fun σ2 M=>O {D with nx:=N,ct:=N,bk:=D.nx} σ2 M):=by
 refine⟨λi m U H=>m=xs.length-i/\i<=xs.length/\Z i U H,⟨xs.length,by simp,Zc _,P⟩,λi m U H z=>?_⟩;obtain⟨rfl,C,p⟩:=z;have q:=S i U H C p;rcases jS i xs.length with G|X
 .refine .inr ⟨⟨xs,xs[i],q,ZD G⟩,Z<|i+1,λL J B=>⟨xs.length-(i+1),by omega,rfl,G,B⟩,λx J y=>?_⟩
  obtain⟨r,T,rfl,I,rfl,F⟩:=y;exact A i T U H r (F xs q) p I
 .have e:i=xs.length:=by omega
  exact .inl ⟨⟨xs,q,by omega⟩,by subst e;exact hd U H p⟩
def Mq{g:TG}{L:TS}{D:Ends}(Z:xi)(S:Z 0 U H)(I:∀i U H,i<=xs.length->Z i U H->Sq K tp H a xs)(F:∀(B:xj)(R:VK) i x U H r,xs[i]?=some x->Z i U H->H r=none->g (.ref r) U (upd H r<|.tup [.int ((i:Nat):Int),x]) fun σ2 G=>L {nx:=Z<|i+1,rt:=R,bk:=B,ct:=Z (i+1)} σ2 G)(hd:∀U H,Z xs.length U H->D.nx U H):
  ∃W:Nat->Nat->St->Hp->Prop,(∃m,W 0 m U H)/\∀i m U H,W i m U H->
   ((Ite K tp a).stop i H/\D.nx U H)\/((Ite K tp a).go i H/\∃N:xj,(∀O J,N O J->∃M,M<m/\W (i+1) M O J)/\∀x J,(Ite K tp a).yld i H x J->g x U J fun σ2 G=>L {D with nx:=N,ct:=N,bk:=D.nx} σ2 G):=
 TZ Z S I (λi x U H r E p A=>F _ _ i x U H r E p A) hd
def Rd.same(r:Rd H a u)(e:Same H Z):Rd Z a u:=r.imp (λh=>e _ _ h) λ⟨o,h⟩=>⟨o,e _ _ h⟩
def Od(Z:xf)(b:Bd):(wth Z b).length<=Z.length+1:=by
 cases b with
 |letb x z e g=>exact NI Z _ _
 |_=>exact qV _
def Wh{o:Option Str}(h:o=none):Wi o=.non:=by rw[h];rfl
end L2
namespace K4
open PySem L2
section
variable{f g C CK:Addr}
def RC(C CK:Addr)(n:Nat):Sp:=λM H Q _=>∃(t a:Addr)(v:V)(Z:xq)(c d:xr)(G:List Dd)(J:xf)(b:Bd),
 M=[.ref t,.ref a,v]/\BI H C CK t Z d G/\KK 30 c d Z/\HK (Z.map (·.1)) (Vq<|G.map (·.1))/\NK (Z.map (·.1)) J/\(∀x∈G,x.1.2.1.length<=3)/\Rd H a (.dK J)/\J.length+b.dep<=500/\Has H v b.dat/\b.ok/\b.dep<n/\n<=500/\
 ∀r p L,Same H L->L r=some (.tup [Wi (kdn Z (Vq<|G.map (·.1)) n J b),p])->(kdn Z (Vq<|G.map (·.1)) n J b=none->∃l w r,p=.ref l/\L l=some (.tup<|List.map V.int w)/\w.length<=n/\wr Z (Vq<|G.map (·.1)) n J b=w::r)->Q (.ref r) L
def Ts:Yh ["book","around","body","within","found","number","part","kind","place","rule"] ["book","around","body"] (Yd sKP):=Y2
def EF(h:U[i]?=some (some v))(k:u D (U.set j<|some v) H):Yn (E5 (IM i)<|V2 j) u D U H:=by
 show Fy U[i]? _;rw[h];exact k
def zA(B:Blt mg)(me:mg "enumerate"=none)(TB:BCl K C)(TC:KCl K CK)(F:Fun K "kind_or_place" "kind_or_place" sKP f fd)(G:Ye P w K mg base CX0 (L+3) f fd ["book","around","body"] (RC C CK n))(bG:Binds K fd ["book","around","body"] [])(mG:mg "kind_or_place"=some (.ref f))(m1:VM K C "kinds" g1)(G1:Ye P w K mg base CX0 (L+3) g1 d1 ["self"] (JY C CK))(b1:Binds K d1 ["self"] [])(m2:VM K CK "names" g2)(G2:Ye P w K mg base CX0 (L+3) g2 d2 ["self"] (XJ CK))(b2:Binds K d2 ["self"] [])(DP:Df P w K mg base (L+3) "parts" ["body"] Xt)(mU:mg "RULES"=some (.ref aR))(hM:base.MapOf (VA P w) aR mR)(hR:∀b:Bd,(∀e ts bs,b=.choose e ts bs->1<=bs.length)->∃(g:Addr)(gd:FuncData)(p:Bd->Prop),mR (Sum.inr b.word)=some (.ref g)/\Ye P w K mg base CX0 (L+3) g gd rps (Xs C CK p)/\p b/\W.keepIn K (.ref g)=true/\Binds K gd rps []):
  Ye P w K mg base CX0 (L+3+1) f fd ["book","around","body"] (RC C CK<|n+1):=by
 refine F.oq Ts λF6 A T4 s H vs Q E hr h=>?_;obtain⟨t,a,v,J,c,d,T,M,b,rfl,bi,kk,hk,nk,pl,ha,kl,hv,ok,dn,n5,q⟩:=h;have hu:=JI hr;have DG:Df P w K mg base (L+3) "kind_or_place" ["book","around","body"] (RC C CK n):=⟨f,fd,mG,F.kp,bG,G⟩;refine⟨_,YY (Y0 3 Ts.nd<|pv 1)
  (YY (Y4 (Ys Vi (Ym Yq (pv 2) Ya) Yp<|Yz _)
   (YY (Y4 (PW.pt<|UZ (Uk<|Xk hu (Ym Yq (pv 2) Ya)<|pv 1)<|UG<|Ys Jk (Ym Yq (pv 2) Ya) (Vg (Vg (pv 0) TB.cl m1 G1 hr b1 .nil Y3) TC.cl m2 G2 hr b2 .nil Y3) rfl) (YZ<|Yj<|Yi<|pa2 Vo<|Yi Vj) Yo)
   (YY (Y0 3 Ts.nd<|VW Dm rfl B.dict UL (pa1<|pv 1))
   (YZ<|Vw hu (pv 3) (Ym Yq (pv 2) Ya) (Ym Yq (pv 2) Ya) rfl))) Yo)
  (YY (Y0 4 Ts.nd<|V4 Vj)
  (YY (JC Zv rfl (Xz rfl me (pa1<|Vh DP hr<|pa1<|pv 2)) (VU (n:=2) rfl (Yk (Yl 5 Ts.nd)<|Yk (Yl 6 Ts.nd) VJ))
   (YY (Jh (Vh DG hr<|pa3 (pv 0) (pv 3)<|pv 6)<|VU (n:=2) rfl (Yk (Yl 7 Ts.nd)<|Yk (Yl 8 Ts.nd) VJ))
   (YY (Y4 (Ys Wj (pv 7) Vo<|Yz _) (YZ<|Yj<|Yi<|pa2 Vo<|Y9 MY (Yi<|pa1<|pv 5)<|pv 8) Yo)
   (YZ<|VR<|UI Zz Z0 Z1 Ve (pv 4)<|pa1<|pv 7))))
  (YY (Y0 9 Ts.nd<|PQ rfl mU hM hu (Ym Yq (pv 2) Ya) (λ_ _=>rfl))
  (YY (Y0 7 Ts.nd<|Ka (pv 9) hr Y3<|pa4 (pv 0) (pv 1) (pv 2)<|pv 4)
  (YY (Y4 (Ys Wj (pv 7) Vo<|Yz _) (YZ<|Yj<|Yi<|pa2 Vo<|Yi Vj) Yo)
  (YZ<|Yj<|Yi<|pa2 (pv 7) Vo))))))),?_⟩
 dsimp only[Vb,Cx.nox,Cx.wish];show let a:=_;let b:=_;let c:=Yn (VH _ b _) a;let d:=Yn _ c;let e:=Yn _ d;let f:=_;let g:=_;let h:=Yn (VH _ g _) f;let i:=Yn _ h;let j:=Yn (U1 _ _ i) e;let k:=Yn _ j;let l:=_;let m:=Yn _ l;let n:=_;let o:=Yn (VH _ n _) m;let p:=Yn (VH _ o _) k;Yn _ p _ _ _
 intros
 obtain⟨bt,ys,rfl,hb⟩:=Lk hv;have F5:=Bd.few ok
 have R4:kdn J (Vq<|T.map (·.1)) (n+1) M b=none->[[]]=wr J (Vq<|T.map (·.1)) (n+1) M b->∀R,Same H R->∀O r0,R O=none->(upd R O<|.tup []) r0=none->Q (.ref r0) (upd (upd R O<|.tup []) r0<|.tup [.non,.ref O]):=λe T6 R D O r0 h0 h1=>by
  have s2:=Yv h0<|.tup [];have g2:upd R O (.tup []) O=some (.tup []):=Yf;refine q r0 (.ref O) _ ((D.trans s2).trans<|Yv h1 _) (by rw[Wh e];exact Yf) λ_=>⟨O,[],[],rfl,(Yv h1 _) _ _ g2,Zc _,T6.symm⟩
 refine EF Y ?_;refine WY (λU' R=>∃wa,Same H R/\ ¬J3 J M b/\Rd R wa (.dK<|wth M b)/\U'=[some (.ref t),some<|.ref a,some<|.ref bt,some<|.ref wa,none,none,none,none,none,none]) ?_ ?_
 .rintro U' R ⟨wa,D,nb,hw,rfl⟩
  have R7:=nk.wth nb;refine⟨sl 0,λfl T1=>?_⟩;refine up_in T1 _ λH2 s2 g2=>?_;refine⟨.ref bt,b,Y,(hv.mono D).mono s2,ok,λu H3 s3 T7=>?_⟩;obtain⟨pa,xs,rfl,T0,R8⟩:=Yr T7;have lx:=R8.length;rw[Z9,ZA]at lx;exists pa,true,xs,Y,Z2 T0
  let I:xi:=λi U Hi=>Same R Hi/\Hi pa=some (.tup xs)/\HasL Hi xs (Bd.dats b.parts)/\(∃zs:pX,(b.parts.take i).map (kdn J (Vq<|T.map (·.1)) n<|wth M b)=zs.map some/\Hi fl=some (.lst<|zs.map V.str))/\∃z5 z6 z7 z8,U=[some (.ref t),some<|.ref a,some<|.ref bt,some<|.ref wa,some<|.ref fl,z5,z6,z7,z8,none]
  refine TZ (tp:=true) (xs:=xs) I ⟨s2.trans s3,T0,R8,⟨[],Y,s3 _ _ g2⟩,_,_,_,_,Y⟩ (λi U Hi _ z=>Z2 z.2.1) ?_ ?_
  .rintro i x U Hi r hx ⟨si,hai,hxi,⟨zs,ez,hfi⟩,z5,z6,z7,z8,rfl⟩ hr'
   refine up_in hr' _ λHR sR gR=>?_;obtain⟨dd,J2,D3⟩:=hxi.get hx;rw[Z9,ZH]at J2
   cases hc:b.parts[i]? with
   |none=>rw[hc]at J2;cases J2
   |some c'=>
    rw[hc]at J2;cases J2;have M2:=ZJ hc;have dc:=Bd.dep_mem M2;have il:=(ZF.mp hc).1;have wl:=Od M b;have O1:=(D.trans si).trans sR
    have lz:zs.length<=i:=by
     have:=congrArg List.length ez;rw[ZA,ZA,ZN]at this;omega
    exists _,Z2 gR,Y;refine⟨t,wa,x,J,c,d,T,wth M b,c',Y,bi.mono O1,kk,hk,R7,pl,hw.same<|si.trans sR,by omega,D3.mono sR,Bd.ok_parts ok c' M2,by omega,by omega,λr2 p2 H4 s4 h4 hp=>?_⟩;exists _,Z2 h4,Y
    cases ek:kdn J (Vq<|T.map (·.1)) n (wth M b) c' with
    |none=>
     have en:kdn J (Vq<|T.map (·.1)) (n+1) M b=none:=TJ<|ZW.mpr ⟨c',M2,ek⟩;obtain⟨l2,ws,wt,rfl,G3,lw,ew⟩:=hp ek;have pn:none∈b.parts.map (kdn J (Vq<|T.map (·.1)) n<|wth M b):=ZW.mpr ⟨c',M2,ek⟩;obtain⟨R5,F2⟩:=E2 (f:=wr J (Vq<|T.map (·.1)) n<|wth M b) hc ((Fp λe he=>by have:=Bd.dep_mem<|Zk he;omega).mpr (by rw[ez];simp)) ew;have T3:=(Oe nb pn).trans F2;refine⟨Y,_,Y,VI (by simp[Wi]) ?_⟩;refine⟨sl 1,λt1 T9=>?_⟩;refine up_in T9 _ λH5 s5 g5=>?_;refine⟨t1,l2,_,_,Y,Y,Z2 g5,Z2<|s5 _ _ G3,by simp,Zh<|Yx (by show 1+(ws.map V.int).length<=1000;rw[ZA];omega),λe0=>?_,λe0 t2 T8=>?_⟩
     .refine ⟨sl 2,λS Z=>?_⟩
      exact q S _ _ (((O1.trans s4).trans s5).trans<|Yv Z _) (by rw[Wh en];exact Yf) λ_=>⟨t1,[((i:Nat):Int)],R5,rfl,(Yv Z _) _ _ g5,by show 1<=n+1;omega,by rw[T3];cases ws with|nil=>rfl|cons _ _=>cases e0⟩
     .refine up_in T8 _ λH6 s6 g6=>?_
      refine⟨sl 2,λS Z=>?_⟩;exact q S _ _ ((((O1.trans s4).trans s5).trans s6).trans<|Yv Z _) (by rw[Wh en];exact Yf) λ_=>⟨t2,((i:Nat):Int)::ws,R5,rfl,(Yv Z _) _ _ g6,by rw[Zf];omega,T3⟩
    |some zk=>
     refine⟨Y,_,Y,Y1 (by simp[Wi]) ?_⟩;have R1:=s4 _ _<|sR _ _ hfi;refine⟨.inl ⟨Y,_,Z3 R1⟩,fl,_,_,Y,Y,R1,Yx (by rw[ZA];omega),?_⟩;have D0:=s4 _ _<|sR _ _ hai;have tk:TK H4 (upd H4 fl<|.lst<|zs.map V.str++[Wi (some zk)]):=λb us h=>by rw[Yg (λe=>by rw[e,R1]at h;cases h)];exact h
     refine⟨((si.trans sR).trans s4).putN T1,tk _ _ D0,Ge tk _ (Bd.sts _)<|(hxi.mono sR).mono s4,⟨zs++[zk],?_,?_⟩,_,_,_,_,rfl⟩
     .rw [take_snoc hc,ZK,ZK,ez]
      show _++[kdn _ _ _ _ _]=_;rw[ek];rfl
     .rw [Yf,ZK];rfl
  .rintro U Hi ⟨si,hai,hxi,⟨zs,ez,hfi⟩,z5,z6,z7,z8,rfl⟩
   rw[Zg (by omega)]at ez;have sH:=D.trans si;have a0:atI (V.str b.word::ys) 0=some (.str b.word):=VE (j:=0) rfl
   obtain⟨gr,F1,pr,r1,r2,r3,r4,r5⟩:=hR b (λe' F3 F8 eb=>by
    subst eb;unfold Bd.ok at ok;rw[ok.2.1];exact ok.2.2.1.1)
   have lz:zs.length=b.parts.length:=by
    have:=congrArg List.length ez;rw[ZA,ZA]at this;exact this.symm
   have mz:∀z∈zs,z∈J.map (·.1):=λz hz=>by
    have m:some z∈b.parts.map (kdn J (Vq<|T.map (·.1)) n<|wth M b):=by rw[ez];exact ZW.mpr ⟨z,hz,Y⟩
    obtain⟨p,_,e⟩:=ZW.mp m;exact Ea kk hk n _ p z R7 e
   have eo:=Mc nb ez;exists _,_,Z2<|sH _ _ hb,a0,Sum.inr b.word,_,.ref gr,rfl,r1,rfl;refine⟨gr,F1,rps,Xs C CK pr,Y,r2,r4,r5,t,a,fl,.ref bt,J,c,d,T,M,b,zs,Y,bi.mono sH,kk,nk,pl,ha.same sH,hv.mono sH,ok,r3,hfi,lz,mz,λH5 s5=>?_⟩;rw[<-eo];have R6:=sH.trans s5
   cases ek:kdn J (Vq<|T.map (·.1)) (n+1) M b with
   |none=>exact⟨Y,_,Y,VI (by simp[Wi]) ⟨sl 0,λO X=>⟨sl 2,λS Z=>R4 ek (Q7 nb (by rw[ez];simp) ek) H5 R6 O S X Z⟩⟩⟩
   |some y=>
    refine⟨Y,_,Y,Y1 (by simp[Wi]) ⟨sl 2,λS Z=>?_⟩⟩;exact q S _ _ (R6.trans<|Yv Z _) (by rw[ek];exact Yf) λe=>by rw[ek]at e;cases e
 .intro N key
  have a0:atI (V.str b.word::ys) 0=some (.str b.word):=VE (j:=0) rfl;exists _,_,Z2 hb,a0,Y,_,Y
  cases b with
  |letb x k e g=>
   obtain⟨F7,u1,u2,e1,R3⟩:=Eg hv;cases e1;obtain⟨A',kt,rfl,b'⟩:=id bi;refine VI (decide_eq_true Y) ?_;exists _,_,Z2 R3,Y,_,.inl ⟨M,Sum.inr x,ha,Y,Y⟩,_,Y
   by_cases kn:(VF M<|Sum.inr x).isSome=true
   .exact VI (by rw[kn]) ⟨sl 0,λO X=>⟨sl 2,λS Z=>R4 (Gc<|.inl kn) (Fq<|.inl kn) H (Z8 _) O S X Z⟩⟩
   refine Y1 (by simpa using kn) ?_;refine⟨_,_,Z2 R3,Y,_,_,b'.ins,Y,A'.t,J,d,T,Y,bi,λso ki=>?_⟩;obtain⟨AK,SK,rfl,T5,F4⟩:=id ki;refine⟨_,_,T5.ins,Y,AK.t,J,d,Y,ki,λl R D hl g1=>?_⟩;have el:(J.map λk=>V.str k.1)=(J.map (·.1)).map V.str:=by rw[jk];rfl
   rw[el]at g1;exists l,_,Y,.inl<|Z3 g1,rfl,UB _,_,rfl;rw[Ua]
   by_cases km:k∈J.map (·.1)
   case neg=>exact VI (by simp only[if_true,qz,decide_eq_false_iff_not];exact km) ⟨sl 0,λO X=>⟨sl 2,λS Z=>R4 (Gc<|.inr km) (Fq<|.inr km) R D O S X Z⟩⟩
   refine Y1 (by simp only[if_true,qz,decide_eq_false_iff_not,Classical.not_not];exact km) ?_;refine⟨a,M,Y,ha.same D,λl2 G3=>?_⟩;refine up_in G3 _ λH2 s2 g2=>?_;have T2:=s2 _ _<|D _ _ R3;refine⟨_,_,Z2 T2,Y,_,_,Z2 T2,Y,_,Uw.k (k:=Sum.inr x) g2<|Yx<|by omega,?_⟩;exact key _ _ ⟨l2,(D.trans s2).putN<|D.free G3,λz=>z.elim (λz=>kn z) λz=>z km,.inl Yf,rfl⟩
  |_=>exact Y1 (λz=>by have z1:=Zt z;injection z1 with z2;exact Zr z2 (by dsimp only[Bd.word];decide +kernel))<|key _ _ ⟨a,Z8 _,λz=>z,ha,rfl⟩
end
end K4
namespace L2
open PySem
def Uy(ks:xq)(ps:List (Str×Str)):List (List W):=ps.foldl (λrows p=>rows.flatMap λr=>(VC ks 3 p.2).map λu=>r++[u]) [[]]
def We(r:List W):Dat:=.tup<|r.map W.dat
def Bp(Z:xq)(J:List (Str×Str))(p:Str×Str):Uy Z (J++[p])=(Uy Z J).flatMap λr=>(VC Z 3 p.2).map λu=>r++[u]:=by
 unfold Uy;rw[qy]
 rfl
theorem RO{α β:Type}(f:α->List β)(k:Nat):∀l:List α,(∀a∈l,(f a).length=k)->(l.flatMap f).length=l.length*k
 |[],_=>by simp
 |a::l,h=>by
  rw[jK,ZL,h a Za,RO f k l λb Z=>h b<|ZM _ Z,Zf,jN,qQ]
theorem Ui(c:xr):∀(Z:List (Str×Str))(n:Nat),Z.foldl (λr p=>r*c p.2) n=n*Vy c Z
 |[],n=>by unfold Vy;simp
 |p::Z,n=>by
  unfold Vy;rw[qg,qg,Ui c Z<|n*c p.2,Ui c Z<|1*c p.2,Nat.one_mul,Nat.mul_assoc]
def G4(h:∀p∈ps,0<c p.2)(i:Nat):Vy c (ps.take i)<=Vy c ps/\0<Vy c ps:=by
 have J:∀Z:List (Str×Str),(∀p∈Z,0<c p.2)->0<Vy c Z:=λZ=>by
  induction Z with
  |nil=>intro _;exact Nat.one_pos
  |cons q Z ih=>
   intro L;unfold Vy;rw[qg,Ui,Nat.one_mul];exact Nat.mul_pos (L q Za)<|ih λp G=>L p<|ZM _ G
 refine⟨?_,J ps h⟩
 have e:Vy c ps=Vy c (ps.take i)*Vy c (ps.drop i):=by
  conv=>lhs;rw[<-kT i ps]
  unfold Vy;rw[qy,Ui]
  rfl
 rw[e];exact Nat.le_mul_of_pos_right _<|J _ λp G=>h p<|kY G
def KK.c0(h:KK 30 c d Z)(J:y∈Z.map (·.1)):(VC Z 3 y).length=c y/\0<c y:=by
 have s:=h.small J;obtain⟨a,b,_⟩:=WO h 3 y J (by omega);exact⟨a,b⟩
def FF(h:KK 30 c d J)(Z:List (Str×Str))(L:∀p∈Z,p.2∈J.map (·.1)):(Uy J Z).length=Vy c Z:=by
 have go:∀(Z:List (Str×Str))(rows:List (List W)),(∀p∈Z,p.2∈J.map (·.1))->(Z.foldl (λrows p=>rows.flatMap λr=>(VC J 3 p.2).map λu=>r++[u]) rows).length=Z.foldl (λr p=>r*c p.2) rows.length:=λZ=>by
  induction Z with
  |nil=>intro rows _;rfl
  |cons p Z ih=>
   intro rows G;rw[qg,qg,ih _ λq m=>G q<|ZM _ m,RO _ (c p.2) rows λa _=>by rw[ZA];exact(h.c0<|G p Za).1]
 exact go Z [[]] L
def Bq(Z:List (Str×Str)):∀r∈Uy ks Z,r.length=Z.length:=by
 have go:∀(Z:List (Str×Str))(n:Nat)(rows:List (List W)),(∀r∈rows,r.length=n)->∀r∈Z.foldl (λrows p=>rows.flatMap λr=>(VC ks 3 p.2).map λu=>r++[u]) rows,r.length=n+Z.length:=λZ=>by
  induction Z with
  |nil=>intro n rows h r J;exact h r J
  |cons p Z ih=>
   intro n rows h r J
   have:=ih (n+1) _ (λr J=>by
    obtain⟨G,M,L⟩:=List.mem_flatMap.mp J;obtain⟨u,_,rfl⟩:=ZW.mp L;rw[ZL,h G M];rfl) r J
   rw[this,Zf];omega
 intro r J;have:=go Z 0 [[]] (λr J=>by rw[ZQ.mp J];rfl) r J;omega
def QN(N:Has H x (We r))(J:H b=some (.tup [wv]))(O:Has H wv u.dat)(B:r.length<=3)(q:∀v G,Same H G->Has G v (We<|r++[u])->Q v G):
  UY K x (.ref b) H Q\/UX K x (.ref b) H Q:=by
 unfold We at N q;obtain⟨a,L,rfl,R,Z⟩:=Yr N;have M:=Z.length;rw[ZA]at M
 cases r with
 |nil=>
  obtain rfl:=VB Z;exact .inl ⟨a,b,[wv],Y,Y,Z2 R,Z2 J,q _ _ (Z8 _)<|Yu J<|Z5 O⟩
 |cons y r=>
  refine .inr ⟨a,b,L,[wv],Y,Y,Z2 R,Z2 J,(λz=>by subst z;cases M),Zh (Yx (by simp only[vy];omega)),(λz=>nomatch z),λ_ p T=>?_⟩;have s:=Yv T<|.tup<|L++[wv];refine q _ _ s<|Yu Yf ?_;rw[ZK];exact Z7 (Z.mono s)<|Z5<|O.mono s
def Bw{J:List (Str×Str)}{i:Nat}(h:HasL H G (J.map λp=>.tup [.str p.1,.str p.2]))(L:G[i]?=some x):∃p t,J[i]?=some p/\x=.ref t/\H t=some (.tup [.str p.1,.str p.2]):=by
 obtain⟨d,Z,N⟩:=h.get L;rw[ZH]at Z
 cases e:J[i]? with
 |none=>rw[e]at Z;cases Z
 |some p=>
  rw[e]at Z;cases Z;obtain⟨t,rfl,M⟩:=X7 N;exact⟨p,t,Y,Y,M⟩
end L2
namespace K4
open PySem L2
section
variable{f g C CK:Addr}
def MD(CK:Addr):Sp:=λM H Q _=>∃(G:Addr)(J:xq)(d:xr)(Z:List (Str×Str))(v:V),M=[.ref G,v]/\KI H CK G J d/\J.length<=6/\Has H v (psD Z)/\Z.length<=3/\(∀p∈Z,p.2∈J.map (·.1))/\(Z.map (·.1)).Nodup/\(∀p∈Z,WdS p.1)/\
 ∀L,Same H L->Q (.bl true) L
def GU:Yh ["kinds","parameters","seen","name","kind"] ["kinds","parameters"] (Yd Bo):=Y2
def K3(B:Blt T)(TC:KCl K CK)(F:Fun K "are_parameters" "are_parameters" Bo f fd)(hM:T "MOST_PARAMETERS"=some u)(rM:RelV (.int 3) u)(DN:Df P w K T base n "is_name" ["text"] (U4 97))(m2:VM K CK "names" g)(G2:Ye P w K T base CX0 n g gd ["self"] (XJ CK))(b2:Binds K gd ["self"] []):Ye P w K T base CX0 (n+1) f fd ["kinds","parameters"] (MD CK):=by
 refine F.oq GU λJ2 A j s H vs Q E m h=>?_;obtain⟨so,y,d,ps,v,rfl,ki,k6,hv,l3,pk,nd,S,q⟩:=h;have hu:=JI m;unfold psD at hv;obtain⟨pa,xs,rfl,Z,M⟩:=Yr hv;have lx:=M.length;rw[ZA]at lx;refine⟨_,YY (Y4 (Ys NM (VD Y6 Y B.len Zu (pa1<|pv 1)) (Ji rfl hM rM)<|Yz _) (YZ JU) Yo)
  (YY (Y0 2 GU.nd Vz)
  (YY (JC Zv rfl (UH<|pv 1) (VU (n:=2) rfl (Yk (Yl 3 GU.nd)<|Yk (Yl 4 GU.nd) VJ))
   (YY (Y4 (PW.pt<|UZ (Jg<|JB<|Vh DN m<|pa1<|pv 3)<|UZ (Uk<|Xk hu (pv 3)<|pv 2)<|UG<|Ys Jk (pv 4) (Vg (pv 0) TC.cl m2 G2 m b2 .nil Y3) rfl) (YZ JU) Yo)
   (YZ<|Vw hu (pv 2) (pv 3) XX rfl)))
  (YZ<|Yj XX))),?_⟩
 dsimp only[Vb,Cx.nox,Cx.wish];show let a:=_;let b:=_;let c:=_;let d:=Yn (VH _ c _) b;let e:=Yn (U1 _ _ d) a;let f:=Yn _ e;let g:=_;Yn (VH _ g _) f _ _ _
 intros
 refine⟨pa,_,Y,.inr<|Z2 Z,_,rfl,Y1 (by simp;omega) ?_⟩;intro X N;refine up_in N _ λH1 s1 g1=>?_;exists ⟨_,Z2<|s1 _ _ Z⟩
 let I:xi:=λi U J=>Same H J/\∃G z3 z4,J X=some (.dK G)/\G.map (·.1)=(ps.take i).map (λp=>(Sum.inr p.1:Key))/\U=[some (.ref so),some<|.ref pa,some<|.ref X,z3,z4]
 refine Tb (xs:=xs) I ⟨s1,[],_,_,g1,Y,Y⟩ (λi U J _ z=>Z2<|z.1 _ _ Z) ?_ ?_
 .rintro BB RR i x U J hx ⟨si,G,z3,z4,hk,ek,rfl⟩
  obtain⟨p,t,D,rfl,ht⟩:=Bw M hx;have O:=ZJ D;have i3:=(ZF.mp D).1;obtain⟨w1,w2,w3⟩:=S p O
  have nk:VF G (Sum.inr p.1)=none:=Rj (by
   rw[ek];intro z;obtain⟨q1,r,o⟩:=ZW.mp z;exact RH nd (show(ps.map (·.1))[i]?=some p.1 by rw[ZH,D];rfl) (by rw[<-qJ];exact ZW.mpr ⟨q1,r,Sum.inr.inj o⟩))
  exists _,Z2<|si _ _ ht,rfl;refine⟨p.1,Y,w1,w2,w3,λH2 R=>⟨_,Y,Y1 (by simp) ?_⟩⟩;refine⟨_,(show V9 H2 X (.str p.1) none by rw[<-nk];exact V9.k (k:=Sum.inr p.1)<|R _ _ hk),_,Y,Y1 (by simp) ?_⟩;have L:=ki.mono<|si.trans R;obtain⟨AK,SK,o,kd,kr⟩:=id L;refine⟨_,_,by rw[<-o];exact kd.ins,Y,so,y,d,Y,L,λl H3 s3 hl g3=>?_⟩;have el:(y.map λk=>V.str k.1)=(y.map (·.1)).map V.str:=by rw[jk];rfl
  rw[el]at g3;refine⟨l,_,Y,.inl<|Z3 g3,rfl,UB _,_,rfl,Y1 ?_ ?_⟩
  .rw [Ua]
   simp only[if_true,qz,decide_eq_false_iff_not,Classical.not_not];exact pk p O
  have lk:G.length<=3:=by
   have:=congrArg List.length ek;rw[ZA,ZA,ZN]at this;omega
  refine⟨_,Uw.k (k:=Sum.inr p.1) (s3 _ _<|R _ _ hk)<|Yx<|by omega,?_⟩;refine⟨((si.trans R).trans s3).putN N,_,_,_,Yf,?_,Y⟩;rw[JZ _ nk,ZK,ek,take_snoc D,ZK]
  rfl
 .rintro U J ⟨si,_⟩
  exact q J si
def Xe(CK:Addr):Sp:=λM H Q _=>∃(G:Addr)(J:xq)(c d:xr)(Z:List (Str×Str))(v:V),M=[.ref G,v]/\KI H CK G J d/\KK 30 c d J/\Has H v (psD Z)/\(∀p∈Z,p.2∈J.map (·.1))/\Vy c Z<=1000/\
 ∀L,Same H L->Q (.int (Vy c Z:Nat)) L
def UF:Yh ["kinds","parameters","count","name","kind"] ["kinds","parameters"] (Yd Wc):=Y2
def NP(B:Blt S)(TC:KCl K CK)(F:Fun K "row_count" "row_count" Wc f fd)(o:VM K CK "worths_of" g)(G2:Ye P w K S base CX0 n g gd ["self","kind"] (UC CK))(b2:Binds K gd ["self","kind"] []):Ye P w K S base CX0 (n+1) f fd ["kinds","parameters"] (Xe CK):=by
 refine F.oq UF λJ2 A R s H vs Q E hr h=>?_;obtain⟨T,ks,c,d,ps,v,rfl,ki,j,y,D,top,q⟩:=h;unfold psD at y;obtain⟨r,xs,rfl,G,J⟩:=Yr y;have lx:=J.length;rw[ZA]at lx;refine⟨_,YY (Y0 2 UF.nd Ya)
  (YY (JC Zv rfl (UH<|pv 1) (VU (n:=2) rfl (Yk (Yl 3 UF.nd)<|Yk (Yl 4 UF.nd) VJ))
   (YZ<|KO (i:=2) UF.nd rfl (Or.inl rfl) (VD Y6 rfl B.len Zu (pa1<|Y5 (pv 0) TC.cl o G2 hr b2 .nil Y3<|pa1<|pv 4)) P3))
  (YZ<|Yj<|pv 2)),?_⟩
 dsimp only[Vb,Cx.nox,Cx.wish];show let a:=_;let b:=_;let c:=Yn (U1 _ _ b) a;Yn _ c _ _ _
 intros
 refine OQ ?_;exists ⟨_,Z2 G⟩
 let I:xi:=λi U L=>Same H L/\∃O N,U=[some (.ref T),some<|.ref r,some<|.int (Vy c (ps.take i):Nat),O,N]
 refine Tb (xs:=xs) I ⟨Z8 _,_,_,Y⟩ (λi U L _ z=>Z2<|z.1 _ _ G) ?_ ?_
 .rintro BB RR i x U L hx ⟨si,O,N,rfl⟩
  obtain⟨p,t,M,rfl,ht⟩:=Bw J hx;have m:=D p<|ZJ M;exists _,Z2<|si _ _ ht,rfl;have Z:=ki.mono si;obtain⟨AK,SK,e1,kd,kr⟩:=id Z;refine⟨_,Y,_,_,by rw[<-e1];exact kd.ins,Y,T,ks,d,p.2,Y,Z,m,λl k H3 u hl g3 hy=>?_⟩;have X:=hy.length;obtain⟨c1,c2⟩:=j.c0 m;rw[ZA,c1]at X;have le:=(G4 (c:=c) (ps:=ps) (λp M=>(j.c0<|D p M).2) i).1;refine⟨l,_,Y,.inl<|Z3 g3,.inl ⟨by omega,by omega⟩,?_⟩;have e:((Vy c (ps.take i):Nat):Int)*((k.length:Nat):Int)=((Vy c (ps.take<|i+1):Nat):Int):=by rw[take_snoc M,G5,X,kP]
  exact⟨si.trans u,some<|.str p.1,some<|.str p.2,by rw[<-e];rfl⟩
 .rintro U L ⟨si,O,N,rfl⟩
  rw[Zg (by omega)];exact q L si
def Xd(CK:Addr):Sp:=λN H Q _=>∃(M:Addr)(J:xq)(c d:xr)(Z:List (Str×Str))(v:V),N=[.ref M,v]/\KI H CK M J d/\KK 30 c d J/\Has H v (psD Z)/\(∀p∈Z,p.2∈J.map (·.1))/\Z.length<=3/\Vy c Z<=1000/\
 ∀l L G,Same H G->H l=none->G l=some (.lst L)->HasL G L ((Uy J Z).map We)->Q (.ref l) G
def UD:Yh ["kinds","parameters","rows","name","kind"] ["kinds","parameters"] (Yd Wb):=Y2
def Qk:List.Nodup [("row":Str),"worth","kinds","kind"]:=by decide +kernel
def NO(B:Blt mg)(TC:KCl K CK)(F:Fun K "rows_over" "rows_over" Wb f fd)(m2:VM K CK "worths_of" g)(G2:Ye P w K mg base CX0 n g gd ["self","kind"] (UC CK))(b2:Binds K gd ["self","kind"] []):Ye P w K mg base CX0 (n+1) f fd ["kinds","parameters"] (Xd CK):=by
 refine F.oq UD λT0 A R4 s H vs Q E hr h=>?_;obtain⟨so,ks,c,d,ps,v,rfl,ki,kk,hv,pk,l3,top,q⟩:=h;unfold psD at hv;obtain⟨pa,xs,rfl,O1,M2⟩:=Yr hv;have lx:=M2.length;rw[ZA]at lx;refine⟨_,YY (Y0 2 UD.nd<|V4<|pa1<|Yi Vj)
  (YY (JC Zv rfl (UH<|pv 1) (VU (n:=2) rfl (Yk (Yl 3 UD.nd)<|Yk (Yl 4 UD.nd rfl (Or.inr rfl)) VJ))
   (YZ (PK (i0:=2) (wi2:=Qv K<|IN CK "worths_of" (UC CK) [] E (IM 2)<|JX (IM 3) Rp) [0,4] UD.nd rfl (Or.inl rfl) (UQ<|pv 2)
    (λcl C fp s H=>Yl 0 Qk rfl (Or.inl rfl) (Or.inr rfl)) (λcl C fp s H=>UQ<|Y5 (pv 2) TC.cl m2 G2 hr b2 .nil Y3<|pa1<|pv 3) (λcl C fp s H=>Yl 1 Qk rfl (Or.inl rfl) (Or.inr rfl))
    (λcl C fp s H=>Y9 (r:=λx y H Q=>UY K x y H Q\/UX K x y H Q) J6 (pv 0)<|Yi<|pa1<|pv 1))))
  (YZ<|Yj<|pv 2)),?_⟩
 dsimp only[Vb,Cx.nox,Cx.wish];show let a:=_;let b:=_;let c:=Yn (U1 _ _ b) a;Yn _ c _ _ _
 intros
 refine⟨sl 0,λt0 R5=>⟨sl 1,λl0 S=>?_⟩⟩;have s1:=Yv R5<|.tup [];have g1:upd H t0 (.tup []) t0=some (.tup []):=Yf;generalize upd H t0 (.tup [])=H1 at s1 g1 S |-;refine up_in S _ λH2 s2 g2=>?_;have J2:=s1.trans s2;exists ⟨_,Z2<|J2 _ _ O1⟩;refine Tb (xs:=xs) (λi U T=>Same H T/\∃l G z3 k,H l=none/\T l=some (.lst G)/\HasL T G ((Uy ks<|ps.take i).map We)/\U=[some (.ref so),some<|.ref pa,some<|.ref l,z3,k]) ⟨J2,l0,_,_,_,s1.free S,g2,Z5<|Yu (s2 _ _ g1) Z6,rfl⟩ (λi U T _ z=>Z2<|z.1 _ _ O1) ?_ ?_
 .rintro BB RR i x U T hx ⟨si,l,G,z3,k,fl,hl,hy,rfl⟩
  obtain⟨p,t,O,rfl,ht⟩:=Bw M2 hx;have hk:=pk p<|ZJ O;obtain⟨c1,c2⟩:=kk.c0 hk;have i3:=(ZF.mp O).1;have lR:=FF kk (ps.take i) λp O=>pk p<|Zk O;have rl:=Bq (ks:=ks)<|ps.take i;have le:=(G4 (c:=c) (ps:=ps) (λp O=>(kk.c0<|pk p O).2)<|i+1).1;have eR:Uy ks (ps.take<|i+1)=(Uy ks<|ps.take i).flatMap λr=>(VC ks 3 p.2).map λu=>r++[u]:=by rw[take_snoc O,Bp]
  rw[take_snoc O,G5,<-lR,<-c1]at le;rw[eR];have ly:=hy.length;rw[ZA]at ly;rw[ZN]at rl;generalize Uy ks (ps.take i)=R at lR rl le hy ly |-;generalize hus:VC ks 3 p.2=us at le |-;exists _,Z2<|si _ _ ht,rfl;exists ⟨G,Z3 hl⟩;refine Dj G.length (λJ N m=>Same T m/\N.length=J*us.length/\J<=R.length/\HasL m N (((R.take J).flatMap λr=>us.map λu=>r++[u]).map We)) ⟨Z8 _,by simp,Zc _,by rw[pe];exact Z6⟩
   (λJ N m z=>Yx (by rw[z.2.1];have:J*us.length<=R.length*us.length:=qL _ z.2.2.1;omega)) ?_ ?_ ?_ ?_
  .intro J N m hi z
   exact⟨G,G[J],Z3<|z.1 _ _ hl,by simp[hi]⟩
  .intro N m z
   exact⟨G,Z3<|z.1 _ _ hl,ZG _⟩
  .intro J N m x H'' RR' hi z yl hR
   obtain⟨rfl,yy⟩:=yl;obtain⟨dx,M,R7⟩:=hy.get<|yy G<|Z3<|z.1 _ _ hl;rw[ZH]at M
   cases hr1:R[J]? with
   |none=>rw[hr1]at M;cases M
   |some r=>
    rw[hr1]at M;cases M;have ri:=rl r<|ZJ hr1;have G3:=ki.mono<|si.trans z.1;obtain⟨AK,SK,e1,kd,kr⟩:=id G3;refine⟨_,_,by rw[<-e1];exact kd.ins,Y,so,ks,d,p.2,Y,G3,hk,λlw D H3 e R8 gw hw=>⟨⟨D,Z3 gw⟩,?_⟩⟩;rw[hus]at hw;have G1:=hw.length;rw[ZA]at G1;have R1:=(R7.mono z.1).mono e;refine LT D.length (λj I X=>Same H3 X/\I.length=J*us.length+j/\j<=us.length/\HasL X I (((R.take J).flatMap λr=>us.map λu=>r++[u]).map We++ ((us.take j).map λu=>r++[u]).map We)) ⟨Z8 _,by rw[z.2.1];rfl,Zc _,by rw[pe,j9,j9,jL];exact z.2.2.2.mono e⟩
     (λj I X Z=>Yx (by
      rw[Z.2.1];have:(J+1)*us.length<=R.length*us.length:=qL _ (by omega);rw[jN]at this;have:=Z.2.2.1;omega)) ?_ ?_ ?_ ?_
    .intro j I X hj Z
     exact⟨D,D[j],Z3<|Z.1 _ _ gw,by simp[hj]⟩
    .intro I X Z
     exact⟨D,Z3<|Z.1 _ _ gw,ZG _⟩
    .intro j I X x2 H5 T2 hj Z yl2 hT
     obtain⟨rfl,R3⟩:=yl2;obtain⟨dz,L,R6⟩:=hw.get<|R3 D<|Z3<|Z.1 _ _ gw;rw[ZH]at L
     cases hv1:us[j]? with
     |none=>rw[hv1]at L;cases L
     |some v=>
      rw[hv1]at L;cases L;refine⟨sl 1,λb hb=>?_⟩;have sb:=Yv hb<|.tup [x2];have gb:upd H5 b (.tup [x2]) b=some (.tup [x2]):=Yf;refine QN ((R1.mono Z.1).mono sb) gb ((R6.mono Z.1).mono sb) (by omega) λv' H6 s6 h6=>hT _ _ ?_;have o:=sb.trans s6;exists Z.1.trans o,by rw[ZL,Z.2.1];rfl,(ZF.mp hv1).1;rw[take_snoc hv1,ZK,ZK,<-qx];exact Z7 (Z.2.2.2.mono o)<|Z5 h6
    .intro I X Z
     refine hR _ _ ⟨z.1.trans<|e.trans Z.1,by rw[Z.2.1,G1,jN],(ZF.mp hr1).1,?_⟩;have y4:=Z.2.2.2;rw[show us.take D.length=us from Zg (by omega)]at y4;rw[take_snoc hr1,List.flatMap_append,ZK];simp only[jK,kD,jL];exact y4
  .intro N m p3 z hp3
   have e:=Yv hp3<|.lst N;have k:=z.2.2.2;rw[Zg (by omega)]at k;exact⟨si.trans<|z.1.trans e,p3,N,_,_,(si.trans z.1).free hp3,Yf,k.mono e,rfl⟩
 .rintro U T ⟨si,l,G,z3,k,fl,hl,hy,rfl⟩
  rw[Zg (by omega)]at hy;exact q l G T si fl hl hy
end
end K4
namespace L2
open PySem
def X2(H:Hp)(x:Addr):Hp:=λb=>if b=x then none else H b
structure BB(Hm H:Hp)(C CK:Addr)(A:BA)(ks:List (Str×Shp))(d:Str->Nat):Prop where
 ins:H A.t=some (.ins C A.dx (UU A))
 sm:Same Hm H
 so:KI Hm CK A.so ks d
 nd:Hm A.td=none
 nr:Hm A.rd=none
 ne:A.td≠A.rd
 n1:A.t≠A.td
 n2:A.t≠A.rd
def BB.same(b:BB J H C L A Z d)(s:Same H G):BB J G C L A Z d:=⟨s _ _ b.ins,b.sm.trans s,b.so,b.nd,b.nr,b.ne,b.n1,b.n2⟩
def BB.td(b:BB J H C G A Z d)(o:HO):BB J (upd H A.td o) C G A Z d:=⟨by rw[Yg b.n1];exact b.ins,b.sm.putN b.nd,b.so,b.nd,b.nr,b.ne,b.n1,b.n2⟩
def BB.rd(b:BB J H C G A Z d)(o:HO):BB J (upd H A.rd o) C G A Z d:=⟨by rw[Yg b.n2];exact b.ins,b.sm.putN b.nr,b.so,b.nd,b.nr,b.ne,b.n1,b.n2⟩
structure BT(H:Hp)(A:BA)(kv rv:List (Key×V))(ks:List (Str×Shp))(ds:List Dd):Prop where
 td:H A.td=some (.dK kv)
 rd:H A.rd=some (.dK rv)
 ke:kv.map (·.1)=ds.map (λx=>(Sum.inr x.1.1:Key))
 va:HasL H (kv.map (·.2)) (ds.map U3)
 ro:∀x∈ds,∃l xs,VF rv (Sum.inr x.1.1)=some (.ref l)/\H l=some (.lst xs)/\HasL H xs ((Uy ks x.1.2.1).map We)
 ln:rv.length<=ds.length
def BT.same(b:BT H A G J L T)(s:Same H B):BT B A G J L T:=
 ⟨s _ _ b.td,s _ _ b.rd,b.ke,b.va.mono s,λx M=>let⟨l,Z,R,O,N⟩:=b.ro x M;⟨l,Z,R,s _ _ O,N.mono s⟩,b.ln⟩
theorem Mj(e:TK H L):∀(u:W){v:V},Has H v u.dat->Has L v u.dat
 |.non,_,h=>by unfold W.dat Has at h |-;exact h
 |.tag _,_,h=>by unfold W.dat Has at h |-;exact h
 |.pair a b,_,h=>by
  obtain⟨p,N,M,rfl,Z,G,J⟩:=WB h;unfold W.dat Has;exact⟨p,_,Y,e _ _ Z,Z4 (Mj e a G)<|Z5<|Mj e b J⟩
theorem Ml{α:Type}{D:α->Dat}(e:∀u {v:V},Has H v (D u)->Has G v (D u)):∀{J:List α}{Z:xg},HasL H Z (J.map D)->HasL G Z (J.map D)
 |[],[],_=>Z6
 |[],_::_,h=>by rw[j9]at h;unfold HasL at h;exact h.elim
 |_::_,[],h=>by rw[ZV]at h;unfold HasL at h;exact h.elim
 |u::J,x::Z,h=>by
  rw[ZV]at h |-;unfold HasL at h;exact Z4 (e u h.1)<|Ml e h.2
def Eh(e:TK H R){Z:List (List W)}(h:HasL H L (Z.map We)):HasL R L (Z.map We):=Ml (λu v J=>by
 unfold We Has at J |-;obtain⟨a,G,O,N,M⟩:=J;exact⟨a,G,O,e _ _ N,Ml (λu {v}=>Mj e u) M⟩) h
def M7(x:Dd):(U3 x).st=true:=by
 unfold U3 psD;simp[Dat.st,Dat.sts,EN,Bd.st]
theorem M6:∀Z:List Dd,Dat.sts (Z.map U3)=true
 |[]=>by unfold List.map Dat.sts;rfl
 |x::Z=>by rw[ZV];unfold Dat.sts;rw[M6 Z,M7];rfl
def P5(h:Has H v (WH x)):∃a u w,v=.ref a/\H a=some (.tup [.str x.1.1,u,.str x.1.2.2,w])/\Has H u (psD x.1.2.1)/\Has H w x.2.dat:=by
 unfold WH at h;obtain⟨t,F,rfl,O,R⟩:=Yr h;obtain⟨I,X,rfl,E,L⟩:=Yc R;obtain⟨N,C,rfl,D,G⟩:=Yc L;obtain⟨A,U,rfl,B,J⟩:=Yc G;obtain⟨M,S,rfl,T,Z⟩:=Yc J;obtain rfl:=VB Z;obtain rfl:=has_str E;obtain rfl:=has_str B;exact⟨t,N,M,Y,O,D,T⟩
def vY(A:BA):(UU A).lookup ("is_head":Str)=none:=rfl
def vW(A:BA):(UU A).lookup ("rows":Str)=some (V.ref A.rd):=rfl
def PP(Z:X.calm=true)(M:PG X (.Name x1 p1) t1)(L:PG X (.Name x2 p2) t2)(G:PG X (.Name x3 p3) t3)(J:PG X (.Name x4 p4) t4):
  PG X (.Tuple [.Name x1 p1,.Name x2 p2,.Name x3 p3,.Name x4 p4] k pos) (Nf X.K 4<|Jo t1<|Jo t2<|Jo t3<|Jo t4 TY):=
 VU (n:=4) Z (Yk M<|Yk L<|Yk G<|Yk J VJ)
def BT.put(b:BT H0 A N M Q S)(P:A.td≠A.rd)(C:x.1.1∉S.map λy=>y.1.1)(R:U=upd H0 A.td (.dK<|putK N (Sum.inr x.1.1) v))(r:Has H0 v (U3 x))(s:Same U Hb)(j:Hb l=some (.lst B))(w:HasL Hb B ((Uy Q x.1.2.1).map We))(L:H4=upd Hb A.rd (.dK<|putK M (Sum.inr x.1.1)<|.ref l)):
  BT H4 A (putK N (Sum.inr x.1.1) v) (putK M (Sum.inr x.1.1)<|.ref l) Q (S++[x]):=by
 have X:VF N (Sum.inr x.1.1)=none:=Rj (by
  rw[b.ke];intro z;obtain⟨t,I,i⟩:=ZW.mp z;exact C<|ZW.mpr ⟨t,I,Sum.inr.inj i⟩)
 have F:U A.td=some (.dK<|putK N (Sum.inr x.1.1) v):=by rw[R];exact Yf
 have Z:Hb A.rd=some (.dK M):=s _ _ (by rw[R,Yg (Zs P)];exact b.rd);have D:TK H0 U:=by rw[R];exact N6 b.td λq z=>nomatch z
 have G:TK Hb H4:=by rw[L];exact N6 Z λq z=>nomatch z
 have E:TK H0 H4:=λb J h=>G _ _<|s _ _<|D _ _ h
 have p:∀b J,H0 b=some (.lst J)->H4 b=some (.lst J):=λc J h=>by
  have k:c≠A.td:=Jl h b.td (by intro z;cases z);have O:Hb c=some (.lst J):=s _ _ (by rw[R,Yg k];exact h);have g:c≠A.rd:=Jl O Z (by intro z;cases z);rw[L,Yg g];exact O
 have d:H4 l=some (.lst B):=by
  rw[L,Yg (Jl j Z (by intro z;cases z))];exact j
 exists by rw[L,Yg P];exact s _ _ F,by rw[L];exact Yf,by rw[JZ _ X,ZK,b.ke,ZK];rfl,?_,λy u=>?_
 .rw [JZ _ X,ZK,ZK]
  exact Z7 (Ge E _ (M6 S) b.va)<|Z5<|DV E _ (M7 x) r
 .rw [JL]
  rcases ZX.mp u with m|m
  .have ny:¬(Sum.inr y.1.1:Key)=Sum.inr x.1.1:=λz=>C<|ZW.mpr ⟨y,m,Sum.inr.inj z⟩
   rw[Zq ny];obtain⟨f,T,o,O,e⟩:=b.ro y m;exact⟨f,T,o,p _ _ O,Eh E e⟩
  .cases ZQ.mp m
   rw[Zp rfl];exact⟨l,B,Y,d,Eh G w⟩
 .have:=NI M (Sum.inr x.1.1)<|.ref l
  have:=b.ln;rw[ZL,vy];omega
end L2
namespace K4
open PySem L2
section
variable{f g C CK:Addr}
def MC(C CK:Addr):Sp:=λM H Q _=>∃(A:BA)(G:xf)(J:xq)(d:xr)(y k:Str)(Z:List (Str×Str))(v:V),M=[.ref A.t,.str y,v,.str k]/\H A.t=some (.ins C A.dx<|UU A)/\H A.td=some (.dK G)/\KI H CK A.so J d/\J.length<=6/\VF G (Sum.inr y)=none/\WdS y/\
 Has H v (psD Z)/\Z.length<=3/\(∀p∈Z,p.2∈J.map (·.1))/\(Z.map (·.1)).Nodup/\(∀p∈Z,WdS p.1)/\k∈J.map (·.1)/\∀L,Same H L->Q (.bl true) L
def O9:Yh ["self","name","parameters","kind"] ["self","name","parameters","kind"] (Yd Bl):=Y2
def K2(G:BCl K C)(TC:KCl K CK)(F:Fun K "is_head" "Book.is_head" Bl f fd)(DN:Df P w K T base n "is_name" ["text"] (U4 97))(DA:Df P w K T base n "are_parameters" ["kinds","parameters"] (MD CK))(r:VM K CK "names" g)(G2:Ye P w K T base CX0 n g gd ["self"] (XJ CK))(b2:Binds K gd ["self"] []):Ye P w K T base CX0 (n+1) f fd ["self","name","parameters","kind"] (MC C CK):=by
 refine F.oq O9 λJ2 A R s H vs Q E N h=>?_;obtain⟨D,kv,L,d,y,k,m,v,rfl,B,ht,I,i,c,⟨j,X,U⟩,a,b,p,u,O,hk,q⟩:=h;have x:=JI N;refine⟨_,YY (Y4 (PW.pt<|UZ (Jg<|JB<|Vh DN N<|pa1<|pv 1)<|UG<|Uk<|Xk x (pv 1)<|Yt (pv 0) rfl) (YZ JU) Yo)
  (YZ<|Yj<|Wg (Vh DA N<|pa2 (Yt (pv 0) rfl)<|pv 2)<|Xj<|Jj XQ (pv 3) (Vg (Yt (pv 0) rfl) TC.cl r G2 N b2 .nil Y3) rfl),?_⟩
 dsimp only[Vb,Cx.nox,Cx.wish];refine⟨y,Y,j,X,U,λH1 J=>⟨_,Y,Y1 (by simp) ?_⟩⟩;refine⟨C,_,_,_,J _ _ B,G.cl,G.td,FZ _,_,(show V9 H1 D.td (.str y) none by rw[<-c];exact V9.k (k:=Sum.inr y)<|J _ _ ht),_,Y,Y1 (by simp) ?_⟩;refine⟨C,_,_,_,J _ _ B,G.cl,G.so,Lr _,D.so,L,d,m,v,Y,I.mono J,i,a.mono J,b,p,u,O,λH2 t=>⟨true,Y,VI Y ?_⟩⟩;have Z:=J.trans t;have M:=I.mono Z;obtain⟨AK,SK,e1,o,kr⟩:=id M;refine⟨C,_,_,_,Z _ _ B,G.cl,G.so,Lr _,_,_,by rw[<-e1];exact o.ins,Y,D.so,L,d,Y,M,λl H3 z hl S=>?_⟩;have el:(L.map λk=>V.str k.1)=(L.map (·.1)).map V.str:=by rw[jk];rfl
 rw[el]at S;exists l,_,Y,.inl<|Z3 S,rfl,UB _;rw[Ua];have e:decide (k∈L.map (·.1))=true:=decide_eq_true hk;dsimp only[rI0,rI,XB];rw[e];exact q H3<|Z.trans z
end
section
variable{f g C CK:Addr}
def Id(C CK:Addr):Sp:=λO H Q _=>∃(G:Hp)(A:BA)(N:Addr)(M:xg)(Z:xq)(c d:xr)(J:List Dd),O=[.ref A.t,.ref N]/\BB G H C CK A Z d/\BT H A [] [] Z []/\KK 30 c d Z/\Z.length<=6/\G N=some (.lst M)/\HasL G M (J.map WH)/\0<J.length/\J.length<=8/\
 Wds 97 (J.map λx=>x.1.1)/\(∀x∈J,QS (Z.map (·.1)) c 50 x.1)/\∀L T R,BB G L C CK A Z d->BT L A T R Z J->Q .non L
def Xv:Yh ["self","definitions","in_all","number","name","parameters","kind","body","count"] ["self","definitions"] (Yd Bh):=Y2
def Kz(B:Blt T)(me:T "enumerate"=none)(R:BCl K C)(F:Fun K "take_heads" "Book.take_heads" Bh f fd)(h1:T "MOST_DEFINITIONS"=some u1)(r1:RelV (.int 8) u1)(h2:T "MOST_ROWS"=some u2)(r2:RelV (.int 200) u2)(h3:T "MOST_ROWS_IN_ALL"=some u3)(r3:RelV (.int 400) u3)(mH:VM K C "is_head" g)(GH:Ye P w K T base CX0 n g gd ["self","name","parameters","kind"] (MC C CK))(bH:Binds K gd ["self","name","parameters","kind"] [])(DC:Df P w K T base n "row_count" ["kinds","parameters"] (Xe CK))(DO:Df P w K T base n "rows_over" ["kinds","parameters"] (Xd CK)):Ye P w K T base CX0 (n+1) f fd ["self","definitions"] (Id C CK):=by
 refine F.oq Xv λT9 A R6 s H vs Q E hr h=>?_;obtain⟨Hm,D,dl,zs,o,c,d,ds,rfl,bb,bt,kk,k6,X,J2,d0,d8,wd,ho,q⟩:=h;have hu:=JI hr;have lz:=J2.length;rw[ZA]at lz;refine⟨_,YY (Y4 (Ys Vi (VD Y6 Y B.len Zu (pa1<|pv 1)) Ya<|Yz _) (YZ JU) Yo)
  (YY (Y0 2 Xv.nd Ya)
  (YZ (JC Zv rfl (Xz rfl me (pa1<|pv 1)) (VU (n:=2) rfl (Yk (Yl 3 Xv.nd)<|Yk (PP rfl (Yl 4 Xv.nd) (Yl 5 Xv.nd) (Yl 6 Xv.nd) (Yl 7 Xv.nd)) VJ))
   (YY (Y4 (PW.pt<|UZ (Ys Qh (pv 3) (Ji rfl h1 r1)<|Yz _)<|UG<|Jg<|JB<|Y5 (pv 0) R.cl mH GH hr bH .nil Y3<|pa3 (pv 4) (pv 5)<|pv 6) (YZ JU) Yo)
   (YY (Y0 8 Xv.nd<|Vh DC hr<|pa2 (Yt (pv 0) rfl)<|pv 5)
   (YY (KO (i:=2) Xv.nd rfl (Or.inl rfl) (pv 8) P4)
   (YY (Y4 (PW.pt<|UZ (Ys NM (pv 8) (Ji rfl h2 r2)<|Yz _)<|UG<|Ys NM (pv 2) (Ji rfl h3 r3)<|Yz _) (YZ JU) Yo)
   (YY (Vw hu (Yt (pv 0) rfl) (pv 4) (Yi<|pa3 (pv 5) (pv 6)<|pv 7) rfl)
   (YZ<|Vw hu (Yt (pv 0) rfl) (pv 4) (Vh DO hr<|pa2 (Yt (pv 0) rfl)<|pv 5) rfl))))))))),?_⟩
 dsimp only[Vb,Cx.nox,Cx.wish];show let a:=_;let b:=Yn _ a;let c:=_;let d:=Yn (VH _ c _) b;let e:=Yn _ d;let f:=Yn _ e;let g:=_;let h:=Yn (VH _ g _) f;let i:=U1 _ _ h;let j:=Yn _ i;let k:=_;Yn (VH _ k _) j _ _ _
 intros
 refine⟨dl,_,Y,.inl<|Z3<|bb.sm _ _ X,rfl,_,rfl,Y1 (λz=>by have z1:=Zt z;injection z1 with z2;omega) ?_⟩;refine OQ ?_;exists dl,false,zs,Y,Z3<|bb.sm _ _ X
 let I:xi:=λi U t=>BB Hm t C CK D o d/\∃(M v:xf)(n:Nat)(z3 z4 z5 z6 z7 z8:xm),BT t D M v o (ds.take i)/\n<=50*i/\U=[some (.ref D.t),some<|.ref dl,some<|.int (n:Nat),z3,z4,z5,z6,z7,z8]
 refine Mq (tp:=false) (xs:=zs) I
  ⟨bb,[],[],0,_,_,_,_,_,_,bt,ZG _,rfl⟩ (λi U t _ z=>Z3<|z.1.sm _ _ X) ?_ ?_
 .rintro BB' RR i x U t r hx ⟨bbi,M,v,n',z3,z4,z5,z6,z7,z8,bti,n40,rfl⟩ hr'
  obtain⟨dd,G,T4⟩:=J2.get hx;rw[ZH]at G
  cases hc:ds[i]? with
  |none=>rw[hc]at G;cases G
  |some Z=>
   rw[hc]at G;cases G;have i8:=(ZF.mp hc).1;have hm:=ZJ hc;obtain⟨p3,pk,hk,R5,R4,T8⟩:=ho Z hm;refine up_in hr' _ λHR sR gR=>?_;have J:=bbi.same sR;have G3:=bti.same sR;obtain⟨ta,u,wv,rfl,T2,G1,R8⟩:=P5<|T4.mono J.sm
   have nx:Z.1.1∉(ds.take i).map λy=>y.1.1:=by
    rw[qJ];exact RH wd.nd (show(ds.map λy:Dd=>y.1.1)[i]?=some Z.1.1 by rw[ZH,hc];rfl)
   have nk:VF M (Sum.inr Z.1.1)=none:=Rj (by
    rw[bti.ke];intro z;obtain⟨q1,T3,e1⟩:=ZW.mp z;exact nx<|ZW.mpr ⟨q1,T3,Sum.inr.inj e1⟩)
   have lk:M.length<=8:=by
    have:=congrArg List.length bti.ke;rw[ZA,ZA,ZN]at this;omega
   have lr:=bti.ln;rw[ZN]at lr;refine⟨_,Z2 gR,Y,⟨_,Z2 T2,Y,?_⟩⟩;refine⟨_,Y,Y1 (by simp;omega) ?_⟩;refine⟨_,_,J.ins,vY _,D,M,o,d,Z.1.1,Z.1.2.2,Z.1.2.1,u,Y,J.ins,G3.td,J.so.mono J.sm,k6,nk,wd.wdS<|ZW.mpr ⟨Z,hm,rfl⟩,G1,p3,pk,R5,R4,hk,λH1 s1=>⟨_,rfl,Y1 (by simp) ?_⟩⟩;have O:=J.same s1;have T6:=G3.same s1;have S:=G1.mono s1;refine⟨C,_,_,_,O.ins,R.cl,R.so,Lr _,D.so,o,c,d,Z.1.2.1,u,Y,O.so.mono O.sm,kk,S,pk,by omega,λH2 p=>?_⟩;have T7:=O.same p;have T5:=T6.same p;exists _,Y;refine⟨_,Y,Y1 (by simp;omega) ?_⟩;refine⟨_,Y,Y1 (by simp;omega) ?_⟩;refine⟨sl 3,λtt T1=>?_⟩;refine up_in T1 _ λH3 m g3=>?_;have O1:=T7.same m;have N:=T5.same m;have T0:Has H3 (.ref tt) (U3 Z):=Yu g3<|Z4 ((S.mono p).mono m)<|Z4 Yy<|Z5<|((R8.mono s1).mono p).mono m;refine⟨C,_,_,_,O1.ins,R.cl,R.td,FZ _,_,Uw.k (k:=Sum.inr Z.1.1) N.td<|Yx<|by omega,?_⟩;have L:=O1.td<|.dK<|putK M (Sum.inr Z.1.1)<|.ref tt;obtain⟨H4,e4⟩:∃H4,H4=upd H3 D.td (.dK<|putK M (Sum.inr Z.1.1)<|.ref tt):=⟨_,rfl⟩;have R1:TK H3 H4:=by rw[e4];exact N6 N.td λys z=>nomatch z
   have R3:H4 D.rd=some (.dK v):=by rw[e4,Yg (Zs bb.ne)];exact N.rd
   rw[<-e4]at L;dsimp only[rI0,rI,XB];rw[<-e4];refine⟨C,_,_,_,L.ins,R.cl,R.so,Lr _,D.so,o,c,d,Z.1.2.1,u,Y,L.so.mono L.sm,kk,DV R1 _ (by unfold psD;unfold Dat.st;exact EN _)<|(S.mono p).mono m,pk,p3,by omega,λl xs H5 s5 fl hl R7=>?_⟩;have M2:=L.same s5;refine⟨C,_,_,_,M2.ins,R.cl,R.rd,vW _,_,Uw.k (k:=Sum.inr Z.1.1) (s5 _ _ R3)<|Yx<|by omega,?_⟩;have G2:=N.put bb.ne nx e4 T0 s5 hl R7 rfl;rw[<-take_snoc hc]at G2;exact⟨M2.rd _,_,_,n'+Vy c Z.1.2.1,_,_,_,_,_,_,G2,by omega,Y⟩
 .rintro U t ⟨bbi,M,v,n',z3,z4,z5,z6,z7,z8,bti,n40,rfl⟩
  rw[Zg (by omega)]at bti;exact q t M v bbi bti
end
end K4
namespace L2
open PySem
def BD.mono(k:BD H C M A Z J d G)(e:Same H L):BD L C M A Z J d G:=⟨e _ _ k.ins,k.so.mono e,e _ _ k.td,k.ke,k.va.mono e,k.nd⟩
def By(n:b≠x)(h:H b=some o):X2 H x b=some o:=by unfold X2;rw[Zq n];exact h
def KI.out(k:KI H R t L d)(N:H x=some (.ins C O [])):KI (X2 H x) R t L d:=by
 obtain⟨A,S,rfl,Z,M⟩:=k;have go:∀{b:Addr}{o:HO},H b=some o->o≠.ins C O []->X2 H x b=some o:=λ{b o} h n=>By (Jl h N n) h;have G:TL H (X2 H x):=⟨λb J h=>go h (by intro z;cases z),λb J h=>go h (by intro z;cases z)⟩;refine⟨A,S,Y,⟨go Z.ins λz=>?_,go Z.sh (λz=>by cases z),go Z.wo (λz=>by cases z),go Z.he (λz=>by cases z),go Z.pd (λz=>by cases z),go Z.tk (λz=>by cases z),go Z.pk (λz=>by cases z),Z.nd⟩,M.tl G⟩;injection z with _ _ z;unfold Ta at z;cases z
end L2
namespace K4
open PySem L2
section
variable{f g C CK N fI:Addr}
structure vv(x:Dd):Prop where
 ok:x.2.ok
 dep:x.2.dep<=12
 size:x.2.size<=100
def Jz:Yh ["self","number","name","parameters","kind","body","found","place"] ["self"] (Yd MR):=Y2
def zt(A:BA):(UU A).lookup ("names":Str)=none:=rfl
def O8:Yh ["self","kinds","definitions"] ["self","kinds","definitions"] (Yd Bk):=Y2
def vV(A:BA):(UU A).lookup ("take_heads":Str)=none:=rfl
def vZ(A:BA):(UU A).lookup ("check_bodies":Str)=none:=rfl
end
end K4
namespace L2
open PySem
def P0{K:W.Frag}(X:K.In h)(L:K.lookup a=some ⟨.type "dict",none,.dict Z n,#[]⟩)(M:W.KeysLit w.params Z.toList):h.MapOf (VA P w) a λk=>findBy V1 Z k:=by
 have keys:KeysOf (VA P w) Z:=λd hd=>by
  have⟨x,t,J,G⟩:=W.KeysLit.all M d (by simpa using hd);refine⟨Sum.inr x,?_,G⟩;show V1 (Sum.inr x) d.key=true;rw[J,Wu]
 exact⟨_,Z,n,X a _ L,⟨Y,Y,Y⟩,Y,keys,λk=>Y⟩
def U7(Z:K.lookup a=some ⟨.type "dict",none,.dict J n,#[]⟩)(e:W.nsIn K a x=some (some v)):findBy V1 J (Sum.inr x)=some v:=by
 have q:=W.find_K Z e;exact q
end L2
namespace K4
open PySem L2
section
variable{f g C CK:Addr}
abbrev wps:pX:=["book","around","body"]
def RA(P:Program)(w:World)(K:W.Frag)(mg:Str->Option Value)(base:Heap)(C CK:Addr)(mR:Key->Option Value)(x:Str)(p:Bd->Prop):Prop:=∃g Z,mR (Sum.inr x)=some (.ref g)/\Ye P w K mg base CX0 3 g Z rps (Xs C CK p)/\W.keepIn K (.ref g)=true/\Binds K Z rps []
def RA.at(r:RA P w K J base C CK G x p)(L:Nat)(e:b.word=x)(h:p b):∃(g:Addr)(Z:FuncData)(p:Bd->Prop),G (Sum.inr b.word)=some (.ref g)/\Ye P w K J base CX0 (L+3) g Z rps (Xs C CK p)/\p b/\W.keepIn K (.ref g)=true/\Binds K Z rps []:=by
 obtain⟨g,Z,R,O,N,M⟩:=r;exact⟨g,Z,p,by rw[e];exact R,O.mono<|by omega,h,N,M⟩
theorem KE(L:Nat)(S:RA P w K Z base C CK J "tag" λb=>∃t,b=.tag t)(I:RA P w K Z base C CK J "name" λb=>∃x,b=.name x)(A:RA P w K Z base C CK J "pair" λb=>∃e g,b=.pair e g)(F:RA P w K Z base C CK J "one" λb=>∃e,b=.one e)(E:RA P w K Z base C CK J "other" λb=>∃e,b=.other e)(D:RA P w K Z base C CK J "choose" λb=>∃e M G,b=.choose e M G/\1<=G.length)(B:RA P w K Z base C CK J "ask" λb=>∃N O,b=.ask N O)(T:RA P w K Z base C CK J "let" λb=>∃x k e g,b=.letb x k e g):
  ∀b:Bd,(∀e M G,b=.choose e M G->1<=G.length)->∃(g:Addr)(R:FuncData)(p:Bd->Prop),J (Sum.inr b.word)=some (.ref g)/\Ye P w K Z base CX0 (L+3) g R rps (Xs C CK p)/\p b/\W.keepIn K (.ref g)=true/\Binds K R rps []
 |.tag t,_=>S.at L rfl ⟨t,rfl⟩
 |.name x,_=>I.at L rfl ⟨x,rfl⟩
 |.pair e g,_=>A.at L rfl ⟨e,g,rfl⟩
 |.one e,_=>F.at L rfl ⟨e,rfl⟩
 |.other e,_=>E.at L rfl ⟨e,rfl⟩
 |.choose e M G,h=>D.at L rfl ⟨e,M,G,rfl,h e M G rfl⟩
 |.ask N O,_=>B.at L rfl ⟨N,O,rfl⟩
 |.letb x k e g,_=>T.at L rfl ⟨x,k,e,g,rfl⟩
theorem Qt(B:Blt Z)(J:Z "enumerate"=none)(y:BCl K C)(j:KCl K CK)(F:Fun K "kind_or_place" "kind_or_place" sKP f A)(S:Binds K A wps [])(M:Z "kind_or_place"=some (.ref f))(O:VM K C "kinds" c)(q:Ye P w K Z base CX0 3 c u ["self"] (JY C CK))(X:Binds K u ["self"] [])(N:VM K CK "names" g2)(z:Ye P w K Z base CX0 3 g2 d ["self"] (XJ CK))(U:Binds K d ["self"] [])(t:Df P w K Z base 3 "parts" ["body"] Xt)(G:Z "RULES"=some (.ref v))(T:base.MapOf (VA P w) v k)(R:∀(L:Nat)(b:Bd),(∀e m I,b=.choose e m I->1<=I.length)->∃(g:Addr)(D:FuncData)(p:Bd->Prop),k (Sum.inr b.word)=some (.ref g)/\Ye P w K Z base CX0 (L+3) g D rps (Xs C CK p)/\p b/\W.keepIn K (.ref g)=true/\Binds K D rps []):
  ∀n,Ye P w K Z base CX0 (n+3) f A wps<|RC C CK n
 |0=>.none λr H Q E h=>by
  obtain⟨_,_,_,_,_,_,_,_,_,_,_,_,_,_,_,_,_,_,_,hd,_⟩:=h;exact Zw _ hd
 |n+1=>(zA (L:=n) B J y j F (Qt B J y j F S M O q X N z U t G T R n) S M O (q.mono<|by omega) X N (z.mono<|by omega) U (t.up<|by omega) G T<|R n).mono<|by omega
end
end K4
namespace L2
open PySem PySem.Spec PyProof.Rows
end L2
namespace L2
open PySem
def Fun.oi{K:W.Frag}{st:Stmt}(F:Fun K x qual st f T)(S:Yh N O (Yd st))(J:∀(L:Value)(A:Around)(Z:List Env)(s:Shared)(H:Hp)(G:xg)(Q:VK)(E:XK),Vn k (A.deeper<|PyProof.Rows.envOfC qual (Yd st) s.heap.objs.size f L)->M G H Q E->
   ∃t,PSs (Vb CX0 P w K R base N qual (Yd st) f L A Z s H E).nox (Vl st) t/\t {nx:=λ_ B=>Q .non B,rt:=Q} (start N G) H)(len:∀G H Q E,M G H Q E->G.length=O.length:=by intro G H Q E h;cases h;rfl):Ye P w K R base CX0 (k+1) f T O M:=F.ok S len J
def Js(h:n<=10000):n<sizeLine:=qi h<|by decide
structure Itx(J:It)(H:Hp)(xs:List V):Prop where
 go:∀i,i<xs.length->J.go i H
 stop:J.stop xs.length H
 yld:∀i x H',J.yld i H x H'->H'=H/\xs[i]?=some x
def itl(h:SqL K H a Z):Itx (Itl K a) H Z:=⟨λi J=>⟨Z,Z[i],h,ZD J⟩,⟨Z,h,ZG _⟩,λi x G y=>⟨y.1,y.2 Z h⟩⟩
def itt(h:SqT K H a Z):Itx (Itt K a) H Z:=⟨λi J=>⟨Z,Z[i],h,ZD J⟩,⟨Z,h,ZG _⟩,λi x G y=>⟨y.1,y.2 Z h⟩⟩
def getD{α:Type}{J:List α}{D:α->Dat}{H:Hp}{Z:xg}{i:Nat}{x:V}(h:HasL H Z (J.map D))(e:Z[i]?=some x):∃u,J[i]?=some u/\Has H x (D u):=by
 obtain⟨d,G,M⟩:=h.get e;rw[ZH]at G;obtain⟨u,L,rfl⟩:=Zj.mp G;exact⟨u,L,M⟩
def OE{α:Type}{us:List α}{D E:α->Dat}(L:Itx J H M)(O:HasL H M (us.map D))(U:us.length<=10000)(I:∀u x (R:V->Hp->Prop),u∈us->Has H x (D u)->(∀v,Has H v (E u)->R v H)->g x s0 H λB S=>te B S R)(hd:∀Z p G,H p=none->Same H G->G p=some (.lst Z)->HasL G Z (us.map E)->Q (.ref p) G):Re J g te s0 Q H:=by
 have N:=O.length;rw[ZA]at N;refine Vu M.length (Js<|by omega) (λi Z G=>G=H/\Z.length=i/\HasL H Z ((us.take i).map E)) ⟨rfl,rfl,Z6⟩ (λi Z G z=>z.2.1) ?_ ?_ ?_ ?_
 .rintro i Z G hi ⟨rfl,_⟩
  exact L.go i hi
 .rintro Z G ⟨rfl,_⟩
  exact L.stop
 .rintro i Z G x H'' R hi ⟨rfl,z2,z3⟩ yl rT
  obtain⟨rfl,y⟩:=L.yld i x H'' yl;obtain⟨u,T,A⟩:=getD O y;refine I u x R (ZJ T) A λv F=>rT _ _ ⟨Y,by rw[ZL,z2];rfl,?_⟩;rw[take_snoc T,ZK];exact Z7 z3<|Z5 F
 .rintro Z G p ⟨rfl,z2,z3⟩ hp
  rw[Zg (kF N.symm)]at z3;exact hd Z p _ hp (Yv hp _) Yf<|z3.mono<|Yv hp _
def WL{α:Type}{us:List α}{D F:α->Dat}(O:∀Z,Same H Z->Itx J Z T)(A:HasL H T (us.map D))(P:us.length<=10000)(U:∀u x N (R:V->Hp->Prop),u∈us->Same H N->Has N x (D u)->(∀v M,Same N M->Has M v (F u)->R v M)->g x s0 N λL X=>te L X R)(hd:∀G q Z,H q=none->Same H Z->Z q=some (.lst G)->HasL Z G (us.map F)->Q (.ref q) Z):Re J g te s0 Q H:=by
 have E:=A.length;rw[ZA]at E;refine Vu T.length (Js<|by omega) (λi G Z=>Same H Z/\G.length=i/\HasL Z G ((us.take i).map F)) ⟨Z8 _,rfl,Z6⟩ (λi G Z z=>z.2.1) ?_ ?_ ?_ ?_
 .rintro i G Z hi ⟨s,_⟩
  exact(O Z s).go i hi
 .rintro G Z ⟨s,_⟩
  exact(O Z s).stop
 .rintro i G Z x H'' R hi ⟨s,z2,z3⟩ yl rT
  obtain⟨rfl,y⟩:=(O Z s).yld i x H'' yl;obtain⟨u,I,S⟩:=getD A y;refine U u x _ R (ZJ I) s (S.mono s) λv M B C=>rT _ _ ⟨s.trans B,by rw[ZL,z2];rfl,?_⟩;rw[take_snoc I,ZK];exact Z7 (z3.mono B)<|Z5 C
 .rintro G Z q ⟨s,z2,z3⟩ hq
  rw[Zg (kF E.symm)]at z3;have L:=Yv hq<|.lst G;exact hd G q _ (s.free hq) (s.trans L) Yf<|z3.mono L
def UT{K:W.Frag}{Q:VK}(O:Has H x (Jr Z))(L:Has H y (Jr J))(n:J≠[])(l:Z.length+J.length<=1000)(q:∀u G,Same H G->Has G u (Jr<|Z++ J)->Q u G):UY K x y H Q\/UX K x y H Q:=by
 obtain⟨a,rfl,N⟩:=Jw O;obtain⟨b,rfl,M⟩:=Jw L
 cases Z with
 |nil=>exact .inl ⟨a,b,_,Y,Y,Z2 N,Z2 M,q _ H (Z8 _) L⟩
 |cons w Z=>
  refine .inr ⟨a,b,_,_,Y,Y,Z2 N,Z2 M,(by simp),?_,(λz=>Zr (List.map_eq_nil_iff.mp z) n),λ_ p R=>?_⟩
  .rw [ZA,ZA];exact Zh<|Yx l
  .exact q _ _ (Yv R _) (JW<|by rw[Yf,ZK])
def UR(h:H a=some (.tup [.int k])):Has H (.ref a) (Jr [k]):=JW h
end L2
namespace K4
open PySem L2
section
def Ow:Yh ["worth","way","part","number"] ["worth","way"] (Yd MK):=Y2
inductive SPO(H:Hp)(Q:VK):List V->Prop
 |mk (v y:V) (wo:W) (ws:List Int) (hv:Has H v wo.dat) (hy:Has H y (Jr ws)) (hw:Way ws) (q:∀u,Has H u (wo.part ws).dat->Q u H):SPO H Q [v,y]
def SX:Sp:=λZ H Q _=>SPO H Q Z
def C6(B:Blt R)(F:Fun K "part_of" "part_of" MK f X):Ye P w K R base CX0 (n+1) f X ["worth","way"] SX:=by
 refine F.oi Ow λm A L s H d Q E l h=>?_;obtain⟨v,y,N,G,I,T,D,q⟩:=h;obtain⟨a,rfl,O⟩:=Jw T;refine⟨_,YY (Y0 2 Ow.nd<|pv 0) (YY (JC Zv rfl (UH<|pv 1) (Yl 3 Ow.nd)
  (YY (Y4 (Jg<|JB<|Wf rfl B.isi rfl B.tuple Vm (pv 2)) (YZ<|Yj Vo) Yo)<|YZ<|Y0 2 Ow.nd<|Ym Yq (pv 2) (pv 3) λ_ _=>rfl))
  (YZ<|Yj<|pv 2)),?_⟩
 dsimp only[Vb,Cx.nox,Cx.wish];exists ⟨_,Z2 O⟩;refine Ei (xs:=G.map V.int) (λi U J=>J=H/\∃u z Z,U=[some v,some<|.ref a,some u,z]/\Has H u Z.dat/\Z.part (G.drop i)=N.part G) ⟨rfl,v,none,N,rfl,I,rfl⟩ ?_ ?_ ?_
 .rintro i U J _ ⟨rfl,_⟩
  exact Z2 O
 .rintro i x U J hx ⟨rfl,u,z,Z,rfl,hu,e⟩
  obtain⟨n,r,rfl,M,j,C⟩:=RP hx;have t:=Mh (K:=K) hu;exists _,_,_,_,Y,t,Mb K _ (by simp),_,Y
  cases Z with
  |non=>
   refine VI (by simp[isD,tyD,W.dat])<|q _ ?_;rw[<-e,M];unfold W.part;exact Mi
  |tag y=>
   refine VI (by simp[isD,tyD,W.dat])<|q _ ?_;rw[<-e,M];unfold W.part;exact Mi
  |pair b c=>
   refine Y1 (by simp[isD,tyD,W.dat]) ?_;obtain⟨p,k,g,rfl,S,h1,o⟩:=WB hu;exists _,_,Z2 S,PY<|D n C,rfl,_,_,(if n=0 then b else c),rfl,?_
   .split <;> assumption
   .rw [<-e,M,j]
    conv=>rhs;unfold W.part
    split <;> rfl
 .rintro U J ⟨rfl,u,z,Z,rfl,hu,e⟩
  refine q _ ?_;rw[ZA,List.drop_length]at e;rw[<-e];cases Z <;> (unfold W.part;exact hu)
end
end K4
namespace L2
open PySem
end L2
namespace K4
open PySem L2
end K4
namespace L2
open PySem
theorem OK:∀{bs:List Bool}{Z:xg},HasL H Z (bs.map Dat.bl)->Z=bs.map V.bl
 |[],[],_=>rfl
 |[],_::_,h=>by unfold HasL at h;exact h.elim
 |_::_,[],h=>by rw[ZV]at h;unfold HasL at h;exact h.elim
 |b::bs,x::xs,h=>by
  rw[ZV]at h;unfold HasL at h;obtain⟨J,G⟩:=h;unfold Has at J;rw[J,OK G];rfl
end L2
namespace K4
open PySem L2
section
def Jt:bootBuiltins "list"=some (.type "list"):=by decide +kernel
end
end K4
namespace L2
open PySem
end L2
namespace K4
open PySem L2
end K4
namespace L2
open PySem
end L2
namespace K4
open PySem L2
end K4
namespace L2
open PySem
end L2
namespace K4
open PySem L2
end K4
namespace L2
open PySem
def okW(ks:xq):W->Str->Prop
 |.non,_=>True
 |.tag x,y=>∃ts,Vc ks y=some (.tags ts)/\x∈ts
 |.pair u v,y=>∃a b,Vc ks y=some (.pair a b)/\okW ks u a/\okW ks v b
end L2
namespace K4
open PySem L2
section
variable{CK:Addr}
def Aw(A:KA6):(Ta A).lookup ("is_worth":Str)=none:=rfl
abbrev iwp:pX:=["self","kind","thing"]
def Qe:Yh ["self","kind","thing","shape"] iwp (Yd Xw):=Y2
inductive yS(CK:Addr)(n:Nat)(H:Hp)(Q:VK):List V->Prop
 |mk (t:Addr) (y:Str) (v:V) (ks:List (Str×Shp)) (d:Str->Nat) (wo:W) (ki:KI H CK t ks d) (hv:Has H v wo.dat) (ok:okW ks wo y) (dn:wo.dep<n) (q:Q (.bl true) H):yS CK n H Q [.ref t,.str y,v]
def ND(CK:Addr)(n:Nat):Sp:=λZ H Q _=>yS CK n H Q Z
def AN(B:Blt c)(T:KCl K CK)(F:Fun K "is_worth" "Kinds.is_worth" Xw f m)(G:Ye P w K c base CX0 L f m iwp (ND CK n))(bG:Binds K m iwp [])(r:VM K CK "is_worth" f):Ye P w K c base CX0 (L+1) f m iwp (ND CK<|n+1):=by
 refine F.oi Qe λJ2 A R s H vs Q E C h=>?_;obtain⟨t,y,v,l,d,wo,i,N,O,dn,q⟩:=h;have hu:=JI C;refine⟨_,YY (Y4 (Ys Wj (pv 2) Vo<|Yz _) (YZ<|Yj<|XX) Yo)
  (YY (Y0 3 Qe.nd<|JN hu (Yt (pv 0) rfl) (pv 1) λ_ _=>rfl)
  (YY (Y4 (Ys Vi (Ym Yq (pv 3)<|Ya) Yp<|Yz _) (YZ<|Yj<|Wg (Wf rfl B.isi rfl B.str W0 (pv 2))<|Xj<|Jj XQ (pv 2) (Ym Yq (pv 3)<|Ya) rfl) Yo)
  (YY (Y4 (PW.pt<|UZ (Jg<|JB<|Wf rfl B.isi rfl B.tuple Vm (pv 2))<|UG<|Ys UJ (VD Y6 rfl B.len Zu (pa1<|pv 2)) Ya<|Yz _) (YZ<|Yj<|XX) Yo)
  (YZ<|Yj<|Wg (Y5 (pv 0) T.cl r G C bG .nil Y3<|pa2 (Ym Yq (pv 3)<|Ya)<|Ym Yq (pv 2)<|Ya)<|Xj<|Y5 (pv 0) T.cl r G C bG .nil Y3<|pa2 (Ym Yq (pv 3)<|Ya)<|Ym Yq (pv 2)<|Ya)))),?_⟩
 dsimp only[Vb,Cx.nox,Cx.wish];show let T0:=_;let T1:=_;let T2:=Yn (VH _ T1 _) T0;let T3:=_;let T4:=Yn (VH _ T3 _) T2;let T5:=Yn _ T4;let T6:=_;Yn (VH _ T6 _) T5 _ _ _
 intros
 have M:=i;obtain⟨A',S,rfl,Z,o⟩:=i
 cases wo with
 |non=>
  have e:v=.non:=by unfold W.dat Has at N;exact N
  subst e;exact⟨Y,_,Y,VI Y q⟩
 |tag x=>
  have e:v=.str x:=has_str N;subst e;unfold okW at O;obtain⟨ts,U,hm⟩:=O;refine⟨Y,_,Y,Y1 (by simp) ?_⟩;obtain⟨v0,z,g2⟩:=WW Z o U;obtain⟨b,k,rfl,J,I⟩:=X9 g2;exists CK,_,_,_,Z.ins,T.cl,T.sh,Fb _,_,z;refine⟨_,.str "tags",Z2 J,VE (j:=0) Y,Y,_,Y,VI (by decide +kernel) ?_⟩;refine⟨_,_,_,_,Y,.str x,TH K "str",_,Y,VI Y ?_⟩;exists _,.ref k,Z2 J,VE (j:=1) Y,k,_,Y,.inr<|Z2 I,rfl,UB _;rw[Ua x ts,decide_eq_true hm];exact q
 |pair u g=>
  have D:=N;obtain⟨p,x1,x2,rfl,X,h1,h2⟩:=WB N;unfold okW at O;obtain⟨a,b,U,o1,o2⟩:=O;have da:u.dep<n:=by unfold W.dep at dn;omega
  have db:g.dep<n:=by unfold W.dep at dn;omega
  refine⟨Y,_,Y,Y1 (by simp) ?_⟩;obtain⟨v0,z,g2⟩:=WW Z o U;obtain⟨b',rfl,J⟩:=Xn g2;exists CK,_,_,_,Z.ins,T.cl,T.sh,Fb _,_,z;refine⟨_,.str "pair",Z2 J,VE (j:=0) Y,Y,_,Y,Y1 (by decide +kernel) ?_⟩;refine⟨_,_,_,_,Y,Mh (K:=K) D,Mb K _ (by simp),_,Y,Y1 (by simp[isD,tyD,W.dat]) ?_⟩;refine⟨p,_,Y,.inr<|Z2 X,rfl,_,rfl,Y1 (by simp) ?_⟩;exists _,_,Z.ins,Aw _,_,_,Z2 J,VE (j:=1) Y,_,_,Z2 X,VE (j:=0) Y;refine⟨_,a,x1,l,d,u,M,h1,o1,da,_,Y,VI Y ?_⟩;exists _,_,Z.ins,Aw _,_,_,Z2 J,VE (j:=2) Y,_,_,Z2 X,VE (j:=1) Y;exact⟨_,b,x2,l,d,g,M,h2,o2,db,q⟩
theorem LR(B:Blt L)(T:KCl K CK)(F:Fun K "is_worth" "Kinds.is_worth" Xw f J)(G:Binds K J iwp [])(Z:VM K CK "is_worth" f):∀n:Nat,Ye P w K L base CX0 (n+1) f J iwp<|ND CK n
 |0=>.none λO H Q E h=>by
  obtain⟨t,y,v,D,d,N,A,I,R,M,q⟩:=h;exact Zr M<|by omega
 |n+1=>AN B T F (LR B T F G Z n) G Z
end
end K4
namespace L2
open PySem
def Ff{K:W.Frag}(T:∀Z,Same H Z->Sq K t1 Z a L)(O:∀Z,Same H Z->Sq K t2 Z b G)(C:L.length=n)(U:G.length=n)(X:n<=100)(A:∀(i:Nat) x y r N (R:V->Hp->Prop),L[i]?=some x->G[i]?=some y->Same H N->N r=some (.tup [x,y])->R (.bl true) N->g (.ref r) s0 N λM S=>te M S R)(hd:∀p Z,H p=none->Same H Z->Z p=some (.lst<|(List.replicate n true).map V.bl)->Q (.ref p) Z):Re (Itz K t1 a t2 b) g te s0 Q H:=by
 refine Vu n (Js<|by omega) (λi J Z=>Same H Z/\J.length=i/\J=(List.replicate i true).map V.bl) ⟨Z8 _,rfl,rfl⟩ (λi J Z z=>z.2.1) ?_ ?_ ?_ ?_
 .rintro i J Z hi ⟨s,_⟩
  exact⟨L,G,L[i]'(by omega),G[i]'(by omega),T Z s,O Z s,ZD _,ZD _⟩
 .rintro J Z ⟨s,_⟩
  exact⟨L,G,T Z s,O Z s,.inr<|by omega⟩
 .rintro i J Z x H'' R hi ⟨s,z2,z3⟩ yl rT
  obtain⟨r,D,B,rfl,I,rfl,F,E⟩:=yl;have M:=Yv I<|.tup [D,B];refine A i D B r _ R (F L<|T Z s) (E G<|O Z s) (s.trans M) Yf<|rT _ _ ⟨s.trans M,by rw[ZL,z2];rfl,?_⟩;rw[z3,kZ,ZK];rfl
 .rintro J Z p ⟨s,z2,z3⟩ hp
  have M:=Yv hp<|.lst J;exact hd p _ (s.free hp) (s.trans M)<|by rw[Yf,z3]
def P7{K:W.Frag}:∀x U H (Q Z:xj),(∀a b,Q a b->Z a b)->Nf K 2 (Jo (V2 i)<|Jo (V2 j) TY) x U H Q->Nf K 2 (Jo (V2 i)<|Jo (V2 j) TY) x U H Z:=λx U H Q Z h q=>by
 match x,q with
 |.ref a,q=>
  obtain⟨J,L,G,q⟩:=q;exists J,L,G
  match J,G,q with
  |[u,v],_,q=>exact h _ _ q
def zo{K:W.Frag}:GK 3 (Nf K 2<|Jo (Nf K 2<|Jo (V2 0)<|Jo (V2 1) TY)<|Jo (V2 2) TY):=
 DY (XT (DY (XT (V7 (i:=0)<|by decide) (XT (V7 (i:=1)<|by decide) DZ (λ_ _ _ _ _ h z=>h _ _ z) (λx _ _ _ _ h z=>by
  match x,z with
  |[],z=>exact h _ _ z)) (λ_ _ _ _ _ h z=>h _ _ z) (λx _ _ _ _ h z=>by
  match x,z with
  |[v],z=>exact h _ _ z))) (XT (V7 (i:=2)<|by decide) DZ (λ_ _ _ _ _ h z=>h _ _ z) (λx _ _ _ _ h z=>by
  match x,z with
  |[],z=>exact h _ _ z)) P7 (λx _ _ _ _ h z=>by
  match x,z with
  |[v],z=>exact h _ _ z))
end L2
namespace K4
open PySem L2
section
variable{C CK:Addr}
def O6:Yh ["self","F"] ["self","F"] (Yd Bm):=Y2
inductive OX(C CK:Addr)(H:Hp)(Q:VK):List V->Prop
 |mk (t:Addr) (ks:List (Str×Shp)) (d:Str->Nat) (ds:List Dd) (x:Dd) (b:BI H C CK t ks d ds) (hx:x∈ds) (q:∀v,Has H v x.2.dat->Q v H):OX C CK H Q [.ref t,.str x.1.1]
def MA(C CK:Addr):Sp:=λZ H Q _=>OX C CK H Q Z
def K1(T:BCl K C)(F:Fun K "body_of" "Book.body_of" Bm f S)(m:VM K C "told_of" g)(G:Ye P w K L base CX0 n g I ["self","F"] (Gm C CK))(j:Binds K I ["self","F"] []):Ye P w K L base CX0 (n+1) f S ["self","F"] (MA C CK):=by
 refine F.oi O6 λX A Z s H k Q E B h=>?_;obtain⟨t,M,d,U,x,b,N,q⟩:=h;obtain⟨z,p,rfl,y⟩:=id b;exists _,YZ<|Yj<|Ym Yq (Y5 (pv 0) T.cl m G B j .nil Y3<|pa1<|pv 1) Ya;refine⟨_,_,y.ins,Aq _,z.t,M,d,U,x,Y,b,N,λv R=>?_⟩;obtain⟨a,u,J,rfl,D,_,O⟩:=X8 R;exact⟨_,_,Z2 D,Y,q J O⟩
def yr:Yh ["kinds","parameters","worths"] ["kinds","parameters","worths"] (Yd Xg):=Y2
def B8:List.Nodup [("name":Str),"kind","worth","kinds"]:=by decide +kernel
inductive SRO(CK:Addr)(H:Hp)(Q:VK):List V->Prop
 |mk (so a b:Addr) (us xs:List V) (ks:List (Str×Shp)) (d:Str->Nat) (ps:List (Str×Str)) (wos:List W) (ki:KI H CK so ks d) (ha:H a=some (.tup us)) (hu:HasL H us (ps.map λp=>.tup [.str p.1,.str p.2])) (hb:H b=some (.tup xs)) (hx:HasL H xs (wos.map W.dat))
  (ln:wos.length=ps.length) (l3:ps.length<=3) (ok:∀(i:Nat)(p:Str×Str)(u:W),ps[i]?=some p->wos[i]?=some u->okW ks u p.2/\u.dep<3) (q:∀H',Same H H'->Q (.bl true) H'):SRO CK H Q [.ref so,.ref a,.ref b]
def SW(CK:Addr):Sp:=λZ H Q _=>SRO CK H Q Z
def C5(B:Blt k)(T:KCl K CK)(F:Fun K "is_row_over" "is_row_over" Xg f fd)(m:VM K CK "is_worth" g)(G:Ye P w K k base CX0 n g gd iwp (ND CK 3))(bG:Binds K gd iwp []):Ye P w K k base CX0 (n+1) f fd ["kinds","parameters","worths"] (SW CK):=by
 refine F.oi yr λG1 A J s H vs Q E hr h=>?_;obtain⟨so,a,b,us,xs,ks,d,z,J2,u,X,l,U,v,ln,l3,ok,q⟩:=h;refine⟨_,YY (Y4 (Ys UJ (VD Y6 Y B.len Zu (pa1<|pv 2)) (VD Y6 rfl B.len Zu (pa1<|pv 1))<|Yz _) (YZ<|Yj<|XX) Yo)
  (YZ<|Yj<|VD (Nr rfl) rfl B.all RV (pa1<|JO ["name","kind","worth"] [0] (S9 rfl B.zip (pa2 (pv 1)<|pv 2)) zo (λcl C o s H=>VU (n:=2) rfl (Yk (VU (n:=2) rfl (Yk (Yl 0 B8 rfl (Or.inl rfl) (Or.inr rfl))<|Yk (Yl 1 B8 rfl (Or.inl rfl) (Or.inr rfl)) VJ))<|Yk (Yl 2 B8 rfl (Or.inl rfl) (Or.inr rfl)) VJ)) λcl C o s H=>Y5 (pv 3) T.cl m G hr bG .nil Y3<|pa2 (pv 1)<|pv 2)),?_⟩
 dsimp only[Vb,Cx.nox,Cx.wish];show let T0:=_;let T1:=_;Yn (VH _ T1 _) T0 _ _ _
 intros
 have L:=l.length;have c:=v.length;rw[ZA]at L c;refine⟨b,_,Y,.inr<|Z2 U,a,_,rfl,.inr<|Z2 X,rfl,_,rfl,Y1 (by simp[L,c,ln]) ?_⟩;exists a,b,true,true,us,xs,Y,Z2 X,Z2 U;refine Ff (n:=z.length) (λH' s=>Z2<|s _ _ X) (λH' s=>Z2<|s _ _ U) L (by omega) (by omega) (λi x y r H1 R hi hj Z N hR=>?_) λp H' o Z hp=>?_
 .obtain ⟨pr,hpr,hd1⟩:=getD l hi
  obtain⟨j,M,I⟩:=getD v hj;obtain⟨t,ys,rfl,ht,hl⟩:=Yr hd1;obtain⟨x1,r1,rfl,e1,D⟩:=Yc hl;obtain⟨x2,r2,rfl,e2,O⟩:=Yc D;obtain rfl:=VB O;obtain rfl:=has_str e1;obtain rfl:=has_str e2;obtain⟨o1,o2⟩:=ok i pr j hpr M;obtain⟨A',S,eA,kd,kr⟩:=id<|u.mono Z;subst eA;exists _,Z2 N,Y,_,Z2<|Z _ _ ht,rfl;exact⟨_,_,kd.ins,Aw _,_,pr.2,y,ks,d,j,u.mono Z,I.mono Z,o1,o2,hR⟩
 .refine ⟨p,_,rfl,Z3 hp,?_⟩
  have e:(List.replicate z.length true).all id=true:=by simp
  rw[e];exact q _ Z
end
section
variable{C CK:Addr}
abbrev bfw:pX:=["book","F","worths"]
def vX(A:BA):(UU A).lookup ("kinds":Str)=none:=rfl
def zq(A:BA):(UU A).lookup ("parameters":Str)=none:=rfl
def yz:Yh bfw bfw (Yd Wd):=Y2
def vC:Yh bfw bfw (Yd Uh):=Y2
def vA:Yh ["most","highest"] ["most","highest"] (Yd Xh):=Y2
inductive SIA(C CK:Addr)(r:V)(H:Hp)(Q:VK):List V->Prop
 |mk (t b:Addr) (xs:List V) (ks:List (Str×Shp)) (d:Str->Nat) (ds:List Dd) (x:Dd) (wos:List W) (bi:BI H C CK t ks d ds) (hx:x∈ds) (hb:H b=some (.tup xs)) (hw:HasL H xs (wos.map W.dat))
  (ln:wos.length=x.1.2.1.length) (l3:x.1.2.1.length<=3) (ok:∀(i:Nat)(p:Str×Str)(u:W),x.1.2.1[i]?=some p->wos[i]?=some u->okW ks u p.2/\u.dep<3) (q:∀H',Same H H'->Q r H'):SIA C CK r H Q [.ref t,.str x.1.1,.ref b]
def E7(C CK:Addr)(r:V):Sp:=λZ H Q _=>SIA C CK r H Q Z
def zB(D:BCl K C)(F:Fun K "is_asking" "is_asking" Wd f fd)(c:VM K C "names" g1)(G1:Ye P w K L base CX0 n g1 d1 ["self"] (U5 C CK))(b1:Binds K d1 ["self"] [])(p:VM K C "kinds" g2)(G2:Ye P w K L base CX0 n g2 d2 ["self"] (JY C CK))(b2:Binds K d2 ["self"] [])(k:VM K C "parameters" g3)(G3:Ye P w K L base CX0 n g3 d3 ["self","F"] (Gn C CK))(b3:Binds K d3 ["self","F"] [])(DR:Df P w K L base n "is_row_over" ["kinds","parameters","worths"] (SW CK)):Ye P w K L base CX0 (n+1) f fd bfw (E7 C CK<|.bl true):=by
 refine F.oi yz λJ2 A R s H vs Q E N h=>?_;obtain⟨t,b,j,M,d,J,x,O,T,S,hb,o,u,r,g,q⟩:=h;exists _,YZ<|Yj<|Wg (Jj XQ (pv 1) (Vg (pv 0) D.cl c G1 N b1 .nil Y3) rfl)<|Xj<|Vh DR N<|pa3 (Vg (pv 0) D.cl p G2 N b2 .nil Y3) (Y5 (pv 0) D.cl k G3 N b3 .nil Y3<|pa1<|pv 1)<|pv 2;dsimp only[Vb,Cx.nox,Cx.wish];obtain⟨I,kv,rfl,B⟩:=id T;refine⟨_,_,B.ins,zt _,I.t,M,d,J,Y,T,λl H1 Z fl X=>?_⟩;have el:(J.map λx=>V.str x.1.1)=(J.map λx=>x.1.1).map V.str:=by rw[jk];rfl
 rw[el]at X;exists l,_,Y,.inl<|Z3 X,rfl,UB _;rw[Ua,decide_eq_true (ZW.mpr ⟨x,S,rfl⟩)];refine⟨_,Y,VI Y ?_⟩;have G:=T.mono Z;refine⟨_,_,Z _ _ B.ins,vX _,I.t,M,d,J,Y,G,λz e=>?_⟩;refine⟨_,_,Z _ _ B.ins,zq _,I.t,M,d,J,x,Y,G,S,λv U=>?_⟩;unfold psD at U;obtain⟨a,y,rfl,ha,i⟩:=Yr U;exact⟨z,a,b,y,j,M,d,x.1.2.1,O,e,ha,i,Z _ _ hb,o.mono Z,u,r,g,λH2 m=>q _<|Z.trans m⟩
def zH(F:Fun K "check_asking" "check_asking" Uh f U)(m:Df P w K N base n "is_asking" bfw (E7 C CK<|.bl true)):Ye P w K N base CX0 (n+1) f U bfw (E7 C CK .non):=by
 refine F.oi vC λj A J s H g Q E I h=>?_;obtain⟨t,b,G,T,d,X,x,Z,y,B,S,D,O,R,M,q⟩:=h;exists _,YZ<|Y4 (Jg<|JB<|Vh m I<|pa3 (pv 0) (pv 1)<|pv 2) (YZ<|JU) Yo;show let z:=_;VH _ z _ _ _ _
 intros
 exact⟨t,b,G,T,d,X,x,Z,y,B,S,D,O,R,M,λk L=>⟨_,Y,Y1 (by simp)<|q _ L⟩⟩
inductive SCM(H:Hp)(Q:VK):List V->Prop
 |mk (a b:Int) (h1:1<=a) (h2:a<=b) (q:Q .non H):SCM H Q [.int a,.int b]
def Sf:Sp:=λZ H Q _=>SCM H Q Z
def zG(F:Fun K "check_most" "check_most" Xh f L):Ye P w K R base CX0 (n+1) f L ["most","highest"] Sf:=by
 refine F.oi vA λM A Z s H O Q E T h=>?_;obtain⟨a,b,G,J,q⟩:=h;exists _,YZ<|Y4 (Jg<|Xy XY XY Ya (pv 0)<|pv 1) (YZ<|JU) Yo;show let N:=_;VH _ N _ _ _ _
 intros
 exact⟨_,Y,VI (decide_eq_true G) ⟨_,Y,Y1 (by simp[J]) q⟩⟩
end
end K4
namespace L2
open PySem
structure GA where
 t:Addr
 dx:Addr
 bk:Addr
 gv:Addr
 bs:Addr
 nu:Addr
 st:Addr
 gs:List Str
def U0(A:GA):List (Str×V):=[("book",.ref A.bk),("given",.ref A.gv),("births",.ref A.bs),("numbers",.ref A.nu),("starts",.ref A.st)]
structure GCl(K:W.Frag)(C:Addr):Prop where
 cl:Cls K C
 bk:VG K C "book"
 gv:VG K C "given"
 bs:VG K C "births"
 nu:VG K C "numbers"
 st:VG K C "starts"
def Qy(A:GA):(U0 A).lookup ("given":Str)=some (V.ref A.gv):=rfl
def zp(A:GA):(U0 A).lookup ("part_given":Str)=none:=rfl
structure GV(H:Hp)(C:Addr)(A:GA)(wos:List W):Prop where
 ins:H A.t=some (.ins C A.dx (U0 A))
 gv:∃xs,H A.gv=some (.tup xs)/\HasL H xs (wos.map W.dat)
def GV.mono(g:GV H C A wos)(s:Same H L):GV L C A wos:=⟨s _ _ g.ins,let⟨Z,G,J⟩:=g.gv;⟨Z,s _ _ G,J.mono s⟩⟩
def TU(i:Nat)(ws:pZ):Dat:=.tup [.str "given",.int (i:Nat),Jr ws]
def hgD(i:Nat)(ws:pZ):W->Dat
 |.non=>.tup [.str "never",.int (i:Nat),Jr ws]
 |.tag t=>.tup [.str "head",.tup [.str "tag",.str t]]
 |.pair _ _=>.tup [.str "head",.tup [.str "pair",TU i<|ws++[0],TU i (ws++[1])]]
def Mm(h:H t=some (.tup [.str "given",.int (k:Nat),u]))(J:Has H u (Jr Z)):Has H (.ref t) (TU k Z):=by
 unfold TU;exact Yu h<|Z4 Yy<|Z4 (by unfold Has;rfl)<|Z5 J
theorem Te:∀Z:List Bool,(∀b∈Z,b=false)->Z.any id=false
 |[],_=>rfl
 |b::Z,h=>by
  rw[qI,h b Za,Te Z λc J=>h c (ZM _ J)];rfl
end L2
namespace K4
open PySem L2
section
variable{C:Addr}
abbrev iwy:pX:=["self","i","way"]
def yt:Yh iwy iwy (Yd Xo):=Y2
def zN:List.Nodup [("number":Str)]:=by decide +kernel
inductive SPG(C:Addr)(H:Hp)(Q:VK):List V->Prop
 |mk (A:GA) (wos:List W) (i:Nat) (wo:W) (y:V) (ws:List Int) (g:GV H C A wos) (hi:wos[i]?=some wo) (l3:wos.length<=3) (hy:Has H y (Jr ws)) (hw:Way ws) (lw:ws.length<=100) (q:∀u H',Same H H'->Has H' u (wo.part ws).dat->Q u H'):SPG C H Q [.ref A.t,.int (i:Nat),y]
def SY(C:Addr):Sp:=λZ H Q _=>SPG C H Q Z
def C7(B:Blt T)(ma:T "any"=none)(TG:GCl K C)(F:Fun K "part_given" "Ground.part_given" Xo f fd)(DP:Df P w K T base n "part_of" ["worth","way"] SX):Ye P w K T base CX0 (n+1) f fd iwy (SY C):=by
 refine F.oi yt λJ2 A O s H vs Q E hr h=>?_;obtain⟨A',N,i,j,y,L,g,d,l3,z,c,lw,q⟩:=h;refine⟨_,YY (Y4 (PW.pt<|UZ (Jg<|Xy XY C1 Ya (pv 1)<|VD Y6 rfl B.len Zu (pa1<|Yt (pv 0) rfl))<|UG<|JB<|VD (RS rfl) rfl ma RU (pa1<|JO ["number"] [] (UH<|pv 2) (V7 (i:=0)<|by decide) (λcl C o s H=>Yl 0 zN rfl (Or.inl rfl) (Or.inr rfl)) λcl C o s H=>Jj (r:=rIn K true) Jk (pv 0) (Yi<|pa2 Ya Ya)<|by rfl)) (YZ<|Yj<|Vo) Yo)
  (YZ<|Yj<|Vh DP hr<|pa2 (Ym Yq (Yt (pv 0) rfl) (pv 1) λ_ _=>rfl)<|pv 2),?_⟩
 dsimp only[Vb,Cx.nox,Cx.wish];show let T0:=_;let T1:=_;Yn (VH _ T1 _) T0 _ _ _
 intros
 obtain⟨X,v,m⟩:=g.gv;obtain⟨a,rfl,l⟩:=Jw z;have lx:=m.length;rw[ZA]at lx;have il:i<N.length:=(ZF.mp d).1;refine⟨_,Y,VI (decide_eq_true<|by omega) ?_⟩;refine⟨C,_,_,_,g.ins,TG.cl,TG.gv,Qy _,A'.gv,_,Y,.inr<|Z2 v,_,rfl,Y1 (by simp;omega) ?_⟩;exists ⟨_,Z2 l⟩;refine WL (us:=L) (D:=Dat.int) (F:=λ_=>.bl false) (λH' s=>itt<|Z2<|s _ _ l) (TQ L) (by omega) (λk x H1 R hm Z G hR=>?_) λvs p H1 o Z hp U=>?_
 .have e:x=.int k:=by unfold Has at G;exact G
  subst e;refine⟨sl 2,λt ht=>?_⟩;refine up_in ht _ λH2 s2 g2=>⟨t,_,Y,.inr<|Z2 g2,rfl,rfl,hR _ _ s2 ?_⟩;rcases c k hm with rfl|rfl <;> (unfold Has;rfl)
 have e:=OK (bs:=L.map λ_=>false) (by rw[jk];exact U);refine⟨p,_,Y,Z3 (by rw[hp,e]),_,Y,Y1 (by rw[Te _ (λb hb=>by obtain⟨_,_,rfl⟩:=ZW.mp hb;rfl)];simp) ?_⟩;have g1:=g.mono Z
 obtain⟨x,S,I⟩:∃x,X[i]?=some x/\Has H x j.dat:=by
  have J:i<X.length:=by omega
  obtain⟨u,M,hd⟩:=getD m<|ZD J;rw[d]at M;cases M;exact⟨_,ZD J,hd⟩
 exists C,_,_,_,g1.ins,TG.cl,TG.gv,Qy _,_,_,Z2<|Z _ _ v,VE S;exact⟨x,_,j,L,I.mono Z,z.mono Z,c,λu M=>q _ _ Z M⟩
def Ci:Yh ["self","i","way","worth"] iwy (Yd Xp):=Y2
inductive SHG(C:Addr)(H:Hp)(Q:VK):List V->Prop
 |mk (A:GA) (wos:List W) (i:Nat) (wo:W) (y:V) (ws:List Int) (g:GV H C A wos) (hi:wos[i]?=some wo) (l3:wos.length<=3) (hy:Has H y (Jr ws)) (hw:Way ws) (lw:ws.length<=100) (q:∀u H',Same H H'->Has H' u (hgD i ws (wo.part ws))->Q u H'):SHG C H Q [.ref A.t,.int (i:Nat),y]
def Sa(C:Addr):Sp:=λZ H Q _=>SHG C H Q Z
def zC(B:Blt mg)(TG:GCl K C)(F:Fun K "head_given" "Ground.head_given" Xp f fd)(m:VM K C "part_given" g)(G:Ye P w K mg base CX0 n g gd iwy (SY C))(bG:Binds K gd iwy []):Ye P w K mg base CX0 (n+1) f fd iwy (Sa C):=by
 refine F.oi Ci λJ2 A X s H vs Q E hr h=>?_;obtain⟨A',I,i,wo,y,ws,g,hi,l3,hy,hw,lw,q⟩:=h;refine⟨_,YY (Y0 3 Ci.nd<|Y5 (pv 0) TG.cl m G hr bG .nil Y3<|pa2 (pv 1)<|pv 2)
  (YY (Y4 (Ys Wj (pv 3) Vo<|Yz _) (YZ<|Yj<|Yi<|pa3 (Yp) (pv 1)<|pv 2) Yo)
  (YY (Y4 (JB<|Wf rfl B.isi rfl B.tuple Vm (pv 3)) (YZ<|Yj<|Yi<|pa2 (Yp)<|Yi<|pa3 (Yp) (Yi<|pa3 (Yp) (pv 1)<|Y9 (r:=λx y H Q=>UY K x y H Q\/UX K x y H Q) J6 (pv 2)<|Yi<|pa1<|Ya)<|Yi<|pa3 (Yp) (pv 1)<|Y9 (r:=λx y H Q=>UY K x y H Q\/UX K x y H Q) J6 (pv 2)<|Yi<|pa1<|Ya) Yo)
  (YZ<|Yj<|Yi<|pa2 (Yp)<|Yi<|pa2 (Yp)<|pv 3))),?_⟩
 dsimp only[Vb,Cx.nox,Cx.wish];show let T0:=_;let T1:=_;let T2:=Yn (VH _ T1 _) T0;let T3:=_;let T4:=Yn (VH _ T3 _) T2;Yn _ T4 _ _ _
 intros
 refine⟨_,_,g.ins,zp _,A',I,i,wo,y,ws,g,hi,l3,hy,hw,lw,λu H1 D L=>?_⟩;have J:=hy.mono D;generalize wo.part ws=w' at L q
 cases w' with
 |non=>
  have e:u=.non:=by unfold W.dat Has at L;exact L
  subst e;refine⟨Y,_,Y,VI Y ⟨sl 3,λt ht=>?_⟩⟩;refine up_in ht _ λH2 Z g2=>q _ _ (D.trans Z) ?_;unfold hgD;exact Yu g2<|Z4 Yy<|Z4 (by unfold Has;rfl)<|Z5<|J.mono Z
 |tag x=>
  have e:u=.str x:=has_str L;subst e;refine⟨Y,_,Y,Y1 (by simp) ?_⟩;refine⟨_,_,_,_,Y,Mh (K:=K) L,Mb K _ (by simp),_,Y,Y1 (by simp[isD,tyD,W.dat]) ⟨sl 2,λt ht=>?_⟩⟩;refine up_in ht _ λH2 Z g2=>⟨sl 2,λt' a=>?_⟩;refine up_in a _ λH3 T g3=>q _ _ ((D.trans Z).trans T) ?_;unfold hgD;exact Yu g3<|Z4 Yy<|Z5<|D9<|T _ _ g2
 |pair b c=>
  have j:=L;obtain⟨p,x1,x2,rfl,hp,h1,h2⟩:=WB L;refine⟨Y,_,Y,Y1 (by simp) ?_⟩;refine⟨_,_,_,_,Y,Mh (K:=K) j,Mb K _ (by simp),_,Y,VI (by simp[isD,tyD,W.dat]) ⟨sl 1,λt2 o=>?_⟩⟩;refine up_in o _ λH2 Z g2=>?_;refine UT (J.mono Z) (UR g2) (by simp) (by simp;omega) λu3 H3 T h3=>⟨sl 3,λt4 l=>?_⟩;refine up_in l _ λH4 s4 g4=>⟨sl 1,λt5 v=>?_⟩;refine up_in v _ λH5 s5 g5=>?_;have O:=(((Z.trans T).trans s4).trans s5);refine UT (J.mono O) (UR g5) (by simp) (by simp;omega) λu6 H6 s6 h6=>⟨sl 3,λt7 d=>?_⟩;refine up_in d _ λH7 U g7=>⟨sl 3,λt8 k=>?_⟩;refine up_in k _ λH8 S g8=>⟨sl 2,λt9 z=>?_⟩;refine up_in z _ λH9 R g9=>q _ _ (((((D.trans O).trans s6).trans U).trans S).trans R) ?_;have N:=(((s5.trans s6).trans U).trans S).trans R;have M:=S.trans R;unfold hgD;exact Yu g9<|Z4 Yy<|Z5<|Yu (R _ _ g8)<|Z4 Yy<|Z4 (Mm (N _ _ g4)<|h3.mono<|s4.trans N)<|Z5<|Mm (M _ _ g7)<|h6.mono<|U.trans M
end
section
def XO:Yh ["body","place","part","number"] ["body","place"] (Yd Gx):=Y2
inductive E1(H:Hp)(Q:VK):List V->Prop
 |mk (v:V) (a:Addr) (b c:Bd) (ws:List Int) (hv:Has H v b.dat) (ok:b.ok) (ha:H a=some (.tup (ws.map V.int))) (hc:b.at ws=some c) (q:∀u H',Same H H'->Has H' u c.dat->Q u H'):E1 H Q [v,.ref a]
def J8:Sp:=λZ H Q _=>E1 H Q Z
def B2(F:Fun K "part_at" "part_at" Gx f p)(DP:Df P w K X base n "parts" ["body"] Xt):Ye P w K X base CX0 (n+1) f p ["body","place"] J8:=by
 refine F.oi XO λJ2 A L s H vs Q E t h=>?_;obtain⟨v,a,b,c,R,y,C,T,g,q⟩:=h;refine⟨_,YY (Y0 2 XO.nd<|pv 0) (YY (JC Zv rfl (UH<|pv 1) (Yl 3 XO.nd)
  (YZ<|Y0 2 XO.nd<|Ym Yq (Vh DP t<|pa1<|pv 2) (pv 3) λ_ _=>rfl))
  (YZ<|Yj<|pv 2)),?_⟩
 dsimp only[Vb,Cx.nox,Cx.wish];show let T0:=_;let T1:=_;let T2:=Yn (U1 _ _ T1) T0;Yn _ T2 _ _ _
 intros
 refine EF Y ?_;exists ⟨_,Z2 T⟩
 let I:xi:=λi U J=>Same H J/\∃u z Z,U=[some v,some<|.ref a,some u,z]/\Has J u (Bd.dat Z)/\Z.ok/\Z.at (R.drop i)=some c
 refine Tb (xs:=R.map V.int) I ⟨Z8 _,v,none,b,Y,y,C,g⟩ (λi U J _ z=>Z2<|z.1 _ _ T) ?_ ?_
 .rintro BB RR i x U J hx ⟨sj,u,z,Z,rfl,hu,okb,e⟩
  obtain⟨m,r,rfl,o,l,hm⟩:=RP hx;rw[o]at e;unfold Bd.at at e
  by_cases hm0:0<=m
  case neg=>rw[Zq hm0]at e;cases e
  rw[Zp hm0]at e
  cases hp:Z.parts[m.toNat]? with
  |none=>rw[hp]at e;cases e
  |some D=>
   rw[hp]at e;refine⟨u,Z,Y,hu,okb,λu2 H2 S k=>?_⟩;obtain⟨p2,xs,rfl,N,O⟩:=Yr k;rw[Z9]at O;have j:=O.length;rw[ZA]at j;have hi:=(ZF.mp hp).1;have G:m.toNat<xs.length:=by omega
   obtain⟨d,hd,M⟩:=getD O<|ZD G;rw[hp]at hd;cases hd;have B:=VE<|ZD G;rw[show((m.toNat:Nat):Int)=m by omega]at B;exact⟨_,xs[m.toNat],Z2 N,B,sj.trans S,_,_,D,Y,M,Bd.ok_parts okb D<|ZJ hp,by rw[l];exact e⟩
 .rintro U J ⟨sj,u,z,Z,rfl,hu,okb,e⟩
  rw[ZA,List.drop_length]at e;unfold Bd.at at e;cases e;exact q u J sj hu
end
end K4
namespace L2
open PySem PySem.Spec PyProof.Rows
def ZI(h:Heap)(z TI TO:Addr)(f0 f1:Value):Prop:=h.get? z=some {cls:=.type "zip",dict:=none,data:=.fields #[f0,f1,.bool false,.ref TI,.ref TO],slots:= #[]}
section
variable{prog:Program}{w:World}{A:Around}{E:pV}{s:Shared}
def Ny{α:Type}{a:Addr}{o:Obj}{m:Option Obj->Sem α}{Q:α->Shared->Prop}(h:s.heap.get? a=some o)(q:wpAny (model prog w) A (m<|some o) Q E s):wpAny (model prog w) A (loadIfAlive a >>=m) Q E s:=by
 intro Γ p Z;show Sem.wp _ Γ (Sem.loadIfAlive a λx=>m x) _ _ p s;rw[Sem.wp_loadIfAlive,h];exact q Γ p Z
def Oc{z TI TO G Z j F T:Addr}{p C:Bool}{k:Nat}{t U:xc}{x y I:Value}{d:Obj}{Q:Option Value->Shared->Prop}(D:ZipApart z TI TO G Z j F)(L:ZI s.heap z TI TO (rawInt T) I)(i:s.heap.get? T=some d)(b:I=.bool false\/I=.bool true)(q:IsPair s.heap TI (.ref G) (.ref Z))(one:SI p s.heap G j k t)(two:SI C s.heap Z F k U)(r:t[k]?=some x)(v:U[k]?=some y)(h:∀g,ZI g z TI TO (rawInt T) (.bool true)->SJ p g G j (k+1)->SJ C g Z F (k+1)->IsPair g s.heap.objs.size x y->g.objs.size=s.heap.objs.size+1->(∀c o,c≠z->c≠G->c≠Z->s.heap.get? c=some o->g.get? c=some o)->Q (some<|.ref s.heap.objs.size) {s with heap:=g}):
  wpAny (model prog w) A (pyNext<|.ref z) Q E s:=by
 have R:s.TypeIs (.ref z) "zip":=⟨_,L,rfl⟩;simp only[pyNext];refine Zl<|qR<|wpAny_callSpecial?_slot (name:=Str.ofString "__next__") R jU<|jA jU R kW ?_<|kO _;refine Zl (m:=field (.ref z) 2)<|Zo L rfl (x:=.bool false) rfl (Zl (m:=field (.ref z) 3)<|Zo L rfl (x:=.ref TI) rfl (Zl<|jC q rfl ?_));refine Zl (m:=Builtin.SmallTypes.ownedTupleIsFree<|.ref z)<|Zl (m:=field (.ref z) 0)<|Zo L rfl (x:=rawInt T) rfl ?_;simp only[rawInt];refine Ny (o:=d) (by simpa using i) ?_;rw[Zq (by simp)];refine Zl (m:=field (.ref z) 1) (Zo L Y (x:=I) Y ?_)
 suffices main:∀J,ZI J z TI TO (rawInt T) (.bool true)->Heap.SameBut z s.heap J->wpAny (model prog w) A.in1 _ _ _ {s with heap:=J} by
  rcases b with rfl|rfl
  .rw [Zp (by rfl)]
   refine Zl<|jo L (by simp) λJ S O=>Zm ?_;rw[Zq (by simp)];exact main J S O
  .rw [Zq (by decide)]
   refine Zm ?_;rw[Zq (by simp)];exact main s.heap L ⟨Y,λ_ _=>Y⟩
 intro J S O;rw[<-qT];simp only[qf,kX];have u:=one.but O.extBut D.i1z D.l1z;have f:=two.but O.extBut D.i2z D.l2z;refine Zl<|Zl<|Zl<|wpAny_holding (?_:wpAny _ _ (Builtin.SmallTypes.nextOf (.ref G) >>=_) _ _ _);refine Zl<|XN (s:={s with heap:=J}) u D.l1i1 r λg2 a N=>Zm<|Zm ?_;replace N:Heap.SameBut G J g2:=N;have P:SI C g2 Z F k U:=f.but N.extBut D.i12.symm D.l2i1;refine Zl<|Zl<|wpAny_holding (?_:wpAny _ _ (Builtin.SmallTypes.nextOf (.ref Z) >>=_) _ _ _);refine Zl<|XN (s:={s with heap:=g2}) P D.l2i2 v λB n M=>Zm<|Zm<|Zm ?_;replace M:Heap.SameBut Z g2 B:=M;refine Zl<|wpAny_newTuple (hsz:=by show 2<=sizeLine;decide)<|Zm ⟨_,rfl,Zm ?_⟩;have X:B.objs.size=s.heap.objs.size:=by rw[M.1,N.1,O.1]
 show Q (some<|.ref B.objs.size) _;have l:=h<|B.push {cls:=.type "tuple",data:=.seq #[x,y]};rw[X];refine l (ZE _<|M.extBut _ _ D.i2z.symm<|N.extBut _ _ D.i1z.symm S) ?_ ?_ ?_ (by rw[jI,X]) ?_
 .exact (a.sj.to λo e=>M.extBut _ _ D.i12 e).to λo e=>ZE _ e
 .exact n.sj.to λo e=>ZE _ e
 .have:=ZY B (o:={cls:=.type "tuple",data:=.seq #[x,y]}) rfl
  rw[X]at this;exact this
 .intro c o c1 c2 c3 e
  exact ZE _<|M.extBut _ _ c3<|N.extBut _ _ c2<|O.extBut _ _ c1 e
def Q6{z TI TO G R S X T:Addr}{U r:Bool}{k:Nat}{F:xc}{N:Value}{I:Obj}{Q:Option Value->Shared->Prop}(y:A.handled=none)(D:ZipApart z TI TO G R S X)(Z:ZI s.heap z TI TO (rawInt T) N)(p:s.heap.get? T=some I)(q:N=.bool false\/N=.bool true)(O:IsPair s.heap TI (.ref G) (.ref R))(one:SI U s.heap G S k F)(P:F[k]?=none)(d:∀g,(∀c o,c≠z->c≠G->c≠R->s.heap.get? c=some o->g.get? c=some o)->Q none {s with heap:=g}):wpAny (model prog w) A (pyNext<|.ref z) Q E s:=by
 have L:s.TypeIs (.ref z) "zip":=⟨_,Z,rfl⟩;simp only[pyNext];refine Zl<|qR<|wpAny_callSpecial?_slot (name:=Str.ofString "__next__") L jU<|jA jU L kW ?_<|kO _;refine Zl (m:=field (.ref z) 2)<|Zo Z rfl (x:=.bool false) rfl (Zl (m:=field (.ref z) 3)<|Zo Z rfl (x:=.ref TI) rfl (Zl<|jC O rfl ?_));refine Zl (m:=Builtin.SmallTypes.ownedTupleIsFree<|.ref z)<|Zl (m:=field (.ref z) 0)<|Zo Z rfl (x:=rawInt T) rfl ?_;simp only[rawInt];refine Ny (o:=I) (by simpa using p) ?_;rw[Zq (by simp)];refine Zl (m:=field (.ref z) 1) (Zo Z Y (x:=N) Y ?_)
 suffices main:∀J,ZI J z TI TO (rawInt T) (.bool true)->Heap.SameBut z s.heap J->wpAny (model prog w) A.in1 _ _ _ {s with heap:=J} by
  rcases q with rfl|rfl
  .rw [Zp (by rfl)]
   refine Zl<|jo Z (by simp) λJ B M=>Zm ?_;rw[Zq (by simp)];exact main J B M
  .rw [Zq (by decide)]
   refine Zm ?_;rw[Zq (by simp)];exact main s.heap Z ⟨Y,λ_ _=>Y⟩
 intro J B M;rw[<-qT];simp only[qf,kX];have C:=one.but M.extBut D.i1z D.l1z;refine Zl<|Zl<|Zl<|wpAny_holding (?_:wpAny _ _ (Builtin.SmallTypes.nextOf (.ref G) >>=_) _ _ _);refine Zl<|MF (s:={s with heap:=J}) y C P λg2 e f ⟨o,j,t⟩=>?_;refine Zl<|qP (T:="StopIteration") (b:=true) ⟨o,j,t⟩ isSubtype_stop<|Zm<|d _ ?_;intro c o v u l e;exact f _ _ u<|M.extBut _ _ v e
end
def ZC(h:Heap)(z TI TO:Addr)(t1:Bool)(i1 l1:Addr)(t2:Bool)(i2 l2:Addr)(i:Nat):Prop:=
 IsPair h TI (.ref i1) (.ref i2)/\SJ t1 h i1 l1 i/\SJ t2 h i2 l2 i/\((IsZip h z TI TO .none/\∃a b,IsPair h TO a b) \/ ∃(T:Addr)(Z:Value)(J:Obj),ZI h z TI TO (rawInt T) Z/\h.get? T=some J/\T ∉ [z,TO,i1,i2]/\(Z=.bool false\/Z=.bool true))
def Wk.keep2{Z:Bool}{h G:Heap}{l:Addr}{J:xc}(z:Wk Z h l J)(k:∀o,h.get? l=some o->G.get? l=some o):Wk Z G l J:=by
 cases Z with
 |false=>exact let⟨o,e,r⟩:=z;⟨o,k _ e,r⟩
 |true=>exact let⟨o,e,r⟩:=z;⟨o,k _ e,r⟩
section
variable{prog:Program}{w:World}{A:Around}{E:pV}{R:Result->Shared->Prop}
def QG{z TI TO L G f c d:Addr}{t1 t2:Bool}{xs ys:pW}{vs:List (Key×Value)}(hh:A.handled=none)(D:ZipApart z TI TO L G f c)(T2:xs.length=ys.length)(hn:xs.length<=sizeLine)(hv:vs.length=xs.length)(nd:(vs.map (·.1)).Nodup)(R7:∀i (h1:i<xs.length) (h2:i<ys.length),∃k,vs[i]?=some (k,ys[i])/\(VA prog w).is k xs[i]=true)(hS:d ∉ [z,TO,L,G,TI,f,c])(F:Value):
  ∀(k i:Nat)(s:Shared)(j:Int)(t:Tok),xs.length-i=k->i<=xs.length->ZC s.heap z TI TO t1 L f t2 G c i->Wk t1 s.heap f xs.toArray->Wk t2 s.heap c ys.toArray->
  s.heap.DictOf (VA prog w) d (vs.take i)->TO<s.heap.objs.size->
  (∀h' tk,h'.DictOf (VA prog w) d vs->(∀b o,b ∉ [z,TO,L,G,d]->s.heap.get? b=some o->h'.get? b=some o)->R (.ok<|.ret F) {s with heap:=h',toks:=tk})->
  codeAny (model prog w) A (.builtin "dict.update.loop" ⟨[.ref d,.ref z,.int j t,F],[]⟩) R s:=by
 have nS:d≠z/\d≠TO/\d≠L/\d≠G/\d≠TI/\d≠f/\d≠c:=by simpa using hS
 obtain⟨n,S,n1,n2,R6,R5,R4⟩:=nS;intro k
 induction k with
 |zero=>
  intro i s j t hk hi zc y l hd M2 hR;have e:i=xs.length:=by omega
  subst e;refine pE WE ?_;rw[Around.under_plainId Jq _];obtain⟨M,u,j2,zz⟩:=zc;rw[<-hv,pR]at hd
  have O1:∀g,(∀b o,b ∉ [z,TO,L,G]->s.heap.get? b=some o->g.get? b=some o)->R (.ok<|.ret F) {s with heap:=g}:=λg J=>by
   obtain⟨o,es,ep,v,rest⟩:=hd
   exact hR g s.toks ⟨o,es,ep,J d o (by simp[n,S,n1,n2]) v,rest⟩ λb o O e=>J b o (λhm=>O (by
    have X:b=z\/b=TO\/b=L\/b=G:=by simpa using hm
    simp only[Zd,qH,or_false];rcases X with q|q|q|q
    .exact .inl q
    .exact .inr (.inl q)
    .exact .inr (.inr<|.inl q)
    .exact .inr (.inr<|.inr<|.inl q))) e
  refine Zl (m:=pyNext<|.ref z) ?_;rcases zz with⟨B,v⟩|⟨T,f1,oT,B,r,_,hf⟩
  .refine Fm hh D ⟨B,M,v,u.si y,j2.si l⟩ (.inl<|by simp) λg J=>Zl<|Zm<|Zm<|O1 g λb o O e=>?_
   have Z:b≠z/\b≠TO/\b≠L/\b≠G:=by simpa using O
   exact J b o Z.1 Z.2.1 Z.2.2.1 Z.2.2.2 e
  .refine Q6 (r:=t2) hh D B r hf M (u.si y) (by simp) λg J=>Zl<|Zm<|Zm<|O1 g λb o O e=>?_
   have Z:b≠z/\b≠TO/\b≠L/\b≠G:=by simpa using O
   exact J b o Z.1 Z.2.2.1 Z.2.2.2 e
 |succ k ih=>
  intro i s j t hk hi zc y l hd M2 hR;have P:i<xs.length:=by omega
  have G2:i<ys.length:=by omega
  have hx:xs.toArray[i]?=some xs[i]:=by simp[P]
  have hy:ys.toArray[i]?=some ys[i]:=by simp
  obtain⟨T3,ev,G3⟩:=R7 i P G2;refine pE WE ?_;rw[Around.under_plainId Jq _];obtain⟨M,u,j2,zz⟩:=zc;refine Zl (m:=pyNext<|.ref z) ?_
  suffices step:∀g,ZC g z TI TO t1 L f t2 G c (i+1)->IsPair g s.heap.objs.size xs[i] ys[i]->g.objs.size=s.heap.objs.size+1->(∀b o,b≠z->b≠TO->b≠L->b≠G->s.heap.get? b=some o->g.get? b=some o)->wpAny (model prog w) A.in1 _ _ _ {s with heap:=g} by
   have lz:∀{o:Obj}{b:Addr},s.heap.get? b=some o->b<s.heap.objs.size:=λe=>ZP e;have J2:L<s.heap.objs.size:=let⟨_,e,_⟩:=u.obj;lz e
   have x:G<s.heap.objs.size:=let⟨_,e,_⟩:=j2.obj;lz e
   rcases zz with⟨B,a,b,v⟩|⟨T,f1,oT,B,r,nT,hf⟩
   .refine Dz D ⟨B,M,⟨a,b,v⟩,u.si y,j2.si l⟩ hx hy λg zs U h J=>step g ⟨zs.its,zs.one.sj,zs.two.sj,.inr ⟨s.heap.objs.size,.bool false,_,zs.zip,U,?_,.inl rfl⟩⟩ U h J
    have I:=lz B;have p:=lz v;intro hm;have X:s.heap.objs.size=z\/s.heap.objs.size=TO\/s.heap.objs.size=L\/s.heap.objs.size=G:=by simpa using hm
    rcases X with e|e|e|e <;> rw[e]at I p J2 x <;> first|exact Zr I (jt _)|exact Zr p (jt _)|exact Zr J2 (jt _)|exact Zr x<|jt _
   .have nT':T≠z/\T≠TO/\T≠L/\T≠G:=by simpa using nT
    exact Oc D B r hf M (u.si y) (j2.si l) hx hy λg z' a1 a2 U h J=>step g ⟨J _ _ D.TIz D.TIi1 D.TIi2 M,a1,a2,.inr ⟨T,.bool true,oT,z',J _ _ nT'.1 nT'.2.2.1 nT'.2.2.2 r,nT,.inr Y⟩⟩ U h λb o b1 _ b3 b4 e=>J b o b1 b3 b4 e
  intro g R1 U h J
  have T1:g.DictOf (VA prog w) d (vs.take i):=by
   obtain⟨o1,es,ep,C,rest⟩:=hd;exact⟨o1,es,ep,J d o1 n S n1 n2 C,rest⟩
  have r:({s with heap:=g}:Shared).TypeIs (.ref s.heap.objs.size) "tuple":=⟨_,U,rfl⟩
  have ld:d<s.heap.objs.size:=by
   obtain⟨o1,es,ep,C,rest⟩:=hd;exact ZP C
  refine Zl<|wpAny_holding<|Zl<|wpAny_tryCatch ?_;simp only[Builtin.Dict.pairItems];refine Zl (m:=typeOf<|.ref s.heap.objs.size)<|kq r ?_;rw[Zp (by decide)];refine Zl<|jC U rfl (Zm ?_);show wpAny _ A.in1 (holding [xs[i],ys[i]]<|dictSet d xs[i] ys[i]) _ _ _;refine wpAny_holding<|wpAny_dictSet_pairs (hsz:=by rw[ZN];omega) G3 T1 λh2 Q G1=>?_;rw[RQ vs nd ev]at Q;have N:∀b o,b≠d->g.get? b=some o->h2.get? b=some o:=λb o O e=>(G1.2 b O).trans e;refine Zm ⟨kS Jq _,ih (i+1) _ (j+1) 0 (by omega) P ?_ ?_ ?_ Q ?_ λh3 R3 T0 R8=>?_⟩
  .obtain ⟨a1,a2,a3,a4⟩:=R1
   exists N _ _ (Zs R6) a1,a2.to λo e=>N _ _ (Zs n1) e,a3.to λo e=>N _ _ (Zs n2) e;rcases a4 with⟨I,a,b,p⟩|⟨T,f1,oT,I,p,q3,q4⟩
   .exact .inl ⟨N _ _ (Zs n) I,a,b,N _ _ (Zs S) p⟩
   .by_cases eT:T=d
    .obtain ⟨o2,es2,ep2,ho2,_⟩:=Q
     exact .inr ⟨T,f1,o2,N _ _ (Zs n) I,by rw[eT];exact ho2,q3,q4⟩
    .exact .inr ⟨T,f1,oT,N _ _ (Zs n) I,N _ _ eT p,q3,q4⟩
  .exact y.keep2 λo e=>N _ _ (Zs R5)<|J _ _ D.l1z D.l1TO D.l1i1 D.l1i2 e
  .exact l.keep2 λo e=>N _ _ (Zs R4)<|J _ _ D.l2z D.l2TO D.l2i1 D.l2i2 e
  .have e2:h2.objs.size=g.objs.size:=G1.1
   show TO<h2.objs.size;rw[e2,h];exact Nat.lt_succ_of_lt M2
  .refine hR h3 R3 T0 λb o O e=>R8 b o O ?_
   have Z:b≠z/\b≠TO/\b≠L/\b≠G/\b≠d:=by simpa using O
   exact N _ _ Z.2.2.2.2<|J b o Z.1 Z.2.1 Z.2.2.1 Z.2.2.2.1 e
end
def QF:typeLookup (.type "zip") (Str.ofString "keys")=pure none:=pD<|by decide +kernel
def QE:typeLookup (.type "zip") (Str.ofString "__getattr__")=pure none:=pD<|by decide +kernel
def L4:entryFor table "zip.__getattribute__"=some Builtin.«object.__getattribute__»:=
 entryFor_alias (id':="object.__getattribute__") (by kernel_rfl) (by decide +kernel) (by decide +kernel) (by kernel_rfl)
def L3(a:Addr)(D:xc)(sl:Array (Option Value))(name:Str)(u:Tok)(L:typeLookup (.type "zip") name=pure none)(Z:(["__module__","__name__","__qualname__","__doc__","__annotations__"]:pX).contains name=false)(G:name.length+100<=sizeLine:=by size_fits):
  Meets (Builtin.«object.__getattribute__» ⟨[.ref a,.str name u],[]⟩) (λA R s=>s.heap.get? a=some {cls:=.type "zip",dict:=none,data:=.fields D,slots:=sl}/\raisesAttr (.ref a) name A R s):=
 Meets.of_wp λM w A R s J=>by
  obtain⟨B,g,d,N,O⟩:=s;obtain⟨T,J⟩:=J;have E:(⟨B,g,d,N,O⟩:Shared).TypeIs (.ref a) "zip":=⟨_,T,rfl⟩;unfold Builtin.«object.__getattribute__»
  repeat (any_goals (first|assumption|wp_step))
  simp only[Z,j0,if_false]
  repeat (any_goals (first|assumption|wp_step))
  exact wpAny_raiseAttrError J.1 J.2<|attrMsg_fits (by decide +kernel) G
def QH{R:xc}{M:Array (Option Value)}(N:s.heap.get? a=some {cls:=.type "zip",dict:=none,data:=.fields R,slots:=M})(S:A.handled=none)(h:∀G L,(∀b o,s.heap.get? b=some o->G.get? b=some o)->Q none {s with heap:=G,toks:=L}):
  wpAny (model prog w) A (getAttr? (.ref a)<|Str.ofString "keys") Q E s:=by
 obtain⟨U,C,X,L,B⟩:=s;have Z:=F.slot_zip_getattribute;have I:=Z.lookup;have P:=Z.bind<|.ref a;have D:=QE;have j:=sub_AttributeError;have O:∀n,(Shared.mk U C X n B).TypeIs (.ref a) "zip":=λn=>⟨_,N,rfl⟩;simp only[getAttr?,getAttrBy?,getAttrBy]
 repeat (any_goals (first|assumption|exact O _|((with_reducible show wpAny _ _ (call (Value.builtin "zip.__getattribute__") _ _) _ _ _);refine call_meets F.slot_zip_getattribute (O _) L4 (F.args_zip_getattribute_2 _ _) (L3 a R M (Str.ofString "keys") _ QF (by decide +kernel)<|by size_fits) ⟨N,S,λG T e J=>?_⟩)|wp_step))
 have there:=J.there;obtain⟨_,_,y⟩:=there;refine(?_:wpAny _ _ (getattributeRaised _ _ _ _ _ _ _) _ _ _);simp only[getattributeRaised]
 repeat any_goals first|assumption|wp_step
 exact h _ _ J.keeps
theorem Qs:∀{Z:xf}{G:pW},Vals (Z.map (·.2)) G->∃J,KV Z J/\J.map (·.2)=G/\J.map (·.1)=Z.map (·.1)
 |[],_,r=>by cases r;exact⟨[],.nil,Y,Y⟩
 |kv::Z,_,r=>by
  cases r with
  | @cons _ u _ G h t=>
   obtain⟨J,N,M,L⟩:=Qs t;exact⟨(kv.1,u)::J,.cons ⟨Y,h⟩ N,by rw[ZV,M],by rw[ZV,ZV,L]⟩
def Tu{z TI TO R O j P:Addr}{t1 t2:Bool}{xs ys:pW}{vs:List (Key×Value)}{kvs:xf}{g:Heap}(I:Inv X E U H s)(hc:X.calm=true)(D:ZipApart z TI TO R O j P)(S:xs.length=ys.length)(hn:xs.length<=1000)(hv:vs.length=xs.length)(nd:(vs.map (·.1)).Nodup)(x:∀i (y:i<xs.length) (h2:i<ys.length),∃k,vs[i]?=some (k,ys[i])/\(VA X.prog X.w).is k xs[i]=true)(B:KV kvs vs)(kp:∀b o,s.heap.get? b=some o->g.get? b=some o)(m:s.heap.objs.size<=g.objs.size)(L:∀b∈ [z,TO,R,O],s.heap.objs.size<=b)(Z:ZR g z TI TO t1 R j t2 O P 0)(w1:Wk t1 g j xs.toArray)(w2:Wk t2 g P ys.toArray)(q:∀l,H l=none->Q (.ref l) (upd H l<|.dK kvs)):
  wpAny (model X.prog X.w) X.A (call (.type "dict") [.ref z]) (EP X E U Q) X.xe {s with heap:=g}:=by
 refine callType_codes (Q₁:=λob t=>ob=.ref g.objs.size/\t={s with heap:=g.push {cls:=.type "dict",data:=.dict #[]}}) F.kt_called_dict (pN _) F.entry_dict_init (kt_code_dict_new _ ⟨Y,Y⟩) λob t ht=>?_;obtain⟨rfl,rfl⟩:=ht;have J:(g.push {cls:=.type "dict",data:=.dict #[]}).DictOf (VA X.prog X.w) g.objs.size []:=Heap.DictOf.new g;have r:∀b o,g.get? b=some o->(g.push {cls:=.type "dict",data:=.dict #[]}).get? b=some o:=λb o e=>ZE _ e;refine And.intro J.typeIs<|And.intro (F.args_dict_init_2 _ _) ?_;delta Builtin.«dict.__init__» Builtin.Dict.selfAndRest;refine Zl<|Zl<|pG J.typeIs<|Zm (?_:wpAny _ _ (Builtin.Dict.updateFrom "dict.__init__" g.objs.size (.ref z) [] .none) _ _ _);delta Builtin.Dict.updateFrom;have p:Shared.TypeIs {s with heap:=g.push {cls:=.type "dict",data:=.dict #[]}} (.ref z) "zip":=⟨_,r _ _ Z.zip,rfl⟩;refine Zl<|kq p ?_;rw[Zp (by decide)];refine Zl<|QH (s:={s with heap:=g.push {cls:=.type "dict",data:=.dict #[]}}) (r _ _ Z.zip) (I.ok.hd hc) λy T C=>?_;simp only[pH,if_true];refine Zl<|qe ?_;have G:∀b o,g.get? b=some o->y.get? b=some o:=λb o e=>C b o<|r b o e;refine Zl<|wpAny_pyIter_zip (s:={s with heap:=y,toks:=T}) (G _ _ Z.zip) ?_;have lz:z<g.objs.size:=ZP Z.zip;have w:TI<g.objs.size:=ZP Z.its;have v:TO<g.objs.size:=let⟨_,_,e⟩:=Z.out;ZP e
 have u:R<g.objs.size:=let⟨_,e,_⟩:=Z.one.obj;ZP e
 have f:O<g.objs.size:=let⟨_,e,_⟩:=Z.two.obj;ZP e
 have d:=w1.lt;have c:=w2.lt;have M:∀{b:Addr},b<g.objs.size->g.objs.size≠b:=λh=>jM h;refine Zm ⟨kS Jq _,QG (A:=X.A.in1) (t1:=t1) (t2:=t2) (xs:=xs) (ys:=ys) (vs:=vs) (I.ok.hd hc) D S (Zh<|Yx hn) hv nd x ?_ .none xs.length 0 {s with heap:=y,toks:=T} 0 0 rfl (Zc _) ⟨G _ _ Z.its,Z.one.to λo e=>G _ _ e,Z.two.to λo e=>G _ _ e,.inl ⟨G _ _ Z.zip,let⟨a,b,e⟩:=Z.out;⟨a,b,G _ _ e⟩⟩⟩ (w1.keep2 λo e=>G _ _ e) (w2.keep2 λo e=>G _ _ e) ?_ ?_ λh' tk G2 J2=>?_⟩
 .intro n
  have N:g.objs.size=z\/g.objs.size=TO\/g.objs.size=R\/g.objs.size=O\/g.objs.size=TI\/g.objs.size=j\/g.objs.size=P:=by simpa using n
  rcases N with e|e|e|e|e|e|e
  .exact M lz e
  .exact M v e
  .exact M u e
  .exact M f e
  .exact M w e
  .exact M d e
  .exact M c e
 .rw [pe]
  obtain⟨o,es,ep,ho,rest⟩:=J;exact⟨o,es,ep,C _ _ ho,rest⟩
 .obtain ⟨_,_,e⟩:=Z.out
  exact ZP<|G _ _ e
 .have lk:kvs.length<=sizeLine:=by
   have:=B.length;exact Zh<|Yx<|by omega
  refine⟨Y,.ref g.objs.size,_,I.laid (a:=g.objs.size) (o:=.dK kvs) (λb o e=>?_) m<|Xq lk (beq_eq_false_iff_ne.mpr<|Zs<|Ze<|Zx I.big m) B G2,rfl,q _<|I.hok.fresh m⟩;have hb:=ZP e;refine J2 b o (λn=>?_)<|G b o<|kp b o e;have N:b=z\/b=TO\/b=R\/b=O\/b=g.objs.size:=by simpa using n
  have G1:s.heap.objs.size<=b:=by
   rcases N with e|e|e|e|e
   .exact L b (by rw[e];simp)
   .exact L b (by rw[e];simp)
   .exact L b (by rw[e];simp)
   .exact L b (by rw[e];simp)
   .rw [e];exact m
  exact Zr hb<|Nat.not_lt_of_le G1
def tDZ(K:W.Frag)(ta:TA):TE:=λU H Q=>ta U H λG J=>∃(a b:Addr)(M L:Bool)(Z:xf),G=[.ref a,.ref b]/\Sq K M J a (Z.map λN=>kV N.1)/\Sq K L J b (Z.map (·.2))/\Z.length<=1000/\(Z.map (·.1)).Nodup/\
 ∀l,J l=none->Q (.ref l) (upd J l<|.dK Z)
def PU{X:Cx}{a b:Expr}{x:TA}{p E t Z:Pos}(hc:X.calm=true)(hg:Gl X "dict")(hm:X.mg "dict"=none)(r:Gl X "zip")(w:X.mg "zip"=none)(ha:PA X [a,b] x)(hs:starEach [a,b] X.env=[(false,eval a X.env),(false,eval b X.env)]:=by rfl)(T:starEach [b] X.env=[(false,eval b X.env)]:=by rfl)(B:starEach [Expr.Call (.Name "zip" E) [a,b] [] Z] X.env=[(false,eval (Expr.Call (.Name "zip" E) [a,b] [] Z) X.env)]:=by rfl):
  PE X (.Call (.Name "dict" p) [.Call (.Name "zip" E) [a,b] [] Z] [] t) (tDZ X.K x):=by
 intro O s U H Q I h;refine Call_<|U9 I hg hm UL<|jG ?_ B rfl;rw[B];refine(?_:wpAny _ _ (spliced ((false,eval (Expr.Call (.Name "zip" E) [a,b] [] Z) X.env)::[])) _ _ s);refine Calls.spliced_cons (Call_<|U9 I r w RT<|jG (thn (ha Z O s U H _ I h) λus L ⟨vs,H1,n,r1,y⟩=>?_) (by rw[hs,T]) (by rw[T];rfl));obtain⟨l1,l2,t1,t2,kvs,e,y,q2,c,nd,q⟩:=y;subst e;obtain⟨u,w',rfl,P,C⟩:=vals2 r1;cases P;cases C;obtain⟨R,N,A⟩:=n.sq y;obtain⟨J,M,F⟩:=n.sq q2;have n1:=A.lt;have n2:=F.lt;have k:=N.length;have m:=M.length;rw[ZA]at k m;obtain⟨G,j,e2,l⟩:=Qs M;have lw:G.length=kvs.length:=by rw[<-ZA (f:=(·.1)) (as:=G),l,ZA]
 refine Nq A F λg S d=>Calls.spliced_nil ?_;have D:=zap _ _ _ n1 n2;have gz:L.heap.objs.size<=g.objs.size:=Zh<|qi (jy _ _)<|ZP S.zip;refine Tu (xs:=R) (ys:=J) (vs:=G) (kvs:=kvs) n hc D (by omega) (by omega) (by omega) (by rw[l];exact nd) (λi h1 h2=>?_) j d gz (λb hb=>?_) S (A.keep2 λo e=>d _ _ e) (F.keep2 λo e=>d _ _ e) q
 .have ik:i<kvs.length:=by omega
  have v:i<G.length:=by omega
  have e3:G[i].2=J[i]:=by
   have:(G.map (·.2))[i]?=J[i]?:=by rw[e2]
   rw[ZH,ZD v,ZD h2]at this;exact ZT this
  have e4:G[i].1=kvs[i].1:=by
   have:(G.map (·.1))[i]?=(kvs.map (·.1))[i]?:=by rw[l]
   rw[ZH,ZH,ZD v,ZD ik]at this;exact ZT this
  refine⟨G[i].1,by rw[ZD v,<-e3],?_⟩;obtain⟨u,hu,P⟩:=N.get (show(kvs.map λkv=>kV kv.1)[i]?=some (kV kvs[i].1) by rw[ZH,ZD ik];rfl);rw[ZD h1]at hu;cases hu;rw[e4];exact XA P
 .have z:b=L.heap.objs.size+4\/b=L.heap.objs.size+3\/b=L.heap.objs.size\/b=L.heap.objs.size+1:=by simpa using hb
  rcases z with z|z|z|z <;> rw[z] <;> first|exact ZG _|exact jy _ _
end L2
namespace L2
open PySem
def nmD(ns:pX)(vs:xg):xf:=(ns.zip vs).map λx=>(Sum.inr x.1,x.2)
theorem NR:∀{ns:pX}{vs:xg},ns.length=vs.length->(nmD ns vs).map (λL=>kV L.1)=ns.map V.str/\(nmD ns vs).map (·.2)=vs/\(nmD ns vs).map (·.1)=ns.map Sum.inr
 |[],[],_=>⟨rfl,rfl,rfl⟩
 |[],_::_,h=>by simp at h
 |_::_,[],h=>by simp at h
 |n::ns,v::vs,h=>by
  obtain⟨G,J,Z⟩:=NR (ns:=ns) (vs:=vs) (by simpa using h);unfold nmD at G J Z |-;exists ?_,?_
  .rw [qk,ZV,ZV,G];rfl
  .rw [qk,ZV,ZV,J]
  .rw [qk,ZV,ZV,Z];rfl
end L2
namespace K4
open PySem L2
section
variable{C CK:Addr}
def LD:List.Nodup [("name":Str),"kind"]:=by decide +kernel
def Cf:Yh ["book","f","things","names"] ["book","f","things"] (Yd BY):=Y2
inductive SNd(C CK:Addr)(H:Hp)(Q:VK):List V->Prop
 |mk (t tl:Addr) (us:List V) (ks:List (Str×Shp)) (d:Str->Nat) (ds:List Dd) (x:Dd) (bi:BI H C CK t ks d ds) (hx:x∈ds) (ht:H tl=some (.lst us)) (ln:us.length=x.1.2.1.length) (l3:x.1.2.1.length<=3) (nd:(x.1.2.1.map (·.1)).Nodup)
  (q:∀l H',Same H H'->H l=none->H' l=some (.dK (nmD (x.1.2.1.map (·.1)) us))->Q (.ref l) H'):SNd C CK H Q [.ref t,.str x.1.1,.ref tl]
def IW(C CK:Addr):Sp:=λZ H Q _=>SNd C CK H Q Z
def C8(B:Blt S)(TB:BCl K C)(F:Fun K "named" "named" BY f fd)(m:VM K C "parameters" g)(G:Ye P w K S base CX0 n g gd ["self","F"] (Gn C CK))(bG:Binds K gd ["self","F"] []):Ye P w K S base CX0 (n+1) f fd ["book","f","things"] (IW C CK):=by
 refine F.oi Cf λJ2 A M s H vs Q E hr h=>?_;obtain⟨t,k,us,o,d,ds,x,z,hx,ht,ln,l3,c,q⟩:=h;refine⟨_,YY (EM (i0:=3) ["name","kind"] [] Cf.nd Y (Or.inl Y) (UH<|Y5 (pv 0) TB.cl m G hr bG .nil Y3<|pa1<|pv 1) TR (λcl C j s H=>VU (n:=2) rfl (Yk (Yl 0 LD rfl (Or.inl rfl) (Or.inr rfl))<|Yk (Yl 1 LD rfl (Or.inl rfl) (Or.inr rfl)) VJ)) (λcl C j s H=>pv 0))
  (YZ<|Yj<|PU rfl rfl B.dict rfl B.zip (pa2 (pv 3)<|pv 2)),?_⟩
 dsimp only[Vb,Cx.nox,Cx.wish];show let T0:=_;Yn _ T0 _ _ _
 intros
 obtain⟨A',kv,rfl,b'⟩:=id z;refine⟨_,_,b'.ins,zq _,A'.t,o,d,ds,x,Y,z,hx,λv U=>?_⟩;unfold psD at U;obtain⟨a,xs,rfl,X,hu⟩:=Yr U;exists ⟨_,Z2 X⟩;refine OE (us:=x.1.2.1) (D:=λp=>.tup [.str p.1,.str p.2]) (E:=λp=>.str p.1) (itt<|Z2 X) hu (by omega) (λu y R hm i hR=>?_) λvs p H1 j L hp N=>?_
 .obtain ⟨t,ys,rfl,h2,Z⟩:=Yr i
  obtain⟨x1,r1,rfl,I,T⟩:=Yc Z;obtain⟨x2,r2,rfl,J,O⟩:=Yc T;obtain rfl:=VB O;obtain rfl:=has_str I;obtain rfl:=has_str J;exact⟨_,Z2 h2,Y,hR _ Yy⟩
 have e:=WR (by rw[jk];exact N:HasL H1 vs ((x.1.2.1.map (·.1)).map Dat.str));subst e;obtain⟨I,J,e3⟩:=NR (ns:=x.1.2.1.map (·.1)) (vs:=us) (by rw[ZA];omega);have r:(nmD (x.1.2.1.map (·.1)) us).length=us.length:=by rw[<-ZA (f:=(·.2)),J]
 refine⟨p,k,false,false,nmD (x.1.2.1.map (·.1)) us,Y,?_,?_,by omega,?_,λl Z=>?_⟩
 .rw [I];exact Z3 hp
 .rw [J];exact Z3<|L _ _ ht
 .rw [e3]
  exact c.map (f:=Sum.inr) λa b h e=>h<|Sum.inr.inj e
 .exact q l _ (L.trans<|Yv Z _) (L.free Z) Yf
end
end K4
namespace L2
open PySem
@[elab_as_elim] theorem fld_in {motive:Hp->Prop}(x:Addr) (o:HO) (k:∀H',SameB x H H'->H' x=some o->motive H'):motive (upd H x o):=k _ (λb u n h=>by rw[Yg n];exact h) Yf
def Um(J:Z x=none)(s:Same Z H)(b:SameB x H G):Same Z G:=λa o h=>b a o (Yb h J)<|s a o h
mutual
def Dat.ti:Dat->Bool
 |.tup ds=>Dat.tis ds
 |.lst _=>false
 |_=>true
def Dat.tis:List Dat->Bool
 |[]=>true
 |d::ds=>d.ti && Dat.tis ds
end
mutual
theorem VL{H Z:Hp}(b:TK H Z):∀(d:Dat){v:V},d.ti=true->Has H v d->Has Z v d
 |.str _,_,_,h=>by unfold Has at h |-;exact h
 |.non,_,_,h=>by unfold Has at h |-;exact h
 |.tup ds,_,t,h=>by
  unfold Has at h |-;obtain⟨a,J,M,L,G⟩:=h;unfold Dat.ti at t;exact⟨a,J,M,b _ _ L,VS b ds t G⟩
 |.bl _,_,_,h=>by unfold Has at h |-;exact h
 |.int _,_,_,h=>by unfold Has at h |-;exact h
 |.lst _,_,t,_=>by unfold Dat.ti at t;cases t
theorem VS{H L:Hp}(b:TK H L):∀(Z:xo){J:xg},Dat.tis Z=true->HasL H J Z->HasL L J Z
 |[],[],_,h=>Z6
 |[],_::_,_,h=>by unfold HasL at h;exact h.elim
 |_::_,[],_,h=>by unfold HasL at h;exact h.elim
 |d::Z,x::J,t,h=>by
  unfold HasL at h;unfold Dat.tis at t;have G:=Bool.and_eq_true_iff.mp t;exact Z4 (VL b d G.1 h.1)<|VS b Z G.2 h.2
end
theorem XG:∀{Z:xo},(∀d∈Z,d.ti=true)->Dat.tis Z=true
 |[],_=>by unfold Dat.tis;rfl
 |d::Z,h=>by unfold Dat.tis;rw[h d Za,XG λe J=>h e (ZM _ J)];rfl
def Ri(Z:pZ):(Jr Z).ti=true:=by
 unfold Jr Dat.ti;exact XG λd hd=>by obtain⟨k,_,rfl⟩:=ZW.mp hd;unfold Dat.ti;rfl
def Lo(i:Nat)(Z:pZ):(TU i Z).ti=true:=by
 unfold TU;simp[Dat.ti,Dat.tis,Ri]
def P8(n:Nat):Dat.tis ((List.range n).map λi=>TU i [])=true:=XG λd hd=>by obtain⟨k,_,rfl⟩:=ZW.mp hd;exact Lo _ _
def Pw(h:H a=some (.tup [])):Has H (.ref a) (Jr []):=JW h
end L2
namespace K4
open PySem L2
section
variable{C CK CG:Addr}
def y0:Yh ["self","book","F","worths"] ["self","book","F","worths"] (Yd Ls):=Y2
def vN:List.Nodup [("i":Str)]:=by decide +kernel
end
end K4
namespace L2
open PySem PySem.Spec PyProof.Rows
def ve(K:W.Frag)(ta:TE)(f:Str):TG:=λv U H Q=>ta U H λx G=>∃a C J Z,x=.ref a/\G a=some (.ins C J Z)/\Cls K C/\VG K C f/\Z.length<1000/\Q U (upd G a<|.ins C J<|VT f v Z)
def Bu(L:PE X o ta):PG X (.Attribute o f pos) (ve X.K ta f):=by
 intro Z s U H v u Q I r h;rw[assign_Attribute];refine Zl<|wpAny_holding<|thn (L Z s U H _ I h) λG B ⟨x,F,R,J,a,C,E,D,M,N,c,n,l,q⟩=>?_;subst M;obtain rfl:G=Value.ref a:=J;refine Zl<|jZ<|Zl<|wpAny_holding<|Xf R N c n l r λT O=>?_;exact wpAny_release ⟨U,_,O,q⟩
structure OCl(K:W.Frag)(C:Addr):Prop where
 cl:Cls K C
 gr:VG K C "ground"
 nu:VG K C "number"
 f:VG K C "f"
 pl:VG K C "place"
 kn:VG K C "known"
 bd:VG K C "body"
 wt:VG K C "waiting"
mutual
theorem Bd.ti:∀b:Bd,b.dat.ti=true
 |.tag t=>by simp[Bd.dat,Dat.ti,Dat.tis]
 |.name x=>by simp[Bd.dat,Dat.ti,Dat.tis]
 |.pair a b=>by simp[Bd.dat,Dat.ti,Dat.tis,Bd.ti a,Bd.ti b]
 |.one e=>by simp[Bd.dat,Dat.ti,Dat.tis,Bd.ti e]
 |.other e=>by simp[Bd.dat,Dat.ti,Dat.tis,Bd.ti e]
 |.choose e Z J=>by simp[Bd.dat,Dat.ti,Dat.tis,Bd.ti e,Bd.tib J Z]
 |.ask f G=>by simp[Bd.dat,Dat.ti,Dat.tis,Bd.tis G]
 |.letb x k e b=>by simp[Bd.dat,Dat.ti,Dat.tis,Bd.ti e,Bd.ti b]
theorem Bd.tis:∀Z:List Bd,Dat.tis (Bd.dats Z)=true
 |[]=>by simp[Bd.dats,Dat.tis]
 |b::Z=>by simp[Bd.dats,Dat.tis,Bd.ti b,Bd.tis Z]
theorem Bd.tib:∀(Z:List Bd)(J:pX),Dat.tis (Bd.brs Z J)=true
 |[],J=>by unfold Bd.brs;simp[Dat.tis]
 |b::Z,[]=>by simp[Bd.brs,Dat.tis,Dat.ti,Bd.ti b,Bd.tib Z []]
 |b::Z,t::J=>by simp[Bd.brs,Dat.tis,Dat.ti,Bd.ti b,Bd.tib Z J]
end
end L2
namespace K4
open PySem L2
section
variable{C CK CG CO:Addr}
def yu:Yh ["self","ground","number"] ["self","ground","number"] (Yd K6):=Y2
def vb(A:BA):(UU A).lookup ("body_of":Str)=none:=rfl
end
end K4
namespace L2
open PySem
def JS(s:SameB l H J)(Z:H l=some (.lst G)):TK H J:=λb L h=>s _ _ (λz=>by rw[z,Z]at h;cases h) h
end L2
namespace K4
open PySem L2
section
variable{C CK CG CO:Addr}
def y6:Yh ["self","thing"] ["self","thing"] (Yd Xm):=Y2
end
section
variable{C CK CG CO:Addr}
def Co:Yh ["self","place","known","body"] ["self","place","known"] (Yd Wo):=Y2
def at0{v:V}{r:xg}:atI (v::r) 0=some v:=VE (j:=0) rfl
def at1{u v:V}{r:xg}:atI (u::v::r) 1=some v:=VE (j:=1) rfl
def at2{u v z:V}{r:xg}:atI (u::v::z::r) 2=some z:=VE (j:=2) rfl
def Rt{a b:Str}(h:a≠b):¬decide (V.str a=V.str b)=true:=λz=>h (by have:=Zt z;injection this)
end
end K4
namespace L2
open PySem
theorem OJ:∀{bs:List Bd}{ts:pX}{k:Nat}{d:Dat},(Bd.brs bs ts)[k]?=some d->∃t b,ts[k]?=some t/\d=.tup [.str t,Bd.dat b]
 |[],_,k,d,h=>by unfold Bd.brs at h;simp at h
 |_::_,[],k,d,h=>by unfold Bd.brs at h;simp at h
 |b::bs,t::ts,0,d,h=>by unfold Bd.brs at h;cases h;exact⟨t,b,Y,Y⟩
 |b::bs,t::ts,k+1,d,h=>by unfold Bd.brs at h;exact OJ (bs:=bs) (ts:=ts) h
end L2
namespace K4
open PySem L2
section
variable{C CK CG CO:Addr}
def BR:Yh ["self","head","body","place","known","number","tag","branch"] ["self","head"] (Yd Wn):=Y2
def tagD(t:Str):Dat:=.tup [.str "tag",.str t]
end
section
variable{C CK CG CO:Addr}
def EI:Yh ["self","state"] ["self","state"] (Yd K7):=Y2
def Cq:Yh ["self"] ["self"] (Yd B5):=Y2
end
end K4
namespace L2
open PySem
theorem Bd.at_snoc:∀(Z:pZ){b c e:Bd}{k:Int},b.at Z=some c->0<=k->c.parts[k.toNat]?=some e->b.at (Z++[k])=some e
 |[],b,c,e,k,h,hk,hp=>by
  unfold Bd.at at h;cases h;rw[List.nil_append];unfold Bd.at;rw[Zp hk,hp];show Bd.at e []=some e;unfold Bd.at
  rfl
 |i::r,b,c,e,k,h,hk,hp=>by
  rw[List.cons_append];unfold Bd.at at h |-
  by_cases h0:0<=i
  .rw [Zp h0]at h |-
   cases hb:b.parts[i.toNat]? with
   |none=>rw[hb]at h;cases h
   |some J=>
    rw[hb]at h;exact Bd.at_snoc r h hk hp
  .rw [Zq h0]at h;cases h
end L2
namespace L2
open PySem PySem.Spec PyProof.Rows
abbrev WN:=Option Key
def Xa:WN->Value->Prop
 |some k,v=>V1 k v=true
 |none,v=>v=.none
def Lg(w:World):WN->Int
 |some k=>zf w k
 |none=>4238894112
def DK:Nat->Type
 |0=>WN
 |n+1=>Sum WN<|List<|DK n
def DK.dec:(n:Nat)->DecidableEq (DK n)
 |0=>inferInstanceAs<|DecidableEq<|Option Key
 |n+1=>have:=DK.dec n;inferInstanceAs (DecidableEq<|Sum WN<|List<|DK n)
instance (n:Nat):DecidableEq (DK n):=DK.dec n
def isQ(h:Heap):(n:Nat)->DK n->Value->Prop
 |0,k,v=>Xa k v
 |_+1,.inl k,v=>Xa k v
 |n+1,.inr ks,v=>∃(a:Addr)(o:Obj)(items:xc)(m:Nat),v=.ref a/\h.get? a=some o/\o.cls=.type "tuple" /\o.data=.seq items m/\Paired (isQ h n) ks items.toList
def X6(w:World):(n:Nat)->DK n->Int
 |0,k=>Lg w k
 |_+1,.inl k=>Lg w k
 |n+1,.inr ks=>reduceHash<|Builtin.Tuple.tupleHashOf<|ks.map<|X6 w n
def Th:(n:Nat)->DK n->Nat
 |0,_=>1
 |_+1,.inl _=>1
 |n+1,.inr ks=>(ks.map<|Th n).sum+1
section
variable{prog:Program}{w:World}
def Le{A:Around}{E:pV}{s:Shared}{Q:Int->Shared->Prop}(h:Q 4238894112 {s with toks:=s.toks+1}):wpAny (model prog w) A (pyHash .none) Q E s:=by
 have Z:s.TypeIs .none "NoneType":=typeIs_none s;unfold pyHash
 first|unfold pyHashByItsType|skip
 have J:[Value.none].any Value.onHeap=false:=rfl;refine Zl ?_;rw[cRoomFor,Zq (by rw[J];exact Zi)];refine Zm ?_;refine Zl<|qB Z PySem.F.slot_NoneType_hash.lookup ?_;show wpAny _ _ (if(some (Value.builtin "NoneType.__hash__")==some Value.none)=true then _ else _) Q E s;rw[Zq (by rw[beq_builtin_none];exact Zi)];refine Zl<|qB Z PySem.F.slot_NoneType_hash.lookup ?_;show wpAny _ _ (callSpecialIfBoundUnlessNone? .none "__hash__" _ >>=_) Q E s;refine Zl (wpAny_callSpecialIfBoundUnlessNone?_slot Z PySem.F.slot_NoneType_hash
  (jA PySem.F.slot_NoneType_hash Z PySem.F.entry_NoneType_hash
   (show wpAny _ _ (do ret (<-mkInt 4238894112)) _ _ s from wpAny_ret_mkInt ?_) (PySem.F.args_NoneType_hash_1 _)))
 show wpAny _ _ (if(decide (-(2:Int) ^ 63<=4238894112) && decide ((4238894112:Int)<2 ^ 63))=true then _ else _) Q E _;rw[Zp (by decide)];exact Zm h
theorem JF:∀{k:WN}{v:Value},Xa k v->(∃i t,k=some (Sum.inl i)/\v=Value.int i t)\/(∃x t,k=some (Sum.inr x)/\v=Value.str x t)\/(k=none/\v=Value.none)
 |some k,v,h=>by
  rcases VP (show V1 k v=true from h)with⟨i,t,rfl,rfl⟩|⟨x,t,rfl,rfl⟩
  .exact .inl ⟨i,t,rfl,rfl⟩
  .exact .inr (.inl ⟨x,t,rfl,rfl⟩)
 |none,v,h=>.inr<|.inr ⟨rfl,h⟩
def Nb{A:Around}{E:pV}{s:Shared}{k:WN}{v:Value}{Q:Int->Shared->Prop}(Z:Xa k v)(h:Q (Lg w k) {s with toks:=s.toks+1}):wpAny (model prog w) A (pyHash v) Q E s:=by
 cases k with
 |none=>cases(show v=Value.none from Z);exact Le h
 |some k=>exact(VA prog w).pyHash (show V1 k v=true from Z) h
def L0{A:Around}{E:pV}{s:Shared}{a b:WN}{u v:Value}{Q:Bool->Shared->Prop}(J:Xa a u)(Z:Xa b v)(h:Q (decide<|a=b) s):wpAny (model prog w) A (eqBool u v) Q E s:=by
 cases a with
 |none=>
  cases(show u=Value.none from J)
  cases b with
  |none=>
   cases(show v=Value.none from Z);rw[decide_eq_true rfl]at h;exact SeqAt.EqAt.same _ _ _ _ _ h
  |some b=>
   rw[Zy (λz=>nomatch z)]at h;rcases JF Z with⟨i,t,_,rfl⟩|⟨x,t,_,rfl⟩|⟨e,_⟩
   .exact SeqAt.EqAt.none_int i t _ _ _ _ h
   .exact SeqAt.EqAt.none_str x t _ _ _ _ h
   .cases e
 |some a=>
  cases b with
  |none=>
   cases(show v=Value.none from Z);rw[Zy (λz=>nomatch z)]at h;rcases JF J with⟨i,t,_,rfl⟩|⟨x,t,_,rfl⟩|⟨e,_⟩
   .exact SeqAt.EqAt.int_none i t _ _ _ _ h
   .exact SeqAt.EqAt.str_none x t _ _ _ _ h
   .cases e
  |some b=>
   refine(VA prog w).eqBool (show V1 a u=true from J) (show V1 b v=true from Z) ?_;have:decide (a=b)=decide (some a=some b):=by simp
   rw[this];exact h
def EZ{a b:WN}{v:Value}(G:Xa a v)(J:Xa b v):a=b:=by
 rcases JF G with⟨i,t,rfl,rfl⟩|⟨x,t,rfl,rfl⟩|⟨rfl,rfl⟩ <;> rcases JF J with⟨j,u,rfl,e⟩|⟨y,u,rfl,e⟩|⟨rfl,e⟩
 .injection e with Z _;rw[Z]
 .exact nomatch e
 .exact nomatch e
 .exact nomatch e
 .injection e with Z _;rw[Z]
 .exact nomatch e
 .exact nomatch e
 .exact nomatch e
 .rfl
def EY{k:WN}{a:Addr}(h:Xa k (.ref a)):False:=by
 rcases JF h with⟨i,t,_,e⟩|⟨x,t,_,e⟩|⟨_,e⟩ <;> exact nomatch e
theorem Me{h:Heap}:∀{n:Nat}{x y:DK n}{v:Value},isQ h n x v->isQ h n y v->x=y
 |0,_,_,_,hx,hy=>EZ hx hy
 |_+1,.inl _,.inl _,_,hx,hy=>congrArg Sum.inl<|EZ hx hy
 |_+1,.inl _,.inr _,_,hx,⟨a,_,_,_,e,_⟩=>by subst e;exact(EY hx).elim
 |_+1,.inr _,.inl _,_,⟨a,_,_,_,e,_⟩,hy=>by subst e;exact(EY hy).elim
 |n+1,.inr xs,.inr ys,v,⟨a,o,it,m,e,ho,_,hd,hp⟩,⟨a',o',it',m',e',ho',_,hd',hp'⟩=>by
  subst e;cases e';rw[ho]at ho';cases ho';rw[hd]at hd';injection hd' with G _;subst G;refine congrArg Sum.inr ?_;generalize it.toList=vs at hp hp';clear hd ho
  induction hp generalizing ys with
  |nil=>cases hp';rfl
  |cons r t ih=>
   cases hp' with
   |cons J Z=>rw[Me r J,ih _ Z]
theorem RL{h L:Heap}{d:Addr}{o:Obj}{M:Array DictEntry}{N:Nat}(Z:h.get? d=some o)(hd:o.data=.dict M N)(G:Heap.SameBut d h L):∀{n:Nat}{k:DK n}{v:Value},isQ h n k v->isQ L n k v
 |0,_,_,hx=>hx
 |_+1,.inl _,_,hx=>hx
 |n+1,.inr ks,v,⟨a,oa,it,m,e,ha,hc,hda,hp⟩=>by
  have J:a≠d:=by
   rintro rfl;rw[ha]at Z;cases Z;rw[hd]at hda;exact nomatch hda
  exact⟨a,oa,it,m,e,(G.2 a J).trans ha,hc,hda,Paired.mapP hp λ_ _ z=>RL Z hd G z⟩
theorem Lf:∀{n:Nat}{k:DK n}{A:Around}{E:pV}{s:Shared}{v:Value}{Q:Int->Shared->Prop},A.units+n<=cLine->isQ s.heap n k v->Q (X6 w n k) {s with toks:=s.toks+Th n k}->wpAny (model prog w) A (pyHash v) Q E s
 |0,_,_,_,_,_,_,_,hk,h=>Nb hk h
 |_+1,.inl _,_,_,_,_,_,_,hk,h=>Nb hk h
 |n+1,.inr ks,A,E,s,v,Q,hu,⟨a,o,items,m,e,ho,hc,hd,hi⟩,h=>by
  subst e;have G:s.TypeIs (.ref a) "tuple":=⟨o,ho,hc⟩;unfold pyHash
  first|unfold pyHashByItsType|skip
  first|refine Zl (wpAny_cRoomFor_or (.inr<|by omega) ?_)|skip
  refine Zl<|qB G PySem.F.slot_tuple_hash.lookup ?_;show wpAny _ _ (if(some (Value.builtin "tuple.__hash__")==some Value.none)=true then _ else _) Q E s;rw[Zq (by rw[beq_builtin_none];exact Zi)];refine Zl<|qB G PySem.F.slot_tuple_hash.lookup ?_;show wpAny _ _ (callSpecialIfBoundUnlessNone? (.ref a) "__hash__" _ >>=_) Q E s;refine Zl<|wpAny_callSpecialIfBoundUnlessNone?_slot G PySem.F.slot_tuple_hash<|jA PySem.F.slot_tuple_hash G PySem.F.entry_tuple_hash ?_<|PySem.F.args_tuple_hash_1 _;show wpAny _ _ (Builtin.Tuple.tupleItemsOf (.ref a) >>=_) _ _ s;refine Zl<|wpAny_tupleItemsOf ho hd ?_;refine Zl ?_;rw[<-qT];refine wpAny_forIn_list _
   (λrest (b:Array Int) L=>∃done left,ks=done++ left/\Paired (isQ s.heap n) left rest/\b.toList=done.map (X6 w n)/\L={s with toks:=s.toks+(done.map<|Th n).sum})
   _ ?_ ?_ _ _ ⟨[],ks,rfl,hi,rfl,rfl⟩
  .rintro x rest b L ⟨done,left,rfl,hl,hb,rfl⟩
   cases hl with
   | @cons k _ Z _ M J=>
    refine Zl (Lf (n:=n) (k:=k) (by show A.units+1+n<=cLine;omega) M ?_)
    first
     |exact Zm ⟨done++[k],Z,by simp,J,by simp[hb],by simp[ky]⟩
     |exact Zl<|Zm<|Zm ⟨done++[k],Z,by simp,J,by simp[hb],by simp[ky]⟩
  .rintro b L ⟨done,left,rfl,hl,hb,rfl⟩
   cases hl;rw[jL]at h;show wpAny _ _ (retInt<|Builtin.Tuple.tupleHashOf b.toList) _ _ _;rw[hb];refine wpAny_ret_mkInt ?_;show wpAny _ _ (if(decide (-(2:Int) ^ 63<=Builtin.Tuple.tupleHashOf (done.map<|X6 w n)) && decide (Builtin.Tuple.tupleHashOf (done.map<|X6 w n)<2 ^ 63))=true then _ else _) Q E _;replace h:Q (reduceHash<|Builtin.Tuple.tupleHashOf<|done.map<|X6 w n) {s with toks:=s.toks+((done.map<|Th n).sum+1)}:=h;unfold reduceHash at h
   by_cases hr:(decide (-(2:Int) ^ 63<=Builtin.Tuple.tupleHashOf (done.map<|X6 w n)) && decide (Builtin.Tuple.tupleHashOf (done.map<|X6 w n)<2 ^ 63))=true
   .rw [Zp hr]
    rw[Zp hr]at h;exact Zm<|by simpa[ky]using h
   .rw [Zq hr]
    rw[Zq hr]at h;exact Zl<|qe<|Zm<|by simpa[ky]using h
theorem EK:∀{n m:Nat}{k:DK n}{A:Around}{E:pV}{s:Shared}{v:Value}{Q:Bool->Shared->Prop},n<=m->isQ s.heap n k v->Q true s->wpAny (model prog w) A (eqIsQuiet m v) Q E s
 |0,m,_,_,_,_,v,_,_,hk,h=>by
  rw[eqIsQuiet_byValue m (by rcases JF hk with⟨i,t,_,rfl⟩|⟨x,t,_,rfl⟩|⟨_,rfl⟩ <;> rfl)];exact Zm h
 |_+1,m,.inl _,_,_,_,v,_,_,hk,h=>by
  rw[eqIsQuiet_byValue m (by rcases JF hk with⟨i,t,_,rfl⟩|⟨x,t,_,rfl⟩|⟨_,rfl⟩ <;> rfl)];exact Zm h
 |n+1,0,.inr _,_,_,_,_,_,hm,_,_=>Zr hm<|Nat.not_succ_le_zero _
 |n+1,m+1,.inr ks,A,E,s,v,Q,hm,⟨a,o,items,c,e,ho,hc,hd,hi⟩,h=>by
  subst e;have L:s.TypeIs (.ref a) "tuple":=⟨o,ho,hc⟩;unfold eqIsQuiet;refine Zl<|qB L PySem.F.slot_tuple_eq.lookup ?_;show wpAny _ _ (isInstance (.ref a) (.type "tuple") >>=_) _ _ s;refine Zl<|qP L isSubtype_tuple_tuple ?_;simp only[pF,j0,if_false];refine Zl<|jC ho hd ?_;refine Zl ?_;show wpAny _ _ (forIn items _ _) _ _ s;rw[<-qT];refine wpAny_forIn_list _ (λrest r Z=>r.1=none/\Z=s/\∃left,Paired (isQ s.heap n) left rest) _ ?_ ?_ _ _ ⟨Y,Y,ks,hi⟩
  .rintro v rest r Z ⟨hr,rfl,left,hl⟩
   cases hl with
   | @cons k _ J _ M G=>
    refine Zl<|EK (n:=n) (m:=m) (k:=k) (Nat.le_of_succ_le_succ hm) M ?_;simp only[pF,j0,if_false];exact Zm ⟨Y,Y,J,G⟩
  .rintro ⟨r1,r2⟩ Z ⟨hr,rfl,_⟩
   simp only at hr;subst hr;exact Zm h
theorem yC:∀{n:Nat}{x y:DK n}{A:Around}{E:pV}{s:Shared}{u v:Value}{Q:Bool->Shared->Prop}{r:Bool},A.units+n<=cLine->isQ s.heap n x u->isQ s.heap n y v->(r=true↔x=y)->Q r s->wpAny (model prog w) A (eqBool u v) Q E s
 |0,x,y,_,_,_,_,_,_,r,_,hx,hy,Z,h=>by
  have P:∀(x y:WN),(r=true↔x=y)->decide (x=y)=r:=λx y Z=>by
   cases r with
   |true=>exact decide_eq_true<|Z.mp rfl
   |false=>exact Zy λz=>Zi<|Z.mpr z
  refine L0 hx hy ?_;rw[P x y Z];exact h
 |n+1,.inl x,.inl y,_,_,_,_,_,_,r,_,hx,hy,Z,h=>by
  refine L0 hx hy ?_
  have e:decide (x=y)=r:=by
   cases r with
   |true=>exact decide_eq_true<|Sum.inl.inj<|Z.mp rfl
   |false=>exact Zy λz=>Zi<|Z.mpr<|congrArg Sum.inl z
  rw[e];exact h
 |n+1,.inl x,.inr ys,A,E,s,u,v,Q,r,hu,hx,⟨a,o,it,m,e,ho,hc,hd,_⟩,Z,h=>by
  subst e;have F:r=false:=pM.mpr λz=>nomatch Z.mp z
  subst F;have L:s.heap.IsTuple a it:=⟨o,ho,hc,m,hd⟩;rcases JF hx with⟨i,t,_,rfl⟩|⟨z,t,_,rfl⟩|⟨_,rfl⟩
  .exact SeqAt.EqAt.int_tuple i t L (by omega) _ _ _ _ h
  .exact SeqAt.EqAt.str_tuple z t L (by omega) _ _ _ _ h
  .exact SeqAt.EqAt.none_tuple L (by omega) _ _ _ _ h
 |n+1,.inr xs,.inl y,A,E,s,u,v,Q,r,hu,⟨a,o,it,m,e,ho,hc,hd,_⟩,hy,Z,h=>by
  subst e;have F:r=false:=pM.mpr λz=>nomatch Z.mp z
  subst F;have L:s.heap.IsTuple a it:=⟨o,ho,hc,m,hd⟩;rcases JF hy with⟨i,t,_,rfl⟩|⟨z,t,_,rfl⟩|⟨_,rfl⟩
  .exact SeqAt.EqAt.tuple_int i t L (by omega) _ _ _ _ h
  .exact SeqAt.EqAt.tuple_str z t L (by omega) _ _ _ _ h
  .exact SeqAt.EqAt.tuple_none L (by omega) _ _ _ _ h
 |n+1,.inr x,.inr y,A,E,s,u,v,Q,r,hu,⟨a,oa,xs,na,e,hoa,hca,hda,hia⟩,⟨b,ob,ys,nb,e',hob,hcb,hdb,hib⟩,hr0,h=>by
  subst e;subst e';have S:s.TypeIs (.ref a) "tuple":=⟨oa,hoa,hca⟩;have I:s.TypeIs (.ref b) "tuple":=⟨ob,hob,hcb⟩
  have c:r=decide (x=y):=by
   cases r with
   |true=>exact(decide_eq_true<|Sum.inr.inj<|hr0.mp rfl).symm
   |false=>exact(Zy λz=>Zi<|hr0.mpr<|congrArg Sum.inr z).symm
  subst c;unfold eqBool
  try with_reducible refine wpAny_holding ?_
  show wpAny _ _ (if(Value.ref a==Value.ref b)=true then _ else _) Q E s
  by_cases hab:(Value.ref a==Value.ref b)=true
  .rw [Zp hab]
   have e:a=b:=by have:=eq_of_beq hab;injection this
   subst e;have q:(Sum.inr x:DK (n+1))=Sum.inr y:=Me (h:=s.heap) (n:=n+1) (v:=.ref a) ⟨a,oa,xs,na,rfl,hoa,hca,hda,hia⟩ ⟨a,ob,ys,nb,rfl,hob,hcb,hdb,hib⟩;rw[decide_eq_true (Sum.inr.inj q)]at h;exact Zl<|qe<|Zm h
  .rw [Zq hab]
   refine Zl (wpAny_richCompare_same_room (op:=.Eq) S I PySem.F.slot_tuple_eq
    (jA PySem.F.slot_tuple_eq S PySem.F.entry_tuple_eq ?_<|PySem.F.args_tuple_eq_2 _ _) (by omega))
   show wpAny _ _ (isInstance (.ref b) (.type "tuple") >>=_) _ _ s;refine Zl<|qP I isSubtype_tuple_tuple ?_;simp only[pF,j0,if_false];refine Zl<|wpAny_tupleItemsOf hoa hda ?_;refine Zl<|wpAny_tupleItemsOf hob hdb ?_;refine Zl ?_;refine wpAny_forIn_list _
    (λrest r X=>r.1=none/\X=s/\∃C U G J,rest=List.zip G J/\Paired (isQ s.heap n) C G/\Paired (isQ s.heap n) U J/\decide (C=U)=decide (x=y)/\(G.length==J.length)=(xs.size==ys.size))
    _ ?_ ?_ _ _ ⟨rfl,rfl,x,y,xs.toList,ys.toList,rfl,hia,hib,rfl,by simp⟩
   .rintro ⟨u,v⟩ rest r X ⟨Z,rfl,C,U,G,J,hz,hx',hy',hdec,hlen⟩
    cases hx' with
    |nil=>simp at hz
    | @cons g f R O p B=>
     cases hy' with
     |nil=>simp at hz
     | @cons j d N M k T=>
      simp only[qk,List.cons.injEq,Prod.mk.injEq]at hz;obtain⟨⟨rfl,rfl⟩,rfl⟩:=hz;refine Zl<|yC (n:=n) (x:=g) (y:=j) (r:=decide<|g=j) (by show A.units+1+n<=cLine;omega) p k decide_eq_true_iff ?_
      by_cases hk:g=j
      .subst hk
       rw[decide_eq_true rfl];simp only[pF,j0,if_false];refine Zm ⟨Y,Y,R,N,O,M,Y,B,T,?_,by simpa using hlen⟩;rw[<-hdec]
       by_cases hxy:R=N
       .simp [hxy]
       .simp [hxy]
      .rw [Zy hk]
       simp only[Bool.not_false,if_true];have F:decide (x=y)=false:=by rw[<-hdec];simp[hk]
       rw[F]at h;exact Zl<|Zm<|Zm<|Zm ⟨_,rfl,(λe=>nomatch e),jz h⟩
   .rintro ⟨r1,r2⟩ X ⟨Z,rfl,C,U,G,J,hz,hx',hy',hdec,hlen⟩
    simp only at Z;subst Z;refine Zm ?_
    have D:(xs.size==ys.size)=decide (x=y):=by
     rw[<-hdec,<-hlen]
     cases hx' with
     |nil=>
      cases hy' with
      |nil=>simp
      |cons _ _=>simp
     |cons _ _=>
      cases hy' with
      |nil=>simp
      |cons _ _=>simp at hz
    rw[<-D]at h;exact⟨_,Y,(λe=>nomatch e),jz h⟩
def WI(prog:Program)(w:World)(n:Nat)(hn:n+1<=8):HeapKind prog w (List<|DK n) where
 is:=λh Z a=>isQ h (n+1) (.inr Z) (.ref a)
 hash:=λZ=>X6 w (n+1) (.inr Z)
 draws:=λZ=>Th (n+1) (.inr Z)
 room:=λA=>A.units+(n+1)<=cLine
 inj:=λG J=>Sum.inr.inj (Me G J)
 keeps:=λx O hd N=>RL O hd N x
 pyHash:=λL M h=>Lf L M h
 eqBool:=λ{A E s x y a b Q} L G J h=>yC (r:=decide<|x=y) L G J ⟨λz=>congrArg Sum.inr<|Zt z,λz=>decide_eq_true<|Sum.inr.inj z⟩ h
 quiet:=λM h=>EK hn M h
end
def knD:WN->Dat
 |none=>.non
 |some (.inl i)=>.int i
 |some (.inr x)=>.str x
def dkD:(n:Nat)->DK n->Dat
 |0,k=>knD k
 |_+1,.inl k=>knD k
 |n+1,.inr ks=>.tup<|ks.map<|dkD n
theorem LP{x:V}{v:Value}:∀{k:WN},Has H x (knD k)->RelV x v->Xa k v
 |none,h,r=>by
  unfold knD Has at h;subst h;exact(show v=Value.none from r)
 |some (.inl i),h,r=>by
  unfold knD Has at h;subst h;obtain⟨t,e⟩:=(show ∃t,v=Value.int i t from r);subst e;exact RJ i t
 |some (.inr z),h,r=>by
  unfold knD Has at h;subst h;obtain⟨t,e⟩:=(show ∃t,v=Value.str z t from r);subst e;exact Wu z t
theorem TN(M:HOk P w H h):∀{n:Nat}{k:DK n}{x:V}{v:Value},Has H x (dkD n k)->RelV x v->isQ h n k v
 |0,_,_,_,hk,r=>LP hk r
 |_+1,.inl _,_,_,hk,r=>LP hk r
 |n+1,.inr J,x,v,hk,r=>by
  have L:Has H x (.tup<|J.map<|dkD n):=hk;unfold Has at L;obtain⟨a,T,rfl,O,Z⟩:=L;cases(show v=Value.ref a from r);obtain⟨R,G,B,o,N,_,E,m,hd⟩:=(show VQ P w H h a (.tup T)from M a _ O);clear R;exists a,o,G.toArray,m,Y,N,E,hd;show Paired (isQ h n) J G.toArray.toList;rw[List.toList_toArray];clear N hd O r hk
  induction B generalizing J with
  |nil=>
   cases J with
   |nil=>exact .nil
   |cons k J=>unfold List.map HasL at Z;exact Z.elim
  |cons D t ih=>
   cases J with
   |nil=>unfold List.map HasL at Z;exact Z.elim
   |cons k J=>
    rw[ZV]at Z;unfold HasL at Z;exact .cons (TN M Z.1 D)<|ih _ Z.2
abbrev DE(n:Nat):=List (DK n)×Addr×V
def keD{n:Nat}(k:List (DK n)):Dat:=.tup<|k.map<|dkD n
def KDp{n:Nat}(kvs:List (DE n))(xs:List (List (DK n)×Addr×Value)):Prop:=Paired (λ(p:DE n)(q:List (DK n)×Addr×Value)=>p.1=q.1/\p.2.1=q.2.1/\RelV p.2.2 q.2.2) kvs xs
def ddO(P:Program)(w:World)(n:Nat)(hn:n+1<=8)(a:Addr)(kvs:List (DE n)):HO:=.ext λh=>kvs.length<=sizeLine/\(a==sysModules)=false/\∃Z:List (List (DK n)×Addr×Value),KDp kvs Z/\
 ∃(o:Obj)(J:Array DictEntry)(G:Nat),h.get? a=some o/\o.ExactDict/\o.data=.dict J G/\J.toList=Z.map (entryOfKey<|WI P w n hn)/\(Z.map (·.1)).Nodup
def KOk{n:Nat}(H:Hp)(kvs:List (DE n)):Prop:=∀p∈kvs,Has H (.ref p.2.1)<|keD p.1
def Rk{n:Nat}(kvs:List (DE n))(k:List (DK n)):xm:=(kvs.find? λp=>decide<|p.1=k).map (·.2.2)
def putD{n:Nat}(kvs:List (DE n))(k:List (DK n))(b:Addr)(v:V):List (DE n):=if(Rk kvs k).isSome then kvs.map (λp=>if p.1=k then(p.1,p.2.1,v)else p)else kvs++[(k,b,v)]
def KDp.val{n:Nat}{Z:List (DE n)}{J}(r:KDp Z J)(k:List (DK n)):Ud (Rk Z k) ((atKey J k).map (·.2)):=by
 induction r with
 |nil=>exact True.intro
 | @cons p q N M h t ih=>
  obtain⟨G,O,L⟩:=h;unfold Rk atKey at ih |-;rw[jB,jB]
  by_cases e:p.1=k
  .rw [decide_eq_true e,decide_eq_true (G.symm.trans e)];exact L
  .rw [Zy e,Zy λz=>e (G.trans z)];exact ih
def KDp.put{n:Nat}{Z:List (DE n)}{J}(r:KDp Z J)(k:List (DK n))(b:Addr)(L:RelV y u):KDp (putD Z k b y) (storedH J k b u):=by
 have e:(Rk Z k).isSome=(atKey J k).isSome:=by
  rw[(r.val k).isSome_eq,qv]
 unfold putD storedH;rw[e]
 by_cases q:(atKey J k).isSome=true
 .rw [Zp q,Zp q]
  clear e q
  induction r with
  |nil=>exact .nil
  | @cons p q R O h t ih=>
   rw[ZV,ZV];refine .cons ?_ ih;obtain⟨G,M,N⟩:=h;unfold putAt
   by_cases e:p.1=k
   .rw [Zp e,Zp (G.symm.trans e)];exact⟨G,M,L⟩
   .rw [Zq e,Zq (λz=>e<|G.trans z)];exact⟨G,M,N⟩
 .rw [Zq q,Zq q];exact Paired.snoc r ⟨Y,Y,L⟩
def KL{n:Nat}(Z:List (DE n))(k:List (DK n))(b:Addr)(v:V):(putD Z k b v).length<=Z.length+1:=by
 unfold putD
 split
 .rw [ZA];exact qV _
 .rw [ZL];exact ZG _
def KOk.put{n:Nat}{Z:List (DE n)}{k:List (DK n)}{b:Addr}{v:V}(h:KOk H Z)(J:Has H (.ref b) (keD k)):KOk H (putD Z k b v):=λp m=>by
 unfold putD at m
 split at m
 .obtain ⟨q,hq,e⟩:=ZW.mp m
  subst e
  by_cases c:q.1=k
  .rw [Zp c];exact h q hq
  .rw [Zq c];exact h q hq
 .rcases ZX.mp m with m|m
  .exact h p m
  .rw [ZQ.mp m];exact J
section
variable{X:Cx}{n:Nat}{hn:n+1<=8}
def Ep{Z:List (DE n)}(L:HOk P w H h)(e:H a=some (ddO P w n hn a Z))(k:KOk H Z):Z.length<=sizeLine/\(a==sysModules)=false/\∃G,KDp Z G/\h.DictOfH (WI P w n hn) a G:=by
 obtain⟨⟨z,y,G,r,o,F,A,D,B,T,N,M⟩,O⟩:=(show VQ P w H h a (ddO P w n hn a Z)from L a _ e);refine⟨z,y,G,r,o,F,A,D,B,T,N,?_,M⟩;clear e N M O z
 induction r with
 |nil=>exact λx J=>nomatch J
 | @cons p q S I R t ih=>
  intro x J;rcases Zd.mp J with e|J
  .subst e
   obtain⟨E,g2,_⟩:=R;have:=k p Za;rw[E,g2]at this;exact TN (n:=n+1) (k:=.inr x.1) L this Y
  .exact ih (λp m=>k p<|ZM _ m) x J
def DGd(P:Program)(w:World)(n:Nat)(hn:n+1<=8)(H:Hp)(a:Addr)(y:V)(r:xm):Prop:=∃(Z:List (DE n))(k:List (DK n))(b:Addr),H a=some (ddO P w n hn a Z)/\KOk H Z/\y=.ref b/\Has H (.ref b) (keD k)/\r=Rk Z k
def DPd(P:Program)(w:World)(n:Nat)(hn:n+1<=8)(H:Hp)(a:Addr)(y v:V)(H':Hp):Prop:=∃(Z:List (DE n))(k:List (DK n))(b:Addr),H a=some (ddO P w n hn a Z)/\KOk H Z/\y=.ref b/\Has H (.ref b) (keD k)/\Z.length<sizeLine/\H'=upd H a (ddO P w n hn a<|putD Z k b v)
def Br{P:Program}{w:World}{A:Around}(Z:A.units+16<cLine):(WI P w n hn).room A.in1:=by
 show A.units+1+(n+1)<=cLine;omega
def Di(F:A.units+16<cLine)(I:Inv X Z U H s)(g:DGd X.prog X.w n hn H a y (some v))(R:RelV y u)(h:∀J N,Inv X Z U H N->RelV v J->Q J N):
  wpAny (model X.prog X.w) A (getItem (.ref a) u) Q E s:=by
 obtain⟨T,k,b,e,B,C,P,l⟩:=g;subst C;cases(show u=Value.ref b from R);obtain⟨z,hd,O,L,j⟩:=Ep I.hok e B;obtain⟨J,D,G⟩:=Ud.some_of (v:=v) (o:=(atKey O k).map (·.2)) (by rw[l];exact L.val k);obtain⟨p,S,M⟩:=Zj.mp D;refine wpAny_getItem_heap (Br F) (TN (n:=n+1) (k:=.inr k) I.hok P Y) j S ?_;rw[M];exact h J _ (I.tok _) G
def L9(O:A.units+16<cLine)(I:Inv X Z U H s)(g:DGd X.prog X.w n hn H a y o)(L:RelV y u)(h:∀G,Inv X Z U H G->Q (.bool<|!o.isSome) G):
  wpAny (model X.prog X.w) A (compareOp .NotIn u<|.ref a) Q E s:=by
 obtain⟨M,k,b,e,N,R,T,l⟩:=g;subst R;cases(show u=Value.ref b from L);obtain⟨z,hd,D,J,B⟩:=Ep I.hok e N;refine wpAny_notIn_heap (Br O) (TN (n:=n+1) (k:=.inr k) I.hok T Y) hd B ?_;have q:=(J.val k).isSome_eq;rw[qv]at q;rw[<-q,<-l];exact h _<|I.tok _
def Q0{Z:List (DE n)}{G}(z:Z.length<=sizeLine)(hd:(a==sysModules)=false)(r:KDp Z G)(d:h.DictOfH (WI P w n hn) a G):VQ P w H h a (ddO P w n hn a Z):=by
 obtain⟨o,C,Q,R,I,F,E,_,D⟩:=d;refine⟨⟨z,hd,G,r,o,C,Q,R,I,F,E,D⟩,⟨o,R⟩,λS A q k=>?_⟩;obtain⟨T,L,J,B,O,M,N,U,g⟩:=q;exact⟨T,L,J,B,O,M,N,k O U,g⟩
def Dh(D:A.units+16<cLine)(I:Inv X J U H s)(g:DPd X.prog X.w n hn H a y v p)(O:RelV y u)(R:RelV v r)(h:∀M,Inv X J U p M->Q () M):
  wpAny (model X.prog X.w) A (setItem (.ref a) u r) Q E s:=by
 obtain⟨G,k,b,e,T,P,j,l,t⟩:=g;subst P t;cases(show u=Value.ref b from O);obtain⟨z,hd,N,Z,m⟩:=Ep I.hok e T;have B:N.length<=sizeLine:=by rw[<-Paired.length Z];exact z
 have C:(putD G k b v).length<=sizeLine:=by have:=KL G k b v;omega
 refine wpAny_setItem_heap (hsz:=B) (Br D) (TN (n:=n+1) (k:=.inr k) I.hok j Y) m λc L F=>h _ ?_;exact Gf I (by rw[e];exact True.intro) F (let⟨q,_,_,S,_⟩:=L;⟨q,S⟩)<|Q0 C hd (Z.put k b R) L
def QK(I:Inv X Z U H s)(g:DGd X.prog X.w n hn H a y o):s.TypeIs (.ref a) "dict":=by
 obtain⟨J,k,b,e,G,_⟩:=g;obtain⟨_,_,M,_,L⟩:=Ep I.hok e G;exact L.typeIs
def SM(P:Program)(w:World)(n:Nat)(hn:n+1<=8)(td ty:TE):TE:=λU H Q=>td U H λx J=>ty U J λy Z=>JA x λa=>∃v,DGd P w n hn Z a y (some v)/\Q v Z
def IO(P:Program)(w:World)(n:Nat)(hn:n+1<=8)(ty td:TE):TE:=λU H Q=>ty U H λy J=>td U J λx Z=>JA x λa=>∃o,DGd P w n hn Z a y o/\Q (.bl<|!o.isSome) Z
def Sy(P:Program)(w:World)(n:Nat)(hn:n+1<=8)(td ty tv:TE):TS:=λD U H=>tv U H λv L=>td U L λx G=>ty U G λy J=>JA x λa=>∃Z,DPd P w n hn J a y v Z/\D.nx U Z
def SL(P:Program)(w:World)(n:Nat)(hn:n+1<=8):TE:=λU H Q=>∀a,H a=none->Q (.ref a) (upd H a<|ddO P w n hn a [])
def KW(T:X.A.units+16<cLine)(D:PE X o td)(E:PE X i ty)(B:QR i):PE X (.Subscript o i pos) (SM X.prog X.w n hn td ty):=by
 intro Z s U H Q I h;refine Rq PySem.F.slot_dict_getitem.lookup B<|thn (D Z s U H _ I h) λu M ⟨x,P,S,O,R⟩=>thn (E Z M U P _ S R) λt q ⟨y,C,L,N,J⟩=>?_;replace J:=JA.old J;obtain⟨a,F,v,g,J⟩:=J;subst F;obtain rfl:u=Value.ref a:=O;exact⟨QK L g,Di T L g N λj z A G=>⟨v,C,A,G,J⟩⟩
def Bv(R:X.A.units+16<cLine)(B:PE X i ty)(T:PE X o td):PC X .NotIn i o (IO X.prog X.w n hn ty td):=by
 intro Z s U H Q I h;refine thn (B Z s U H _ I h) λz G ⟨y,C,A,L,N⟩=>thn (T Z G U C _ A N) λu j ⟨x,S,F,M,J⟩=>?_;replace J:=JA.old J;obtain⟨a,D,O,g,J⟩:=J;subst D;obtain rfl:u=Value.ref a:=M;exact L9 R F g L λP E=>⟨.bl<|!O.isSome,S,E,rfl,J⟩
def KN(E:X.A.units+16<cLine)(A:PE X o td)(S:PE X i ty)(B:PE X value tv)(F:swapsWith value (some<|.Subscript o i pos') pos.line X.env=pure false):
  PS X (.Assign [.Subscript o i pos'] value pos) (Sy X.prog X.w n hn td ty tv):=by
 intro Z s U H D I h;refine wpAny_Assign_Subscript (thn (B Z s U H _ I h) λr L ⟨v,m,z,O,T⟩=>thn (A Z L U m _ z T) λu G ⟨x,t,j,N,R⟩=>thn (S Z G U t _ j R) λc p ⟨y,d,Q,M,J⟩=>?_) F;replace J:=JA.old J;obtain⟨a,C,q,g,J⟩:=J;subst C;obtain rfl:u=Value.ref a:=N;exact Dh E Q g M O λk P=>⟨U,q,P,J⟩
def OA{P:Program}{w:World}(h:Heap)(Z:sysModules<h.objs.size):VQ P w H (h.push {cls:=.type "dict",data:=.dict #[]}) h.objs.size (ddO P w n hn h.objs.size []):=by
 refine Q0 (Zc _) (beq_eq_false_iff_ne.mpr<|jM Z) .nil ⟨_,#[],_,ZY _ rfl,?_,rfl,rfl,(λx m=>nomatch m),qw⟩;exact⟨Y,Y,Y⟩
def KU:PE X (.Dict [] [] pos) (SL X.prog X.w n hn):=λZ s U H Q I h=>
 wpAny_Dict_empty ⟨.ref s.heap.objs.size,_,I.laid (a:=s.heap.objs.size) (o:=ddO X.prog X.w n hn s.heap.objs.size []) (t':=s.toks) (λ_ _ q=>ZE _ q) (ZG _)<|OA s.heap I.big,rfl,h _<|I.hok.fresh<|ZG _⟩
def vU(Z:Vn k A):A.units+16<cLine:=by have:=Z.un;omega
end
end L2
namespace L2
open PySem
inductive Tg where
 |tag (t:Str)|cell (n:Nat)|giv (i:Nat)
def Tg.dat:Tg->Dat
 |.tag t=>.tup [.str "tag",.str t]
 |.cell n=>.tup [.str "cell",.int (n:Nat)]
 |.giv i=>TU i []
def Tg.ti(x:Tg):x.dat.ti=true:=by cases x <;> simp[Tg.dat,Dat.ti,Dat.tis,Lo]
abbrev Mk1:=Nat×List Int
def hn1:1+1<=8:=by decide
def kyD(c:Mk1):List (DK 1):=[.inl (some<|.inl (c.1:Int)),.inr (c.2.map λi=>some<|.inl i)]
theorem EW:∀Z:pZ,List.map (dkD 0) (Z.map λi=>(some (.inl i):WN))=Z.map Dat.int
 |[]=>rfl
 |w::Z=>congrArg (Dat.int w:: ·)<|EW Z
def Gb(c:Mk1):keD (kyD c)=.tup [.int (c.1:Nat),Jr c.2]:=congrArg (λz=>Dat.tup [Dat.int (c.1:Nat),Dat.tup z])<|EW c.2
def EX{a b:Mk1}(h:kyD a=kyD b):a=b:=by
 obtain⟨G,O⟩:=a;obtain⟨J,N⟩:=b;unfold kyD at h;have Z:=List.cons.inj h;have L:=(List.cons.inj Z.2).1;have R:(G:Int)=J:=Sum.inl.inj<|ZT<|Sum.inl.inj Z.1;have M:O=N:=(List.map_inj_right λi j z=>Sum.inl.inj<|ZT z).mp<|Sum.inr.inj L;rw[show G=J by omega,M]
def Tv(bs:xo)(c:Mk1):Dat:=.tup [bs.getD c.1 (.tup []),Jr c.2]
def VO(cs:List Mk1):xo:=cs.foldl (λZ c=>Z++[Tv Z c]) [.tup []]
def JV:VO (cs++[c])=VO cs++[Tv (VO cs) c]:=by unfold VO;rw[qy];rfl
theorem Ut:∀(n:Nat)(Z:List Mk1),Z.length=n->(VO Z).length=n+1/\∀d∈VO Z,d.ti=true
 |0,Z,h=>by
  obtain rfl:=jf h;refine⟨Y,λd hd=>?_⟩;have:d=.tup []:=ZQ.mp hd;subst this;simp[Dat.ti,Dat.tis]
 |n+1,Z,h=>by
  have J:Z≠[]:=λz=>by rw[z]at h;cases h
  rw[<-jg J,JV];obtain⟨L,G⟩:=Ut n Z.dropLast (by rw[jr,h];rfl);refine⟨by rw[ZL,L];rfl,λd hd=>?_⟩;rcases ZX.mp hd with q|q
  .exact G d q
  .rw [ZQ]at q
   subst q
   have:((VO Z.dropLast)[(Z.getLast J).1]?.getD<|.tup []).ti=true:=by
    cases e:(VO Z.dropLast)[(Z.getLast J).1]? with
    |none=>simp[Dat.ti,Dat.tis]
    |some x=>exact G x<|ZJ e
   simp[Tv,Dat.ti,Dat.tis,this,Ri]
def JT(Z:List Mk1):(VO Z).length=Z.length+1:=(Ut _ Z rfl).1
def UM(Z:List Mk1):Dat.tis (VO Z)=true:=XG (Ut _ Z rfl).2
abbrev Rho:=Str->Option Tg
def KnR(A:GA)(H:Hp)(a:Addr)(ρ:Rho)(m:Nat):Prop:=a≠A.st/\∃Z,H a=some (.dK Z)/\Z.length<=m/\∀x J,ρ x=some J->∃v,VF Z (Sum.inr x)=some v/\Has H v J.dat
structure Sta where
 f:Str
 pl:List Int
 ρ:Rho
def Mz(kvs:List (DE 1))(cs:List Mk1):Prop:=kvs.length=cs.length/\∀(k:Nat) p,kvs[k]?=some p->∃c,cs[k]?=some c/\p.1=kyD c/\p.2.2=.int ((k+1:Nat):Int)
def Mz.no(h:Mz Z cs)(n:c∉cs):Rk Z (kyD c)=none:=by
 unfold Rk;rw[qS.mpr ?_]
 .rfl
 intro p J z;obtain⟨k,G⟩:=jn.mp J;obtain⟨N,M,L,_⟩:=h.2 k p G;have e:N=c:=EX<|L.symm.trans<|Zt z;subst e;exact n<|ZJ M
def Mz.at(h:Mz Z cs)(M:cs.Nodup)(L:cs[k]?=some c):Rk Z (kyD c)=some (.int ((k+1:Nat):Int)):=by
 have G:=(ZF.mp L).1;have J:k<Z.length:=by rw[h.1];exact G
 obtain⟨C,O,A,U⟩:=h.2 k _<|ZD J;rw[L]at O;cases O;unfold Rk
 cases e:Z.find? λp=>decide (p.1=kyD c)with
 |none=>
  have:=qS.mp e _<|pT J;exact Zr (decide_eq_true A) this
 |some p=>
  have E:=jp e;have D:p.1=kyD c:=by have:=List.find?_some (p:=λp:DE 1=>decide<|p.1=kyD c) e;exact Zt this
  obtain⟨j,F⟩:=jn.mp E;obtain⟨S,R,g2,I⟩:=h.2 j p F;have:S=c:=EX<|g2.symm.trans D;subst this;have N:=(ZF.mp R).1
  have:j=k:=by
   have B:=(ZF.mp R).2;have T:=(ZF.mp L).2;rcases qY j k with q|q|q
   .exact Zr (B.trans T.symm) (jD.mp M j k N G q)
   .exact q
   .exact Zr (T.trans B.symm) (jD.mp M k j G N q)
  subst this;rw[show(some p).map (·.2.2)=some p.2.2 from rfl,I]
def Mz.snoc(h:Mz Z cs)(n:c∉cs):Mz (putD Z (kyD c) b<|.int ((cs.length+1:Nat):Int)) (cs++[c]):=by
 unfold putD;rw[h.no n];rw[Zq (by simp)];refine⟨by rw[ZL,ZL,h.1];rfl,λk p J=>?_⟩;rcases jS k Z.length with q|q
 .rw [vz q]at J
  obtain⟨M,L,G⟩:=h.2 k p J;exact⟨M,by rw[vz (by rw[<-h.1];exact q)];exact L,G⟩
 .have kl:=(ZF.mp J).1
  rw[ZL,vy]at kl;have:k=Z.length:=by omega
  subst this;rw[vx (ZG _),jx]at J;cases J;exact⟨c,by rw[h.1,vx<|ZG _,jx];rfl,Y,by rw[h.1]⟩
def FrG(A:GA)(H H':Hp):Prop:=∀b o,b≠A.bs->b≠A.nu->b≠A.st->H b=some o->H' b=some o
def FrG.refl(A:GA)(H:Hp):FrG A H H:=λb o _ _ _ h=>h
def FrG.trans(a:FrG A H M)(b:FrG A M L):FrG A H L:=λc o G J Z e=>b c o G J Z<|a c o G J Z e
def FrG.of(s:Same H Z):FrG A H Z:=λb o _ _ _ h=>s _ _ h
def XE(sts:Nat->Option Sta)(m:Nat):Nat:=((List.range<|m+1).filter λk=>(sts k).isSome).length
def Wx:XE sts (m+1)=XE sts m+if(sts<|m+1).isSome then 1 else 0:=by
 unfold XE;rw[jQ,List.filter_append,ZL]
 congr 1
 cases e:(sts<|m+1).isSome <;> simp[e]
def Et:∀m,XE sts m<=m+1:=λm=>by
 unfold XE;exact Zb (List.length_filter_le _ _) (by rw[js];exact ZG _)
def Fg(h:m<=m'):XE sts m<=XE sts m':=by
 induction h with
 |refl=>exact ZG _
 |step _ ih=>rw[Wx];omega
def stP(sts:Nat->Option Sta)(k:Nat)(s:Sta):Nat->Option Sta:=λn=>if n=k then some s else sts n
def OG(h:(sts k).isSome=true):XE (stP sts k s) m=XE sts m:=by
 unfold XE
 congr 1
 refine List.filter_congr λj _=>?_;unfold stP
 by_cases z:j=k
 .rw [Zp z,z,h];rfl
 .rw [Zq z]
theorem Nm(h:sts k=none):∀m,k<=m->XE (stP sts k s) m=XE sts m+1
 |0,hk=>by
  obtain rfl:k=0:=by omega
  simp[XE,stP,h]
 |m+1,hk=>by
  rw[Wx,Wx]
  by_cases z:k=m+1
  .subst z
   have J:∀Z,Z<m+1->XE (stP sts (m+1) s) Z=XE sts Z:=λZ L=>by
    unfold XE
    congr 1
    refine List.filter_congr λj G=>?_;unfold stP;rw[Zq (by have:=jH.mp G;omega)]
   rw[J m (by omega),h];simp[stP]
  .rw [Nm h m (by omega)]
   rw[show(stP sts k s<|m+1)=sts (m+1) by unfold stP;rw[Zq (by omega)]];omega
structure GG(P:Program)(w:World)(H:Hp)(CG:Addr)(A:GA)(cs:List Mk1)(sts:Nat->Option Sta)(av:Addr->Prop):Prop where
 ins:H A.t=some (.ins CG A.dx (U0 A))
 bs:∃xs,H A.bs=some (.lst xs)/\HasL H xs (VO cs)
 nu:∃kvs,H A.nu=some (ddO P w 1 hn1 A.nu kvs)/\KOk H kvs/\Mz kvs cs
 nd:cs.Nodup
 gv:H A.gv=some (.tup (A.gs.map V.str))
 st:∃kvs,H A.st=some (.dK kvs)/\kvs.length<=XE sts cs.length/\∀n s,sts n=some s->∃t p kn,VF kvs (Sum.inl (n:Int))=some (.ref t)/\H t=some (.tup [.str s.f,.ref p,.ref kn])/\H p=some (.tup (s.pl.map V.int))/\KnR A H kn s.ρ (3+s.pl.length)/\ ¬av kn
def GG.tk(g:GG P w H CG A cs sts av)(f:FrG A H M):TK H M:=λa N h=>by
 obtain⟨O,L,_⟩:=g.bs;obtain⟨Z,G,_⟩:=g.nu;obtain⟨R,J,_⟩:=g.st;refine f a _ (λz=>?_) (λz=>?_) (λz=>?_) h
 .rw [z,L]at h;cases h
 .rw [z,G]at h;unfold ddO at h;cases h
 .rw [z,J]at h;cases h
def KnR.le(k:KnR A H a ρ m)(h:m<=m'):KnR A H a ρ m':=let⟨n,Z,L,J,G⟩:=k;⟨n,Z,L,Zb J h,G⟩
def KnR.fr(k:KnR A H a ρ m)(g:GG P w H CG A cs sts av)(f:FrG A H B):KnR A B a ρ m:=by
 obtain⟨n,J,Z,N,O⟩:=k;obtain⟨D,T,_⟩:=g.bs;obtain⟨E,R,_⟩:=g.nu;refine⟨n,J,f a _ (λz=>?_) (λz=>?_) n Z,N,λx G e=>let⟨v,M,L⟩:=O x G e;⟨v,M,VL (g.tk f) _ (Tg.ti G) L⟩⟩
 .rw [z,T]at Z;cases Z
 .rw [z,R]at Z;unfold ddO at Z;cases Z
def KnR.mono(k:KnR A H a ρ m)(s:Same H R):KnR A R a ρ m:=by
 obtain⟨n,Z,O,M,N⟩:=k;exact⟨n,Z,s _ _ O,M,λx L e=>let⟨v,G,J⟩:=N x L e;⟨v,G,J.mono s⟩⟩
def KOk.tk{Z:List (DE 1)}{L:List Mk1}(k:KOk H Z)(n:Mz Z L)(t:TK H M):KOk M Z:=λp m=>by
 obtain⟨j,J⟩:=jn.mp m;obtain⟨c,_,G,_⟩:=n.2 j p J;have:=k p m;rw[G,Gb]at this |-;exact VL t _ (by simp[Dat.ti,Dat.tis,Ri]) this
def GG.mono(g:GG P w H CG A cs sts av)(s:Same H X):GG P w X CG A cs sts av:=by
 obtain⟨J,C,U⟩:=g.bs;obtain⟨R,S,I,F⟩:=g.nu;obtain⟨Z,E,D,B⟩:=g.st;refine⟨s _ _ g.ins,⟨J,s _ _ C,U.mono s⟩,⟨R,s _ _ S,λp m=>(I p m).mono s,F⟩,g.nd,s _ _ g.gv,Z,s _ _ E,D,λn st e=>?_⟩;obtain⟨t,p,T,O,N,M,L,G⟩:=B n st e;exact⟨t,p,T,O,s _ _ N,s _ _ M,L.mono s,G⟩
def GG.avoid(g:GG P w H CG A cs sts av)(h:H l=none)(s:Same H F):GG P w F CG A cs sts (λa=>av a\/a=l):=by
 have E:=g.mono s;obtain⟨Z,D,B,T⟩:=g.st;refine{E with st:=⟨Z,s _ _ D,B,λn st e=>?_⟩};obtain⟨t,p,R,O,N,M,J,L⟩:=T n st e;refine⟨t,p,R,O,s _ _ N,s _ _ M,J.mono s,λz=>z.elim L λz=>?_⟩;obtain⟨_,I,G,_,_⟩:=J;rw[z,h]at G;cases G
def GG.less(g:GG P w H CG A cs sts av)(h:∀a,av' a->av a):GG P w H CG A cs sts av':=by
 obtain⟨Z,B,T,R⟩:=g.st;refine{g with st:=⟨Z,B,T,λn st e=>?_⟩};obtain⟨t,p,O,N,M,L,G,J⟩:=R n st e;exact⟨t,p,O,N,M,L,G,λz=>J<|h _ z⟩
def GG.wr(g:GG P w H CG A cs sts av)(J:H l=some (.dK o))(a:av l)(b:SameB l H T)(n:l≠A.st):GG P w T CG A cs sts av:=by
 obtain⟨B,M,r⟩:=g.bs;obtain⟨q,G,u,R⟩:=g.nu;obtain⟨L,f,d,c⟩:=g.st;have Z:TK H T:=λa i h=>b _ _ (λz=>by rw[z,J]at h;cases h) h;refine⟨b _ _ (λz=>by have:=g.ins;rw[z,J]at this;cases this) g.ins,⟨B,b _ _ (λz=>by rw[z,J]at M;cases M) M,VS Z _ (UM cs) r⟩,⟨q,b _ _ (λz=>by rw[z,J]at G;unfold ddO at G;cases G) G,u.tk R Z,R⟩,g.nd,Z _ _ g.gv,L,b _ _ n.symm f,d,λk st e=>?_⟩;obtain⟨t,p,m,j,Q,X,C,N⟩:=c k st e;obtain⟨I,y,F,D,E⟩:=C;exact⟨t,p,m,j,Z _ _ Q,Z _ _ X,⟨I,y,b _ _ (λz=>N<|z ▸ a) F,D,λx O e=>let⟨v,U,S⟩:=E x O e;⟨v,U,VL Z _ (Tg.ti O) S⟩⟩,N⟩
def Xc(cs:List Mk1)(c:Mk1)(n:Nat)(cs':List Mk1):Prop:=(∃k,cs[k]?=some c/\n=k+1/\cs'=cs)\/(c∉cs/\n=cs.length+1/\cs'=cs++[c])
def Up:(ddO P w 1 hn1 a Z)≠.lst J:=by unfold ddO;intro z;cases z
def Wv:(ddO P w 1 hn1 a Z)≠.dK J:=by unfold ddO;intro z;cases z
def Er:(ddO P w 1 hn1 a Z)≠.tup J:=by unfold ddO;intro z;cases z
def WJ:(ddO P w 1 hn1 a Z)≠.ins C d J:=by unfold ddO;intro z;cases z
def Yw{H:Hp}{o p:HO}(h:H a=some o)(g:H b=some p)(n:o≠p):a≠b:=λz=>n (by rw[z,g]at h;exact(ZT h).symm)
end L2
namespace K4
open PySem L2
section
variable{C CK CG CO CW CD:Addr}
def Mo(A:GA):(U0 A).lookup ("births":Str)=some (V.ref A.bs):=rfl
def Mn(A:GA):(U0 A).lookup ("numbers":Str)=some (V.ref A.nu):=rfl
def yw:Yh ["self","maker","place"] ["self","maker","place"] (Yd Dc):=Y2
inductive SNA(P:Program)(w:World)(CG:Addr)(H:Hp)(Q:VK):List V->Prop
 |mk (A:GA) (cs:List Mk1) (sts:Nat->Option Sta) (av:Addr->Prop) (m:Nat) (pl:List Int) (p:Addr) (g:GG P w H CG A cs sts av) (hp:H p=some (.tup (pl.map V.int))) (hm:m<=cs.length) (lc:cs.length<=9000)
  (q:∀n cs' H',Xc cs (m,pl) n cs'->FrG A H H'->GG P w H' CG A cs' sts av->Q (.int (n:Nat)) H'):SNA P w CG H Q [.ref A.t,.int (m:Nat),.ref p]
def IX(P:Program)(w:World)(CG:Addr):Sp:=λZ H Q _=>SNA P w CG H Q Z
def C9(B:Blt mg)(TG:GCl K CG)(F:Fun K "number_at" "Ground.number_at" Dc f fd):Ye P w K mg base CX0 (n+1) f fd ["self","maker","place"] (IX P w CG):=by
 refine F.oi yw λT7 A R4 s H vs Q E hr h=>?_;obtain⟨R,U,R3,av,m,O,p,g,hp,hm,lc,q⟩:=h;have hu:=vU hr;refine⟨_,YY (Y4 (Uk<|Bv (n:=1) (hn:=hn1) hu (Yi<|pa2 (pv 1)<|pv 2)<|Yt (pv 0) rfl) (YY (KN (n:=1) (hn:=hn1) hu (Yt (pv 0) rfl) (Yi<|pa2 (pv 1)<|pv 2) (VD Y6 rfl B.len Zu (pa1<|Yt (pv 0) rfl)) rfl)
  (YZ<|VR<|UI Zz Z0 Z1 Ve (Yt (pv 0) rfl)<|pa1<|Yi<|pa2 (Ym Y7 (Yt (pv 0) rfl) (pv 1) λ_ _=>rfl)<|pv 2)) Yo)
  (YZ<|Yj<|KW (n:=1) (hn:=hn1) hu (Yt (pv 0) rfl) (Yi<|pa2 (pv 1)<|pv 2) λ_ _=>rfl),?_⟩
 dsimp only[Vb,Cx.nox,Cx.wish];show let T0:=_;let T1:=_;let T2:=Yn _ T1;Yn (VH _ T2 _) T0 _ _ _
 intros
 refine⟨sl 2,λt1 R7=>?_⟩;refine up_in R7 _ λH1 j g1=>?_;have M:=g.mono j;obtain⟨D,J2,l,T⟩:=M.nu
 have I:∀{Hx:Hp}{t:Addr},Hx t=some (.tup [.int (m:Nat),.ref p])->Hx p=some (.tup<|O.map V.int)->Has Hx (.ref t) (keD<|kyD (m,O)):=λh1 h2=>by
  rw[Gb];exact Yu h1<|Z4 (by unfold Has;rfl)<|Z5<|JW h2
 exists CG,_,_,_,M.ins,TG.cl,TG.nu,Mn _,_,⟨D,kyD (m,O),t1,J2,l,Y,I g1<|j _ _ hp,rfl⟩,_,rfl
 by_cases hc:(m,O)∈U
 .obtain ⟨k,hk⟩:=jn.mp hc
  have ev:=T.at g.nd hk;refine Y1 (by rw[ev];simp) ?_;refine⟨CG,_,_,_,M.ins,TG.cl,TG.nu,Mn _,sl 2,λt2 x=>?_⟩;refine up_in x _ λH2 J g2=>?_;exists _,⟨D,kyD (m,O),t2,J _ _ J2,λp m=>(l p m).mono J,Y,I g2<|J _ _<|j _ _ hp,ev.symm⟩;exact q (k+1) U H2 (.inl ⟨k,hk,Y,Y⟩) (.of<|j.trans J)<|M.mono J
 .have ev:=T.no hc
  refine VI (by rw[ev];rfl) ?_;obtain⟨xs,y,i⟩:=M.bs;have lx:=i.length;rw[JT]at lx;refine⟨CG,_,_,_,M.ins,TG.cl,TG.bs,Mo _,R.bs,_,Y,.inl<|Z3 y,CG,_,_,_,M.ins,TG.cl,TG.nu,Mn _,sl 2,λt2 x=>?_⟩;refine up_in x _ λH2 J g2=>?_;have S:=M.mono J;have G:=J _ _ J2;have v:KOk H2 D:=λp m=>(l p m).mono J;refine⟨_,⟨D,kyD (m,O),t2,G,v,Y,I g2<|J _ _<|j _ _ hp,Js (by rw[T.1];omega),rfl⟩,?_⟩;rw[lx];refine fld_in R.nu _ λH3 b3 g3=>?_;have bn:R.bs≠R.nu:=Yw (J _ _ y) G Up.symm;have L:=b3 _ _ bn<|J _ _ y;have N:=b3 _ _ (Yw S.ins G WJ.symm) S.ins;have R1:TK H2 H3:=λa ys h=>b3 _ _ (Yw h G Er.symm) h;have M2:m<xs.length:=by omega
  refine⟨CG,_,_,_,N,TG.cl,TG.bs,Mo _,.inl ⟨Y,_,Z3 L⟩,CG,_,_,_,N,TG.cl,TG.bs,Mo _,_,_,Z3 L,VE<|ZD M2,sl 2,λt4 R6=>?_⟩;refine up_in R6 _ λH4 X g4=>?_;refine⟨R.bs,_,_,Y,Y,X _ _ L,Js<|by omega,?_⟩;refine fld_in R.bs _ λH5 b5 g5=>?_;have G1:=JS b5<|X _ _ L;have Z:TK H2 H5:=λa ys h=>G1 _ _<|X _ _<|R1 _ _ h;have G2:=b5 _ _ bn.symm<|X _ _ g3;have r:=b5 _ _ (Yw (X _ _ N) (X _ _ L) (by intro z;cases z))<|X _ _ N;have fr:FrG R H H5:=λb o n1 n2 n3 e=>b5 _ _ n1<|X _ _<|b3 _ _ n2<|J _ _<|j _ _ e;have c:=T.snoc (b:=t2) hc
  have u:KOk H5 (putD D (kyD (m,O)) t2<|.int ((U.length+1:Nat):Int)):=(v.tk T Z).put (by
   rw[Gb];have:=I g2<|J _ _<|j _ _ hp;rw[Gb]at this;exact VL Z _ (by simp[Dat.ti,Dat.tis,Ri]) this)
  have G3:(U++[(m,O)]).Nodup:=by
   rw[ji];exact⟨g.nd,by simp,λa ha b hb z=>by rw[ZQ]at hb;subst hb;subst z;exact hc ha⟩
  have R8:(U++[(m,O)])[U.length]?=some (m,O):=by rw[vx (ZG _),jx];rfl
  have T6:=c.at G3 R8
  have T4:GG P w H5 CG R (U++[(m,O)]) R3 av:=by
   exists r,⟨_,g5,?_⟩,⟨_,G2,u,c⟩,G3,Z _ _ S.gv
   .rw [JV]
    obtain⟨d,O1,T3⟩:=i.get<|ZD M2;have e:(VO U).getD m (.tup [])=d:=by rw[jm,O1];rfl
    refine Z7 (VS Z _ (UM U)<|i.mono J)<|Z5 ?_;have dt:d.ti=true:=(Ut _ U rfl).2 d<|ZJ O1;unfold Tv;rw[show((m,O):Mk1).1=m from rfl,e];exact Yu (G1 _ _ g4)<|Z4 (VL Z _ dt<|T3.mono J)<|Z5<|JW<|Z _ _<|J _ _<|j _ _ hp
   .obtain ⟨ks,h6,h7,h8⟩:=S.st
    have sn:R.st≠R.nu:=Yw h6 G Wv.symm;have sb:R.st≠R.bs:=Yw h6 (J _ _ y) (by intro z;cases z);have T5:FrG R H2 H5:=λb o n1 n2 n3 e=>b5 _ _ n1<|X _ _<|b3 _ _ n2 e;refine⟨ks,b5 _ _ sb<|X _ _<|b3 _ _ sn h6,Zb h7 (Fg (by rw[ZL];exact jy _ _)),λn st e=>?_⟩;obtain⟨t,p',kn,u1,u2,u3,u4,u5⟩:=h8 n st e;exact⟨t,p',kn,u1,Z _ _ u2,Z _ _ u3,u4.fr S T5,u5⟩
  refine⟨CG,_,_,_,r,TG.cl,TG.nu,Mn _,sl 2,λt6 R5=>?_⟩;refine up_in R5 _ λH6 s6 g6=>?_;exists _,⟨_,kyD (m,O),t6,s6 _ _ G2,λp m=>(u p m).mono s6,Y,I g6<|s6 _ _<|Z _ _<|J _ _<|j _ _ hp,T6.symm⟩;exact q (U.length+1) _ H6 (.inr ⟨hc,Y,Y⟩) (fr.trans<|.of s6)<|T4.mono s6
end
end K4
namespace L2
open PySem
structure OM where
 t:Addr
 dx:Addr
 gr:Addr
 n:Nat
 F:Str
 pl:Addr
 kn:Addr
 bv:V
 wl:Addr
def Jm(A:OM):List (Str×V):=[("ground",.ref A.gr),("number",.int (A.n:Nat)),("f",.str A.F),("place",.ref A.pl),("known",.ref A.kn),("body",A.bv),("waiting",.ref A.wl)]
structure GM(H:Hp)(CO:Addr)(A:GA)(O:OM)(b:Bd):Prop where
 ins:H O.t=some (.ins CO O.dx (Jm O))
 bd:Has H O.bv b.dat
 ok:b.ok
 gr:O.gr=A.t
def GM.mono(g:GM H CO A O b)(s:Same H Z):GM Z CO A O b:=⟨s _ _ g.ins,g.bd.mono s,g.ok,g.gr⟩
def GG.ne(g:GG P w H CG A cs sts av)(h:H a=some o)(L:∀Z,o≠.lst Z)(G:∀Z,o≠.dK Z)(J:∀k,o≠ddO P w 1 hn1 A.nu k):a≠A.bs/\a≠A.nu/\a≠A.st:=by
 obtain⟨Z,R,_⟩:=g.bs;obtain⟨M,O,_⟩:=g.nu;obtain⟨T,N,_⟩:=g.st;exact⟨Yw h R<|L _,Yw h O<|J _,Yw h N<|G _⟩
def GM.fr(m:GM H CO A O b)(g:GG P w H CG A cs sts av)(f:FrG A H L):GM L CO A O b:=by
 obtain⟨G,J,Z⟩:=g.ne m.ins (λ_ z=>by cases z) (λ_ z=>by cases z) λ_=>WJ.symm;exact⟨f _ _ G J Z m.ins,VL (g.tk f) _ (Bd.ti _) m.bd,m.ok,m.gr⟩
structure MX(P:Program)(w:World)(Hm H:Hp)(C CK CG:Addr)(A:GA)(ks:List (Str×Shp))(d:Str->Nat)(ds:List Dd)(cs:List Mk1)(sts:Nat->Option Sta)(av:Addr->Prop):Prop where
 sm:Same Hm H
 bi:BI Hm C CK A.bk ks d ds
 f1:Hm A.bs=none
 f2:Hm A.nu=none
 f3:Hm A.st=none
 gg:GG P w H CG A cs sts av
def MX.fr(m:MX P w L H C M CG A J d G cs sts av)(f:FrG A H Z)(g:GG P w Z CG A cs' sts' av):MX P w L Z C M CG A J d G cs' sts' av:=
 ⟨λb o e=>f b o (Yb e m.f1) (Yb e m.f2) (Yb e m.f3)<|m.sm _ _ e,m.bi,m.f1,m.f2,m.f3,g⟩
def MX.mono(m:MX P w G H C M CG A Z d J cs sts av)(s:Same H L):MX P w G L C M CG A Z d J cs sts av:=m.fr (.of s)<|m.gg.mono s
def Nz{Z:Addr->Prop}(O:∀a,Z a->∃o,H a=some o)(f:FrG A H J)(g:GG P w J CG A cs sts av'):∀a,Z a->∃o,J a=some o:=λa h=>by
 obtain⟨o,e⟩:=O a h;obtain⟨R,N,_⟩:=g.bs;obtain⟨G,M,_⟩:=g.nu;obtain⟨T,L,_⟩:=g.st
 by_cases z1:a=A.bs
 .exact ⟨_,by rw[z1];exact N⟩
 by_cases z2:a=A.nu
 .exact ⟨_,by rw[z2];exact M⟩
 by_cases z3:a=A.st
 .exact ⟨_,by rw[z3];exact L⟩
 exact⟨o,f a o z1 z2 z3 e⟩
abbrev Ss:=List Mk1×(Nat->Option Sta)
inductive Thr(R:Nat->Ss->Tg->Ss->Prop):Nat->Ss->List Tg->Ss->Prop
 |nil:Thr R 0 s [] s
 |snoc (h:Thr R i s ths s1) (e:R i s1 th s2):Thr R (i+1) s (ths++[th]) s2
def U6(ns:pX)(ths:List Tg):Rho:=λx=>(ns.zip ths).lookup x
def Ke(ds:List Dd)(f:Str)(ns:pX):Prop:=∃x∈ds,x.1.1=f/\ns=x.1.2.1.map (·.1)
def MCp(ds:List Dd)(F:Str)(ρ:Rho)(R:Nat->Ss->Tg->Ss->Prop)(c:Bd)(pl:pZ)(k:Nat)(s s':Ss):Prop:=match c with
 |.ask f as=>∃ths s2 ns,Thr R as.length s ths s2/\Ke ds f ns/\s'=(s2.1,stP s2.2 k ⟨f,[],U6 ns ths⟩)
 |_=>s'=(s.1,stP s.2 k ⟨F,pl,ρ⟩)
def TAp(ds:List Dd)(F:Str)(b:Bd)(num:Nat)(ρ:Rho):Nat->List Int->Ss->Tg->Ss->Prop
 |0,_,_,_,_=>False
 |n+1,pl,s,th,s'=>∃c,b.at pl=some c/\match c with
  |.tag t=>th=.tag t/\s'=s
  |.name x=>ρ x=some th/\s'=s
  |c=>∃k cs1,Xc s.1 (num,pl) k cs1/\th=.cell k/\MCp ds F ρ (λi=>TAp ds F b num ρ n<|pl++[(i:Int)]) c pl k (cs1,s.2) s'
def OkT(ds:List Dd)(ρ:Rho):Nat->Bd->Prop
 |0,_=>False
 |n+1,.name x=>∃th,ρ x=some th
 |n+1,.ask f as=>(∃x∈ds,x.1.1=f/\x.1.2.1.length=as.length/\as.length<=3/\(x.1.2.1.map (·.1)).Nodup)/\∀a∈as,OkT ds ρ n a
 |n+1,_=>True
theorem Gs:∀{Z:List Bd}{i:Nat}{a:Bd},Z[i]?=some a->Bd.sizes (Z.take<|i+1)=Bd.sizes (Z.take i)+a.size
 |[],i,a,h=>by simp at h
 |x::Z,0,a,h=>by cases h;simp[Bd.sizes]
 |x::Z,i+1,a,h=>by
  have J:Z[i]?=some a:=h;have:=Gs J;simp only[List.take_succ_cons,Bd.sizes]at this |-;omega
theorem Gu:∀(Z:List Bd)(i:Nat),Bd.sizes (Z.take i)<=Bd.sizes Z
 |[],i=>by simp[Bd.sizes]
 |x::Z,0=>by simp[Bd.sizes]
 |x::Z,i+1=>by
  have:=Gu Z i;simp only[List.take_succ_cons,Bd.sizes];omega
theorem N2:∀{ns:pX}{G:xg}{Z:List Tg}{H:Hp}{x:Str}{J:Tg},HasL H G (Z.map Tg.dat)->U6 ns Z x=some J->∃v,VF (nmD ns G) (Sum.inr x)=some v/\Has H v J.dat
 |[],G,Z,H,x,J,h,e=>by unfold U6 at e;simp at e
 |n::ns,G,[],H,x,J,h,e=>by unfold U6 at e;simp at e
 |n::ns,[],_::_,H,x,J,h,e=>by unfold HasL at h;exact h.elim
 |n::ns,u::G,t::Z,H,x,J,h,e=>by
  unfold HasL at h;unfold U6 at e;rw[qk,jq]at e
  by_cases z:x=n
  .subst z
   rw[beq_self_eq_true]at e;cases e;exact⟨u,Va Y,h.1⟩
  .have zb:(x==n)=false:=beq_eq_false_iff_ne.mpr z
   rw[zb]at e;obtain⟨v,M,L⟩:=N2 (ns:=ns) h.2 e;exact⟨v,(Vf λq=>z (Sum.inr.inj q).symm).trans M,L⟩
def GG.put(g:GG P w H CG A cs sts av)(hk:k<=cs.length)(e:H A.st=some (.dK J))(ht:H t=some (.tup [.str s.f,.ref p,.ref kn]))(hp:H p=some (.tup<|s.pl.map V.int))(R:KnR A H kn s.ρ (3+s.pl.length))(na:¬av kn)(b:SameB A.st H M)(x:M A.st=some (.dK<|putK J (Sum.inl (k:Int))<|.ref t)):GG P w M CG A cs (stP sts k s) av:=by
 obtain⟨j,Q,h2⟩:=g.bs;obtain⟨ks,X,h4,C⟩:=g.nu;obtain⟨E,U,S,I⟩:=g.st;rw[e]at U;cases U;have Z:TK H M:=λa ys h=>b _ _ (Yw h e (by intro z;cases z)) h;refine⟨b _ _ (Yw g.ins e (by intro z;cases z)) g.ins,⟨j,b _ _ (Yw Q e (by intro z;cases z)) Q,VS Z _ (UM cs) h2⟩,⟨ks,b _ _ (Yw X e Wv) X,h4.tk C Z,C⟩,g.nd,Z _ _ g.gv,_,x,?_,λn s' L=>?_⟩
 .cases en:sts k with
  |none=>
   rw[Nm en cs.length hk];exact Zb (Vd _ _ _)<|jF S
  |some s0=>
   rw[OG (by rw[en];rfl)];obtain⟨B,D,G,N,_⟩:=I k s0 en;have:(J.any λO=>decide<|O.1=Sum.inl (k:Int))=true:=by rw[Jy,N];rfl
   unfold putK;rw[Zp this,ZA];exact S
 .unfold stP at L
  have F:∀{a:Addr}{ρ:Rho}{m:Nat},KnR A H a ρ m->KnR A M a ρ m:=λR=>by
   obtain⟨n,O,i,l,o⟩:=R;exact⟨n,O,b _ _ n i,l,λx T e=>let⟨v,c,y⟩:=o x T e;⟨v,c,VL Z _ (Tg.ti T) y⟩⟩
  by_cases z:n=k
  .subst z
   rw[Zp rfl]at L;cases L;exact⟨t,p,kn,by rw[JL,Zp rfl],Z _ _ ht,Z _ _ hp,F R,na⟩
  .rw [Zq z]at L
   obtain⟨B,D,G,N,r,u,f,d⟩:=I n s' L;exact⟨B,D,G,by rw[JL,Zq (λq=>z (by have:=Sum.inl.inj q;omega))];exact N,Z _ _ r,Z _ _ u,F f,d⟩
end L2
namespace K4
open PySem L2
section
variable{C CK CG CO CW CD:Addr}
def NU(A:OM):(Jm A).lookup ("ground":Str)=some (V.ref A.gr):=rfl
def EU(A:OM):(Jm A).lookup ("number":Str)=some (V.int (A.n:Nat)):=rfl
def vP(A:OM):(Jm A).lookup ("f":Str)=some (V.str A.F):=rfl
def LH(A:OM):(Jm A).lookup ("body":Str)=some A.bv:=rfl
def zQ(A:OM):(Jm A).lookup ("place":Str)=some (V.ref A.pl):=rfl
def zR(A:OM):(Jm A).lookup ("known":Str)=some (V.ref A.kn):=rfl
def ET(A:OM):(Jm A).lookup ("waiting":Str)=some (V.ref A.wl):=rfl
def Qm(A:OM):(Jm A).lookup ("thing_at":Str)=none:=rfl
def Qn(A:OM):(Jm A).lookup ("make_cell":Str)=none:=rfl
def Qx(A:GA):(U0 A).lookup ("number_at":Str)=none:=rfl
def Da(A:GA):(U0 A).lookup ("starts":Str)=some (V.ref A.st):=rfl
def Lp(A:GA):(U0 A).lookup ("book":Str)=some (V.ref A.bk):=rfl
abbrev spk:pX:=["self","place","known"]
abbrev NE:pX:=["self","number","place","known"]
def Sm:Yh ["self","number","place","known","body","things"] NE (Yd XR):=Y2
def Sk:Yh ["self","place","known","body","number"] spk (Yd X3):=Y2
def Py:List.Nodup [("at":Str),"self","place","known"]:=by decide +kernel
inductive STA(P:Program)(w:World)(C CK CG CO:Addr)(n:Nat)(H:Hp)(Q:VK):List V->Prop
 |mk (Hm:Hp) (A:GA) (ks:List (Str×Shp)) (d:Str->Nat) (ds:List Dd) (cs:List Mk1) (sts:Nat->Option Sta) (av:Addr->Prop) (O:OM) (b c:Bd) (pl:List Int) (p kn:Addr) (ρ:Rho) (mx:MX P w Hm H C CK CG A ks d ds cs sts av) (gm:GM H CO A O b) (hp:H p=some (.tup (pl.map V.int))) (hc:b.at pl=some c) (ok:OkT ds ρ n c) (kr:KnR A H kn ρ (3+pl.length)) (na:¬av kn) (al:∀a,av a->∃o,H a=some o) (on:O.n<=cs.length) (lc:cs.length+c.size<=9000) (lw:pl.length+n<=500)
  (q:∀u th cs' sts' H',TAp ds O.F b O.n ρ n pl (cs,sts) th (cs',sts')->cs.length<=cs'.length->cs'.length<=cs.length+c.size->FrG A H H'->GG P w H' CG A cs' sts' av->Has H' u th.dat->Q u H'):STA P w C CK CG CO n H Q [.ref O.t,.ref p,.ref kn]
def E6(P:Program)(w:World)(C CK CG CO:Addr)(n:Nat):Sp:=λZ H Q _=>STA P w C CK CG CO n H Q Z
inductive SMC(P:Program)(w:World)(C CK CG CO:Addr)(n:Nat)(H:Hp)(Q:VK):List V->Prop
 |mk (Hm:Hp) (A:GA) (ks:List (Str×Shp)) (d:Str->Nat) (ds:List Dd) (cs:List Mk1) (sts:Nat->Option Sta) (av:Addr->Prop) (O:OM) (b c:Bd) (pl:List Int) (p kn:Addr) (ρ:Rho) (k:Nat) (mx:MX P w Hm H C CK CG A ks d ds cs sts av) (gm:GM H CO A O b) (hp:H p=some (.tup (pl.map V.int))) (hc:b.at pl=some c) (ok:OkT ds ρ (n+1) c) (kr:KnR A H kn ρ (3+pl.length)) (na:¬av kn) (al:∀a,av a->∃o,H a=some o) (on:O.n<=cs.length) (lc:cs.length+c.size<=9001) (lw:pl.length+n+1<=500) (hk:k<=cs.length)
  (q:∀cs' sts' H',MCp ds O.F ρ (λi=>TAp ds O.F b O.n ρ n (pl++[(i:Int)])) c pl k (cs,sts) (cs',sts')->cs.length<=cs'.length->cs'.length+1<=cs.length+c.size->FrG A H H'->GG P w H' CG A cs' sts' av->Q .non H'):SMC P w C CK CG CO n H Q [.ref O.t,.int (k:Nat),.ref p,.ref kn]
def Oq(P:Program)(w:World)(C CK CG CO:Addr)(n:Nat):Sp:=λZ H Q _=>SMC P w C CK CG CO n H Q Z
def OP(c:Bd):(∃f Z,c=.ask f Z) \/ ∃wd r,c.dat=.tup (.str wd::r)/\wd≠"ask" /\∀f Z,c≠.ask f Z:=by
 cases c <;> first|exact .inl ⟨_,_,Y⟩|exact .inr ⟨_,_,by unfold Bd.dat;rfl,by decide +kernel,λ_ _ z=>by cases z⟩
def Qi(B:Blt mg)(TG:GCl K CG)(TO:OCl K CO)(F:Fun K "make_cell" "Going.make_cell" XR f fd)(DP:Df P w K mg base L "part_at" ["body","place"] J8)(DN:Df P w K mg base L "named" ["book","f","things"] (IW C CK))(m1:VM K CO "thing_at" g1)(G1:Ye P w K mg base CX0 L g1 d1 spk (E6 P w C CK CG CO n))(b1:Binds K d1 spk []):Ye P w K mg base CX0 (L+1) f fd NE (Oq P w C CK CG CO n):=by
 refine F.oi Sm λcdv A F4 s H g Q E hr h=>?_;obtain⟨Hm,A',ks,d,ds,cs,sts,av,O,b,c,pl,p,kn,ρ,k,mx,gm,hp,hc,ok,kr,R7,al,on,lc,lw,hk,q⟩:=h;have hu:=JI hr;refine⟨_,YY (Y0 4 Sm.nd<|Vh DP hr<|pa2 (Yt (pv 0) rfl)<|pv 2)
  (YY (Y4 (Ys UJ (Ym (r:=VZ K) Yq (pv 4)<|Ya) Yp<|Yz _) (YY (Vw hu (Yt (Yt (pv 0) rfl) rfl) (pv 1) (Yi<|pa3 (Yt (pv 0) rfl) (pv 2)<|pv 3) rfl)
  (YZ<|PJ)) Yo)
  (YY (EM (i0:=5) ["at"] [0,2,3] Sm.nd rfl (Or.inl rfl) (UA rfl B.range (pa1<|VD Y6 rfl B.len Zu (pa1<|Ym (r:=VZ K) Yq (pv 4)<|Ya))) (V7 (i:=0)<|by decide) (λcl C fp s H=>Yl 0 Py rfl (Or.inl rfl) (Or.inr rfl)) (λcl C fp s H=>Y5 (pv 1) TO.cl m1 G1 hr b1 .nil Y3<|pa2 (Y9 (r:=λx y H Q=>UY K x y H Q\/UX K x y H Q) J6 (pv 2)<|Yi<|pa1<|pv 0)<|pv 3))
  (YZ<|Vw hu (Yt (Yt (pv 0) rfl) rfl) (pv 1) (Yi<|pa3 (Ym (r:=VZ K) Yq (pv 4)<|Ya) (Yi<|Vj)<|Vh DN hr<|pa3 (Yt (Yt (pv 0) rfl) rfl) (Ym (r:=VZ K) Yq (pv 4)<|Ya)<|pv 5) rfl))),?_⟩
 dsimp only[Vb,Cx.nox,Cx.wish];show let T0:=_;let T1:=Yn _ T0;let T2:=_;let T3:=Yn _ T2;let T4:=Yn (VH _ T3 _) T1;Yn _ T4 _ _ _
 intros
 refine⟨CO,_,_,_,gm.ins,TO.cl,TO.bd,LH _,_,p,b,c,pl,gm.bd,gm.ok,hp,hc,λu H1 s1 I=>?_⟩;have J:=mx.mono s1;have X:=gm.mono s1;have T5:=kr.mono s1;have T7:=s1 _ _ hp;have F2:∀a,av a->∃o,H1 a=some o:=λa h=>let⟨o,e⟩:=al a h;⟨o,s1 _ _ e⟩
 have c1:1<=c.size:=by rw[Bd.size_eq];omega
 rcases OP c with⟨f',as,rfl⟩|⟨wd,r,ed,nw,na⟩
 .have hu2:=I
  unfold Bd.dat at I;obtain⟨ta,ys,rfl,S,hl⟩:=Yr I;obtain⟨x1,r1,rfl,e1,T8⟩:=Yc hl;obtain⟨x2,r2,rfl,e2,I9⟩:=Yc T8;obtain⟨x3,r3,rfl,e3,I8⟩:=Yc I9;obtain rfl:=VB I8;obtain rfl:=has_str e1;obtain rfl:=has_str e2;obtain⟨tb,xs,rfl,I6,I4⟩:=Yr e3;have lx:=I4.length;rw[Z9,ZA]at lx;unfold OkT at ok;obtain⟨⟨df,T9,ef,lf,l3,F6⟩,F5⟩:=ok;refine⟨_,_,Z2 S,at0,Y,_,Y,Y1 (by decide +kernel) ?_⟩;refine⟨_,_,Z2 S,at2,tb,_,Y,.inr<|Z2 I6,xs.length,rfl,by omega,by omega,?_⟩;have esz:(Bd.ask f' as).size=1+Bd.sizes as:=by unfold Bd.size;rfl
  rw[esz]at lc;refine Vu xs.length (Js<|by omega) (λi g H'=>∃M G Z,g.length=i/\Thr (λi=>TAp ds O.F b O.n ρ n<|pl++[(i:Int)]) i (cs,sts) M (G,Z)/\cs.length<=G.length/\G.length<=cs.length+Bd.sizes (as.take i)/\FrG A' H1 H'/\GG P w H' CG A' G Z av/\HasL H' g (M.map Tg.dat)) ⟨[],cs,sts,rfl,.nil,ZG _,jy _ _,.refl _ _,J.gg,Z6⟩ (λi g H' z=>by obtain⟨_,_,_,z,_⟩:=z;exact z) (λi g H' hi z=>hi) (λg H' z=>ZG _) ?_ ?_
  .rintro i g H2 y H3 R hi ⟨M,G,Z,z1,z2,z3,z4,z5,z6,z7⟩ ⟨rfl,rfl⟩ hR
   have F3:=J.gg.tk z5;have ia:i<as.length:=by omega
   have D0:as[i]?=some as[i]:=ZD ia;have sz:=Gs D0;have sl1:=Gu as<|i+1;refine⟨_,_,(X.fr J.gg z5).ins,Qm _,sl 1,λt4 O1=>?_⟩;refine up_in O1 _ λH4 D g4=>?_;have I7:Has H4 (.ref p) (Jr pl):=JW<|D _ _<|F3 _ _ T7;refine UT I7 (UR g4) (by simp) (by simp;omega) λu5 H5 s5 h5=>?_;obtain⟨a5,rfl,S3⟩:=Jw h5;have G3:=D.trans s5;have j:FrG A' H1 H5:=z5.trans<|.of G3;have R4:=z6.mono G3;have F8:=J.fr j R4;have gm5:=X.fr J.gg j;have I3:=T5.fr J.gg j;refine⟨Hm,A',ks,d,ds,G,Z,av,O,b,as[i],pl++[0+(i:Int)],a5,kn,ρ,F8,gm5,S3,?_,F5 _<|pT ia,I3.le (by rw[ZL];omega),R7,Nz F2 j R4,by omega,by omega,by rw[ZL,vy];omega,λu6 th cs6 R6 H6 q1 q2 q3 q4 q5 q6=>?_⟩
   .refine Bd.at_snoc pl hc (by omega) ?_
    rw[show(0+(i:Int)).toNat=i by omega];exact D0
   .rw [Int.zero_add]at q1
    refine hR _ _ ⟨M++[th],cs6,R6,by rw[ZL,z1];rfl,z2.snoc q1,by omega,by omega,j.trans q4,q5,?_⟩;rw[ZK];exact Z7 (VS (λb ys h=>R4.tk q4 _ _<|G3 _ _ h) _ (XG λd hd=>by obtain⟨t,_,rfl⟩:=ZW.mp hd;exact Tg.ti t) z7)<|Z5 q6
  rintro g H2 tl ⟨M,G,Z,z1,z2,z3,z4,z5,z6,z7⟩ I5;rw[lx]at z2;have sle:=Gu as xs.length;refine up_in I5 _ λH3 s3 g3=>?_;have m:FrG A' H1 H3:=z5.trans<|.of s3;have F1:=z6.mono s3;have F9:=J.fr m F1;have gm3:=X.fr J.gg m;have G2:=J.gg.tk m _ _ S;refine⟨_,_,Z2 G2,at1,sl 0,λt4 O1=>?_⟩;refine up_in O1 _ λH4 D g4=>?_;have D3:=gm3.mono D;have J2:=F1.mono D;exists CO,_,_,_,D3.ins,TO.cl,TO.gr,NU _;rw[gm.gr];exists CG,_,_,_,J2.ins,TG.cl,TG.bk,Lp _,_,_,Z2<|D _ _ G2,at1;rw[<-ef];have S1:=z7.length;rw[ZA]at S1;have R8:=F9.mono D;refine⟨A'.bk,tl,g,ks,d,ds,df,R8.bi.mono R8.sm,T9,D _ _ g3,by omega,by omega,F6,λl H5 s5 R5 S2=>⟨sl 3,λt6 M2=>?_⟩⟩;refine up_in M2 _ λH6 s6 g6=>?_;have T:=s5.trans s6;have N:=J2.mono T;have R1:=D3.mono T;exists CO,_,_,_,R1.ins,TO.cl,TO.gr,NU _;rw[gm.gr];obtain⟨I1,U,lst,_⟩:=N.st;refine⟨CG,_,_,_,N.ins,TG.cl,TG.st,Da _,_,Uw.k (k:=Sum.inl (k:Int)) U<|Js (by have:=Et (sts:=Z) G.length;omega),?_⟩;refine fld_in A'.st _ λH7 b7 g7=>?_;obtain⟨kv4,T6,_⟩:=J2.st
  have I2:KnR A' H6 l (U6 (df.1.2.1.map (·.1)) M) (3+([]:pZ).length):=by
   refine⟨λz=>?_,_,s6 _ _ S2,by unfold nmD;rw[ZA,List.length_zip,ZA,kM];omega,λx th e=>?_⟩
   .rw [z,T6]at R5;cases R5
   .obtain ⟨v,h1,h2⟩:=N2 (z7.mono<|(s3.trans D).trans T) e
    exact⟨v,h1,h2⟩
  have F7:¬av l:=λz=>by
   obtain⟨o,e⟩:=Nz F2 (m.trans<|.of D) J2 l z;rw[R5]at e;cases e
  have R3:=N.put (s:=⟨df.1.1,[],U6 (df.1.2.1.map (·.1)) M⟩) (k:=k) (by omega) U g6 (T _ _ g4) I2 F7 b7 g7;refine q G _ H7 ?_ z3 (by omega) ?_ R3
  .show ∃M s2 ns,_
   exact⟨M,(G,Z),_,z2,⟨df,T9,ef,Y⟩,by rw[<-ef]⟩
  .exact λb o n1 n2 n3 e=>b7 _ _ n3<|(D.trans T) _ _<|m _ _ n1 n2 n3<|s1 _ _ e
 .rw [ed]at I
  obtain⟨ta,ys,rfl,S,hl⟩:=Yr I;obtain⟨x1,r1,rfl,e1,T8⟩:=Yc hl;obtain rfl:=has_str e1;refine⟨_,_,Z2 S,at0,Y,_,Y,VI (by simp;exact nw) ?_⟩;refine⟨CO,_,_,_,X.ins,TO.cl,TO.f,vP _,sl 3,λt6 M2=>?_⟩;refine up_in M2 _ λH6 s6 g6=>?_;have N:=J.gg.mono s6;have R1:=X.mono s6;exists CO,_,_,_,R1.ins,TO.cl,TO.gr,NU _;rw[gm.gr];obtain⟨I1,U,lst,_⟩:=N.st;refine⟨CG,_,_,_,N.ins,TG.cl,TG.st,Da _,_,Uw.k (k:=Sum.inl (k:Int)) U<|Js (by have:=Et (sts:=sts) cs.length;omega),?_⟩;refine fld_in A'.st _ λH7 b7 g7=>?_;have R3:=N.put (s:=⟨O.F,pl,ρ⟩) (k:=k) hk U g6 (s6 _ _ T7) (T5.mono s6) R7 b7 g7;refine q cs _ H7 ?_ (ZG _) (by omega) ?_ R3
  .cases c <;> first|rfl|exact Zr Y (na _ _)
  .exact λb o n1 n2 n3 e=>b7 _ _ n3<|s6 _ _<|s1 _ _ e
def Oj(c:Bd):(∃t,c=.tag t)\/(∃x,c=.name x) \/ ∃wd r,c.dat=.tup (.str wd::r)/\wd≠"tag" /\wd≠"name" /\(∀t,c≠.tag t)/\∀x,c≠.name x:=by
 cases c <;> first|exact .inl ⟨_,Y⟩|exact .inr (.inl ⟨_,Y⟩)|exact .inr<|.inr ⟨_,_,by unfold Bd.dat;rfl,by decide +kernel,by decide +kernel,λ_ z=>(by cases z),λ_ z=>by cases z⟩
def Xc.le(h:Xc cs c n cs'):n<=cs'.length/\cs.length<=cs'.length/\cs'.length<=cs.length+1:=by
 rcases h with⟨k,Z,rfl,rfl⟩|⟨_,rfl,rfl⟩
 .have:=(ZF.mp Z).1
  omega
 .rw [ZL,vy]
  omega
def C4(TG:GCl K CG)(TO:OCl K CO)(F:Fun K "thing_at" "Going.thing_at" X3 f fd)(DP:Df P w K mg base L "part_at" ["body","place"] J8)(m1:VM K CG "number_at" g1)(G1:Ye P w K mg base CX0 L g1 d1 ["self","maker","place"] (IX P w CG))(b1:Binds K d1 ["self","maker","place"] [])(m2:VM K CO "make_cell" g2)(G2:Ye P w K mg base CX0 L g2 d2 NE (Oq P w C CK CG CO n))(b2:Binds K d2 NE []):Ye P w K mg base CX0 (L+1) f fd spk (E6 P w C CK CG CO<|n+1):=by
 refine F.oi Sk λT7 A J2 s H vs Q E l h=>?_;obtain⟨Hm,A',ks,d,ds,cs,M,av,O,b,c,i,p,kn,ρ,mx,z,hp,j,ok,kr,M2,al,on,lc,lw,q⟩:=h;have hu:=JI l;refine⟨_,YY (Y0 3 Sk.nd<|Vh DP l<|pa2 (Yt (pv 0) rfl)<|pv 1)
  (YY (Y4 (Ys Vi (Ym (r:=VZ K) Yq (pv 3)<|Ya) Yp<|Yz _) (YZ<|Yj<|pv 3) Yo)
  (YY (Y4 (Ys Vi (Ym (r:=VZ K) Yq (pv 3)<|Ya) Yp<|Yz _) (YZ<|Yj<|JN hu (pv 2) (Ym (r:=VZ K) Yq (pv 3)<|Ya) λ_ _=>rfl) Yo)
  (YY (Y0 4 Sk.nd<|Y5 (Yt (pv 0) rfl) TG.cl m1 G1 l b1 .nil Y3<|pa2 (Yt (pv 0) rfl)<|pv 1)
  (YY (VR<|Y5 (pv 0) TO.cl m2 G2 l b2 .nil Y3<|pa3 (pv 4) (pv 1)<|pv 2)
  (YZ<|Yj<|Yi<|pa2 (Yp)<|pv 4))))),?_⟩
 dsimp only[Vb,Cx.nox,Cx.wish];show let T0:=_;let T1:=Yn _ T0;let T2:=Yn _ T1;let T3:=_;let T4:=Yn (VH _ T3 _) T2;let T5:=_;let T6:=Yn (VH _ T5 _) T4;Yn _ T6 _ _ _
 intros
 refine⟨CO,_,_,_,z.ins,TO.cl,TO.bd,LH _,_,p,b,c,i,z.bd,z.ok,hp,j,λu H1 N G=>?_⟩;have Z:=mx.mono N;have T:=z.mono N;have I:=kr.mono N;have U:=N _ _ hp;have R5:∀a,av a->∃o,H1 a=some o:=λa h=>let⟨o,e⟩:=al a h;⟨o,N _ _ e⟩
 have c1:1<=c.size:=by rw[Bd.size_eq];omega
 rcases Oj c with⟨t,rfl⟩|⟨x,rfl⟩|⟨wd,r,ed,n1,n2,n3,n4⟩
 .have hu2:=G
  unfold Bd.dat at G;obtain⟨ta,ys,rfl,J,X⟩:=Yr G;obtain⟨x1,r1,rfl,m,R⟩:=Yc X;obtain rfl:=has_str m;refine⟨_,_,Z2 J,at0,Y,_,Y,VI (by decide +kernel) ?_⟩;exact q _ (.tag t) cs M H1 ⟨_,j,Y,Y⟩ (ZG _) (jy _ _) (.of N) Z.gg hu2
 .unfold Bd.dat at G
  obtain⟨ta,ys,rfl,J,X⟩:=Yr G;obtain⟨x1,r1,rfl,m,R⟩:=Yc X;obtain⟨x2,r2,rfl,e2,R3⟩:=Yc R;obtain rfl:=VB R3;obtain rfl:=has_str m;obtain rfl:=has_str e2;unfold OkT at ok;obtain⟨th,S⟩:=ok;refine⟨_,_,Z2 J,at0,Y,_,Y,Y1 (by decide +kernel) ?_⟩;refine⟨_,_,Z2 J,at0,Y,_,Y,VI (by decide +kernel) ?_⟩;obtain⟨_,R8,k1,_,k2⟩:=id I;obtain⟨v,v1,v2⟩:=k2 x th S;refine⟨_,_,Z2 J,at1,v,by rw[<-v1];exact V9.k (k:=Sum.inr x) k1,?_⟩;exact q _ th cs M H1 ⟨_,j,S,Y⟩ (ZG _) (jy _ _) (.of N) Z.gg v2
 .rw [ed]at G
  obtain⟨ta,ys,rfl,J,X⟩:=Yr G;obtain⟨x1,r1,rfl,m,R⟩:=Yc X;obtain rfl:=has_str m;refine⟨_,_,Z2 J,at0,Y,_,Y,Y1 (Rt n1) ?_⟩;refine⟨_,_,Z2 J,at0,Y,_,Y,Y1 (Rt n2) ?_⟩;exists CO,_,_,_,T.ins,TO.cl,TO.gr,NU _;rw[z.gr];refine⟨_,_,Z.gg.ins,Qx _,CO,_,_,_,T.ins,TO.cl,TO.nu,EU _,A',cs,M,av,O.n,i,p,Z.gg,U,on,by omega,λk g H2 na B g2=>?_⟩;obtain⟨G3,R7,R6⟩:=Xc.le na;have O1:=Z.fr B g2;have y:=T.fr Z.gg B;refine⟨_,_,y.ins,Qn _,Hm,A',ks,d,ds,g,M,av,O,b,c,i,p,kn,ρ,k,O1,y,Z.gg.tk B _ _ U,j,ok,I.fr Z.gg B,M2,Nz R5 B g2,by omega,by omega,by omega,G3,λR4 D H3 mc l1 l2 f3 g3=>⟨sl 2,λt4 R1=>?_⟩⟩;refine up_in R1 _ λH4 s4 g4=>?_;refine q _ (.cell k) R4 D H4 ⟨c,j,?_⟩ (by omega) (by omega) ((FrG.of N).trans<|B.trans<|f3.trans<|.of s4) (g3.mono s4) ?_
  .cases c <;> first|exact Zr Y (n3 _)|exact Zr Y (n4 _)|exact⟨k,g,na,Y,mc⟩
  .unfold Tg.dat
   exact Yu g4<|Z4 Yy<|Z5 (by unfold Has;rfl)
theorem QY(B:Blt Z)(TG:GCl K CG)(TO:OCl K CO)(j:Fun K "thing_at" "Going.thing_at" X3 f J)(N:Fun K "make_cell" "Going.make_cell" XR f' fd')(G:Df P w K Z base L "part_at" ["body","place"] J8)(R:Df P w K Z base L "named" ["book","f","things"] (IW C CK))(F:VM K CG "number_at" m)(X:Ye P w K Z base CX0 L m g ["self","maker","place"] (IX P w CG))(U:Binds K g ["self","maker","place"] [])(M:VM K CO "thing_at" f)(bT:Binds K J spk [])(D:VM K CO "make_cell" f')(S:Binds K fd' NE []):∀n:Nat,Ye P w K Z base CX0 (L+2*n) f J spk (E6 P w C CK CG CO n)/\Ye P w K Z base CX0 (L+2*n+1) f' fd' NE (Oq P w C CK CG CO n)
 |0=>by
  have I:Ye P w K Z base CX0 (L+2*0) f J spk (E6 P w C CK CG CO 0):=.none λk H Q E h=>by
   obtain⟨Hm,A',o,d,ds,cs,y,av,O,b,c,u,p,s,ρ,r,gm,a,x,T,i,z,al,v,e,l,q⟩:=h;unfold OkT at T;exact T
  exact⟨I,Qi B TG TO N G R M I bT⟩
 |n+1=>by
  obtain⟨_,t⟩:=QY B TG TO j N G R F X U M bT D S n;have A:Ye P w K Z base CX0 (L+2*(n+1)) f J spk (E6 P w C CK CG CO<|n+1):=C4 (L:=L+2*n+1) TG TO j (G.up<|by omega) F (X.mono<|by omega) U D t S;exact⟨A,Qi B TG TO N (G.up<|by omega) (R.up<|by omega) M A bT⟩
end
end K4
namespace L2
open PySem
def Xi(ρ:Rho)(x:Str)(th:Tg):Rho:=λy=>if y=x then some th else ρ y
def Bd.cellB:Bd->Prop
 |.tag _=>False
 |.name _=>False
 |_=>True
def Fh{c:Bd}(h:c.cellB):∃wd r,c.dat=.tup (.str wd::r)/\wd≠"tag" /\wd≠"name":=by
 cases c <;> first|exact h.elim|exact⟨_,_,by unfold Bd.dat;rfl,by decide +kernel,by decide +kernel⟩
end L2
namespace K4
open PySem L2
section
variable{C CK CG CO CW CD:Addr}
def AZ(A:OM):(Jm A).lookup ("ground":Str)=some (V.ref A.gr):=rfl
def Ap(A:GA):(U0 A).lookup ("head_given":Str)=none:=rfl
theorem WQ:∀Z:pX,HasL H (Z.map V.str)<|(Z.map W.tag).map W.dat
 |[]=>Z6
 |g::Z=>Z4 (by unfold W.dat Has;rfl)<|WQ Z
inductive yW(CG CO:Addr)(H:Hp)(Q:VK):List V->Prop
 |mk (A:GA) (O:OM) (b:Bd) (y:V) (th:Tg) (gm:GM H CO A O b) (ins:H A.t=some (.ins CG A.dx (U0 A))) (gv:H A.gv=some (.tup (A.gs.map V.str))) (l3:A.gs.length<=3) (hy:Has H y th.dat) (q1:∀n,th=.cell n->∀u H',Same H H'->Has H' u (.tup [.str "want",.int (n:Nat)])->Q u H') (q2:∀t,th=.tag t->∀u H',Same H H'->Has H' u (.tup [.str "head",tagD t])->Q u H') (q3:∀i,th=.giv i->∃t,A.gs[i]?=some t/\∀u H',Same H H'->Has H' u (.tup [.str "head",tagD t])->Q u H'):yW CG CO H Q [.ref O.t,y]
def Ia(CG CO:Addr):Sp:=λZ H Q _=>yW CG CO H Q Z
def AS(TG:GCl K CG)(TO:OCl K CO)(F:Fun K "from_thing" "Going.from_thing" Xm f fd)(m:VM K CG "head_given" g)(G:Ye P w K mg base CX0 n g gd iwy (Sa CG))(bG:Binds K gd iwy []):Ye P w K mg base CX0 (n+1) f fd ["self","thing"] (Ia CG CO):=by
 refine F.oi y6 λJ2 A U s H vs Q E hr h=>?_;obtain⟨A',O,b,y,th,x,ins,gv,l3,L,q1,q2,S⟩:=h;refine⟨_,YY (Y4 (Ys Vi (Ym (r:=VZ K) Yq (pv 1)<|Ya) Yp<|Yz _) (YZ<|Yj<|Yi<|pa2 (Yp)<|Ym (r:=VZ K) Yq (pv 1)<|Ya) Yo)
  (YY (Y4 (Ys Vi (Ym (r:=VZ K) Yq (pv 1)<|Ya) Yp<|Yz _) (YZ<|Yj<|Y5 (Yt (pv 0) rfl) TG.cl m G hr bG .nil Y3<|pa2 (Ym (r:=VZ K) Yq (pv 1)<|Ya)<|Ym (r:=VZ K) Yq (pv 1)<|Ya) Yo)
  (YZ<|Yj<|Yi<|pa2 (Yp)<|pv 1)),?_⟩
 dsimp only[Vb,Cx.nox,Cx.wish];show let T0:=_;let T1:=_;let T2:=Yn (VH _ T1 _) T0;let T3:=_;Yn (VH _ T3 _) T2 _ _ _
 intros
 cases th with
 |giv i=>
  obtain⟨I,j,S⟩:=S i rfl;unfold Tg.dat TU at L;obtain⟨t,v,rfl,M,R⟩:=Yr L;obtain⟨e,o,rfl,T,Z⟩:=Yc R;obtain⟨l,r2,rfl,D,N⟩:=Yc Z;obtain⟨x3,r3,rfl,e3,q⟩:=Yc N;obtain rfl:=VB q;obtain rfl:=has_str T;obtain rfl:l=.int (i:Nat):=by unfold Has at D;exact D
  have B:=Z2 (K:=K) M;refine⟨_,_,B,at0,Y,_,Y,Y1 (by decide +kernel) ?_⟩;refine⟨_,_,B,at0,Y,_,Y,VI (by decide +kernel) ?_⟩;exists CO,_,_,_,x.ins,TO.cl,TO.gr,AZ _;rw[x.gr];refine⟨_,_,ins,Ap _,_,_,B,at1,_,_,B,at2,A',A'.gs.map W.tag,i,.tag I,_,[],⟨ins,_,gv,WQ _⟩,by rw[ZH,j];rfl,by rw[ZA];exact l3,e3,λk h=>(by cases h),by decide,λu d J a=>S u d J ?_⟩;have ep:(W.tag I).part []=.tag I:=by unfold W.part;rfl
  rw[ep]at a;exact a
 |cell n'=>
  unfold Tg.dat at L;obtain⟨t,v,rfl,M,R⟩:=Yr L;obtain⟨e,o,rfl,T,Z⟩:=Yc R;obtain⟨l,r2,rfl,D,N⟩:=Yc Z;obtain rfl:=VB N;obtain rfl:=has_str T;refine⟨_,_,Z2 M,at0,Y,_,Y,VI (by decide +kernel) ⟨_,_,Z2 M,at1,sl 2,λp z=>?_⟩⟩;refine up_in z _ λd J c=>q1 n' Y _ _ J ?_;exact Yu c<|Z4 Yy<|Z5<|D.mono J
 |tag t'=>
  have X:=L;unfold Tg.dat at L;obtain⟨t,v,rfl,M,R⟩:=Yr L;obtain⟨e,o,rfl,T,Z⟩:=Yc R;obtain rfl:=has_str T;refine⟨_,_,Z2 M,at0,Y,_,Y,Y1 (by decide +kernel) ?_⟩;refine⟨_,_,Z2 M,at0,Y,_,Y,Y1 (by decide +kernel) ⟨sl 2,λp z=>?_⟩⟩;refine up_in z _ λd J c=>q2 t' Y _ _ J ?_;exact Yu c<|Z4 Yy<|Z5<|X.mono J
def NG:Yh ["self","body","place","known","word","name","kind","own","rest","within","number"] ["self","body","place","known"] (Yd TD):=Y2
inductive SWL(P:Program)(w:World)(C CK CG CO:Addr)(n:Nat)(H:Hp)(Q:VK):List V->Prop
 |mk (Hm:Hp) (A:GA) (ks:List (Str×Shp)) (d:Str->Nat) (ds:List Dd) (cs:List Mk1) (sts:Nat->Option Sta) (av:Addr->Prop) (O:OM) (b:Bd) (x k':Str) (e r:Bd) (pl:List Int) (y:V) (p kn:Addr) (ρ:Rho) (mx:MX P w Hm H C CK CG A ks d ds cs sts av) (gm:GM H CO A O b) (hp:H p=some (.tup (pl.map V.int))) (hc:b.at pl=some (.letb x k' e r)) (hy:Has H y (Bd.letb x k' e r).dat) (ce:e.cellB) (ok:∀k,OkT ds (Xi ρ x (.cell k)) (n+1) e) (kr:KnR A H kn ρ (3+pl.length)) (al:∀a,av a->∃o,H a=some o) (on:O.n<=cs.length) (lc:cs.length+e.size<=9000) (lw:pl.length+n+2<=500)
  (q:∀kn' k cs1 s2 H',Xc cs (O.n,pl++[0]) k cs1->MCp ds O.F (Xi ρ x (.cell k)) (λi=>TAp ds O.F b O.n (Xi ρ x (.cell k)) n (pl++[0]++[(i:Int)])) e (pl++[0]) k (cs1,sts) s2->cs.length<=s2.1.length->s2.1.length<=cs.length+e.size->FrG A H H'->GG P w H' CG A s2.1 s2.2 av->H kn'=none->KnR A H' kn' (Xi ρ x (.cell k)) (3+(pl++[1]).length)->Q (.ref kn') H'):SWL P w C CK CG CO n H Q [.ref O.t,y,.ref p,.ref kn]
def SU(P:Program)(w:World)(C CK CG CO:Addr)(n:Nat):Sp:=λZ H Q _=>SWL P w C CK CG CO n H Q Z
def C2(B:Blt mg)(TG:GCl K CG)(TO:OCl K CO)(F:Fun K "with_let" "Going.with_let" TD f fd)(m1:VM K CG "number_at" g1)(G1:Ye P w K mg base CX0 L g1 d1 ["self","maker","place"] (IX P w CG))(b1:Binds K d1 ["self","maker","place"] [])(m2:VM K CO "make_cell" g2)(G2:Ye P w K mg base CX0 L g2 d2 NE (Oq P w C CK CG CO n))(b2:Binds K d2 NE []):Ye P w K mg base CX0 (L+1) f fd ["self","body","place","known"] (SU P w C CK CG CO n):=by
 refine F.oi NG λcdv A D0 s H vs Q E hr h=>?_;obtain⟨Hm,N,ks,d,ds,cs,R,av,O,b,x,k',e,r,m,y,p,kn,ρ,J,gm,hp,hc,hy,ce,ok,kr,al,on,lc,lw,q⟩:=h;have hu:=JI hr;refine⟨_,YY (Jh (pv 1)<|VU (n:=5) rfl (Yk (Yl 4 NG.nd)<|Yk (Yl 5 NG.nd)<|Yk (Yl 6 NG.nd)<|Yk (Yl 7 NG.nd)<|Yk (Yl 8 NG.nd) VJ))
  (YY (Y0 9 NG.nd<|VW Do rfl B.dict UL (pa1<|pv 3))
  (YY (Y4 (PW.pt<|UZ (Ys Vi (Ym (r:=VZ K) Yq (pv 7)<|Ya) Yp<|Yz _)<|UG<|PW.pt<|Bs (Ys Vi (Ym (r:=VZ K) Yq (pv 7)<|Ya) Yp<|Yz _)<|MS<|Ys UJ (Ym (r:=VZ K) Yq (pv 7)<|Ya) (pv 5)<|Yz _) J9 Yo)
  (YY (Y0 10 NG.nd<|Y5 (Yt (pv 0) rfl) TG.cl m1 G1 hr b1 .nil Y3<|pa2 (Yt (pv 0) rfl)<|Y9 (r:=λx y H Q=>UY K x y H Q\/UX K x y H Q) J6 (pv 2)<|Yi<|pa1<|Ya)
  (YY (Vw hu (pv 9) (pv 5) (Yi<|pa2 (Yp)<|pv 10) rfl)
  (YY (VR<|Y5 (pv 0) TO.cl m2 G2 hr b2 .nil Y3<|pa3 (pv 10) (Y9 (r:=λx y H Q=>UY K x y H Q\/UX K x y H Q) J6 (pv 2)<|Yi<|pa1<|Ya)<|pv 9)
  (YZ<|Yj<|pv 9)))))),?_⟩
 dsimp only[Vb,Cx.nox,Cx.wish];show let T0:=_;let T1:=Yn _ T0;let T2:=Yn _ T1;let T3:=Yn _ T2;let T4:=Yn (VH _ _ _) T3;let T5:=Yn _ T4;Yn _ T5 _ _ _
 intros
 unfold Bd.dat at hy;obtain⟨ta,ys,rfl,F5,hl⟩:=Yr hy;obtain⟨x1,r1,rfl,e1,R3⟩:=Yc hl;obtain⟨x2,r2,rfl,e2,R1⟩:=Yc R3;obtain⟨x3,r3,rfl,e3,O1⟩:=Yc R1;obtain⟨x4,r4,rfl,e4,M2⟩:=Yc O1;obtain⟨x5,r5,rfl,e5,G3⟩:=Yc M2;obtain rfl:=VB G3;obtain rfl:=has_str e1;obtain rfl:=has_str e2;obtain rfl:=has_str e3;clear hl R3 R1 O1 M2 G3;exists _,Z2 F5,Y;obtain⟨I9,F4,R4,lk,I1⟩:=id kr;refine⟨kn,F4,Y,R4,λl D=>?_⟩;refine up_in D _ λH1 I g1=>?_;obtain⟨wd,rr,ed,n1,n2⟩:=Fh ce;have R5:=e4.mono I;rw[ed]at R5;obtain⟨te,I5,rfl,J2,F9⟩:=Yr R5;obtain⟨z1,rz,rfl,X,_⟩:=Yc F9;obtain rfl:=has_str X;refine⟨_,_,Z2 J2,at0,Y,_,Y,Y1 (Rt n1) ?_⟩;refine⟨_,_,Z2 J2,at0,Y,_,Y,Y1 (Rt n2)<|Y1 (by simp) ?_⟩;have T7:=J.gg.avoid D I
 let T8:Addr->Prop:=λa=>av a\/a=l
 have F3:MX P w Hm H1 C CK CG N ks d ds cs R T8:=⟨J.sm.trans I,J.bi,J.f1,J.f2,J.f3,T7⟩;have S:=gm.mono I;exists CO,_,_,_,S.ins,TO.cl,TO.gr,NU _;rw[gm.gr];refine⟨_,_,T7.ins,Qx _,CO,_,_,_,S.ins,TO.cl,TO.nu,EU _,sl 1,λt2 F8=>?_⟩;refine up_in F8 _ λH2 s2 g2=>?_;refine UT (JW<|s2 _ _<|I _ _ hp) (UR g2) (by simp) (by simp;omega) λu3 H3 s3 h3=>?_;obtain⟨a3,rfl,I4⟩:=Jw h3;have G:=s2.trans s3;have T:=F3.mono G;refine⟨N,cs,R,T8,O.n,m++[0],a3,T.gg,I4,on,by omega,λk t H4 na f4 T6=>?_⟩;obtain⟨F1,I7,I6⟩:=Xc.le na;have I8:=T.fr f4 T6;have gm4:=(S.mono G).fr T.gg f4
 have M:l≠N.bs/\l≠N.nu/\l≠N.st:=by
  obtain⟨xs,h1,_⟩:=J.gg.bs;obtain⟨S2,h2,_⟩:=J.gg.nu;obtain⟨S1,h3,_⟩:=J.gg.st;exact⟨(Yb h1 D).symm,(Yb h2 D).symm,(Yb h3 D).symm⟩
 have R8:=f4 _ _ M.1 M.2.1 M.2.2<|G _ _ g1;refine⟨sl 2,λt5 F7=>?_⟩;refine up_in F7 _ λH5 u g5=>?_;refine⟨_,Uw.k (k:=Sum.inr x) (u _ _ R8)<|Js<|by omega,?_⟩;refine fld_in l _ λH6 b6 g6=>?_;have R7:=u _ _ R8;have T9:TK H5 H6:=λa ys h=>b6 _ _ (Yw h R7 (by intro z;cases z)) h;have knl:kn≠l:=Yb R4 D;have S3:KnR N H5 kn ρ (3+m.length):=((kr.mono<|I.trans G).fr T.gg f4).mono u;have U:GG P w H6 CG N t R av:=((T6.mono u).wr R7 (.inr rfl) b6 M.2.2).less λa h=>.inl h;have g:FrG N H H6:=λb o n1 n2 n3 h=>b6 _ _ (Yb h D)<|u _ _<|f4 _ _ n1 n2 n3<|G _ _<|I _ _ h;have F2:=J.fr g U;have R6:=gm.fr J.gg g
 have i:KnR N H6 l (Xi ρ x<|.cell k) (3+m.length+1):=by
  refine⟨M.2.2,_,g6,Zb (Vd _ _ _)<|jF lk,λz th X=>?_⟩;unfold Xi at X
  by_cases zx:z=x
  .rw [Zp zx]at X
   cases X;refine⟨.ref t5,by rw[JL,Zp (by rw[zx])],?_⟩;unfold Tg.dat;exact Yu (T9 _ _ g5)<|Z4 Yy<|Z5 (by unfold Has;rfl)
  .rw [Zq zx]at X
   obtain⟨v,v1,v2⟩:=I1 z th X;exact⟨v,by rw[JL,Zq (λq=>zx<|Sum.inr.inj q)];exact v1,VL (J.gg.tk g) _ (Tg.ti th) v2⟩
 refine⟨_,_,R6.ins,Qn _,sl 1,λt7 F6=>?_⟩;refine up_in F6 _ λH7 s7 g7=>?_;refine UT (JW<|s7 _ _<|J.gg.tk g _ _ hp) (UR g7) (by simp) (by simp;omega) λu8 H8 s8 h8=>?_;obtain⟨a8,rfl,I3⟩:=Jw h8;have Z:=s7.trans s8;have I2:b.at (m++[0])=some e:=Bd.at_snoc m hc (by decide) rfl
 have D3:¬av l:=λz=>by
  obtain⟨o,e⟩:=al l z;rw[D]at e;cases e
 refine⟨Hm,N,ks,d,ds,t,R,av,O,b,e,m++[0],a8,l,Xi ρ x<|.cell k,k,F2.mono Z,R6.mono Z,I3,I2,ok k,(i.mono Z).le (by rw[ZL,vy];omega),D3,Nz al (g.trans<|.of Z)<|U.mono Z,by omega,by omega,by rw[ZL,vy];omega,F1,λj c H9 mc l1 l2 f9 g9=>?_⟩;refine q l k t (j,c) H9 na mc (by show cs.length<=j.length;omega) (by show j.length<=_;omega) (g.trans<|(FrG.of Z).trans f9) g9 D<|((i.mono Z).fr (U.mono Z) f9).le (by rw[ZL,vy];omega)
end
end K4
namespace L2
open PySem
abbrev av0:Addr->Prop:=λ_=>False
abbrev WEn:=Bd×List Int×Rho
def StB(A:GA)(av:Addr->Prop)(H:Hp)(u:V)(pl:pZ)(ρ:Rho):Prop:=∃t p Z,u=.ref t/\H t=some (.tup [.str "body",.ref p,.ref Z])/\H p=some (.tup<|pl.map V.int)/\KnR A H Z ρ (3+pl.length)/\ ¬av Z
def WEm(A:GA)(av:Addr->Prop)(H:Hp)(z:V)(c:WEn):Prop:=∃t J p Z,z=.ref t/\H t=some (.tup [J,.ref p,.ref Z])/\Has H J c.1.dat/\H p=some (.tup<|c.2.1.map V.int)/\KnR A H Z c.2.2 (3+c.2.1.length)/\ ¬av Z
def OkB(ds:List Dd)(ρ:Rho)(n:Nat):Bd->Prop
 |.tag _=>True
 |.name x=>∃th,ρ x=some th
 |.ask f as=>OkT ds ρ (n+1)<|.ask f as
 |.letb x _ e _=>e.cellB/\∀k,OkT ds (Xi ρ x<|.cell k) (n+1) e
 |.choose _ _ _=>True
 |_=>False
def GG.lb(g:GG P w H CG A cs sts av)(J:H l=some (.lst o))(n:l≠A.bs)(b:SameB l H r):GG P w r CG A cs sts av:=by
 obtain⟨T,u,f⟩:=g.bs;obtain⟨y,R,d,O⟩:=g.nu;obtain⟨G,N,c,m⟩:=g.st;have Z:=JS b J;refine⟨b _ _ (Yw g.ins J (by intro z;cases z)) g.ins,⟨T,b _ _ n.symm u,VS Z _ (UM cs) f⟩,⟨y,b _ _ (Yw R J Up) R,d.tk O Z,O⟩,g.nd,Z _ _ g.gv,G,b _ _ (Yw N J (by intro z;cases z)) N,c,λk st e=>?_⟩;obtain⟨t,p,q,Q,X,C,U,S⟩:=m k st e;obtain⟨E,j,L,B,D⟩:=U;exact⟨t,p,q,Q,Z _ _ X,Z _ _ C,⟨E,j,b _ _ (Yw L J (by intro z;cases z)) L,B,λx M e=>let⟨v,I,F⟩:=D x M e;⟨v,I,VL Z _ (Tg.ti M) F⟩⟩,S⟩
def KnR.lb(k:KnR A H a ρ m)(G:H l=some (.lst B))(b:SameB l H T):KnR A T a ρ m:=by
 obtain⟨n,Z,L,O,R⟩:=k;exact⟨n,Z,b _ _ (Yw L G (by intro z;cases z)) L,O,λx J e=>let⟨v,N,M⟩:=R x J e;⟨v,N,VL (JS b G) _ (Tg.ti J) M⟩⟩
end L2
namespace K4
open PySem L2
section
variable{C CK CG CO CW CD:Addr}
def zO(A:OM):(Jm A).lookup ("with_let":Str)=none:=rfl
inductive yY(P:Program)(w:World)(C CK CG CO:Addr)(n:Nat)(H:Hp)(Q:VK):List V->Prop
 |mk (Hm:Hp) (A:GA) (ks:List (Str×Shp)) (d:Str->Nat) (ds:List Dd) (cs:List Mk1) (sts:Nat->Option Sta) (av:Addr->Prop) (O:OM) (b c:Bd) (pl:List Int) (p kn:Addr) (ρ:Rho) (zs:List V) (mx:MX P w Hm H C CK CG A ks d ds cs sts av) (gm:GM H CO A O b) (hz:H O.wl=some (.lst zs)) (wb:O.wl≠A.bs) (hp:H p=some (.tup (pl.map V.int))) (hc:b.at pl=some c) (ok:OkB ds ρ n c) (kr:KnR A H kn ρ (3+pl.length)) (nk:¬av kn) (al:∀a,av a->∃o,H a=some o) (on:O.n<=cs.length) (lc:cs.length+c.size<=9000) (lw:pl.length+n<=400) (lz:zs.length<=400)
  (q1:∀t,c=.tag t->∀u H',Same H H'->Has H' u (.tup [.str "head",tagD t])->Q u H') (q2:∀x th,c=.name x->ρ x=some th->∀u H',Same H H'->Has H' u (.tup [.str "thing",th.dat])->Q u H')
  (q3:∀f as,c=.ask f as->∀u th cs' sts' H',TAp ds O.F b O.n ρ (n+1) pl (cs,sts) th (cs',sts')->cs.length<=cs'.length->cs'.length<=cs.length+c.size->FrG A H H'->GG P w H' CG A cs' sts' av->Has H' u (.tup [.str "thing",th.dat])->Q u H')
  (q4:∀x k' e r,c=.letb x k' e r->∀u k cs1 s2 H',Xc cs (O.n,pl++[0]) k cs1->MCp ds O.F (Xi ρ x (.cell k)) (λi=>TAp ds O.F b O.n (Xi ρ x (.cell k)) n (pl++[0]++[(i:Int)])) e (pl++[0]) k (cs1,sts) s2->cs.length<=s2.1.length->s2.1.length<=cs.length+c.size->FrG A H H'->GG P w H' CG A s2.1 s2.2 av->StB A av H' u (pl++[1]) (Xi ρ x (.cell k))->Q u H')
  (q5:∀e ts bs,c=.choose e ts bs->∀u z H',SameB O.wl H H'->H' O.wl=some (.lst (zs++[z]))->WEm A av H' z (c,pl,ρ)->StB A av H' u (pl++[0]) ρ->Q u H'):yY P w C CK CG CO n H Q [.ref O.t,.ref p,.ref kn]
def Ic(P:Program)(w:World)(C CK CG CO:Addr)(n:Nat):Sp:=λZ H Q _=>yY P w C CK CG CO n H Q Z
def AU(TO:OCl K CO)(F:Fun K "from_body" "Going.from_body" Wo f fd)(DP:Df P w K mg base L "part_at" ["body","place"] J8)(m1:VM K CO "thing_at" g1)(G1:Ye P w K mg base CX0 L g1 d1 spk (E6 P w C CK CG CO<|n+1))(b1:Binds K d1 spk [])(m2:VM K CO "with_let" g2)(G2:Ye P w K mg base CX0 L g2 d2 ["self","body","place","known"] (SU P w C CK CG CO n))(b2:Binds K d2 ["self","body","place","known"] []):Ye P w K mg base CX0 (L+1) f fd ["self","place","known"] (Ic P w C CK CG CO n):=by
 refine F.oi Co λF9 A R5 s H vs Q E hr h=>?_;obtain⟨Hm,A',ks,d,ds,cs,J2,av,O,b,c,pl,p,kn,ρ,zs,mx,gm,hz,wb,hp,hc,m,kr,nk,al,on,lc,lw,lz,q1,q2,q3,q4,q5⟩:=h;have hu:=JI hr;refine⟨_,YY (Y0 3 Co.nd<|Vh DP hr<|pa2 (Yt (pv 0) rfl)<|pv 1)
  (YY (Y4 (Ys Vi (Ym (r:=VZ K) Yq (pv 3)<|Ya) Yp<|Yz _) (YZ<|Yj<|Yi<|pa2 (Yp)<|pv 3) Yo)
  (YY (Y4 (Ys Vi (Ym (r:=VZ K) Yq (pv 3)<|Ya) Yp<|Yz _) (YZ<|Yj<|Yi<|pa2 (Yp)<|JN hu (pv 2) (Ym (r:=VZ K) Yq (pv 3)<|Ya) λ_ _=>rfl) Yo)
  (YY (Y4 (Ys Vi (Ym (r:=VZ K) Yq (pv 3)<|Ya) Yp<|Yz _) J9 Yo)
  (YY (Y4 (Ys Vi (Ym (r:=VZ K) Yq (pv 3)<|Ya) Yp<|Yz _) (YZ<|Yj<|Yi<|pa2 (Yp)<|Y5 (pv 0) TO.cl m1 G1 hr b1 .nil Y3<|pa2 (pv 1)<|pv 2) Yo)
  (YY (Y4 (Ys Vi (Ym (r:=VZ K) Yq (pv 3)<|Ya) Yp<|Yz _) (YZ<|Yj<|Yi<|pa3 (Yp) (Y9 (r:=λx y H Q=>UY K x y H Q\/UX K x y H Q) J6 (pv 1)<|Yi<|pa1<|Ya)<|Y5 (pv 0) TO.cl m2 G2 hr b2 .nil Y3<|pa3 (pv 3) (pv 1)<|pv 2) Yo)
  (YY (VR<|UI Zz Z0 Z1 Ve (Yt (pv 0) rfl)<|pa1<|Yi<|pa3 (pv 3) (pv 1)<|pv 2)
  (YZ<|Yj<|Yi<|pa3 (Yp) (Y9 (r:=λx y H Q=>UY K x y H Q\/UX K x y H Q) J6 (pv 1)<|Yi<|pa1<|Ya)<|pv 2))))))),?_⟩
 dsimp only[Vb,Cx.nox,Cx.wish];show let T0:=_;let T1:=Yn _ T0;let T2:=_;let T3:=Yn (VH _ T2 _) T1;let T4:=_;let T5:=Yn (VH _ T4 _) T3;let T6:=Yn (VH _ _ _) T5;let T7:=_;let T8:=Yn (VH _ T7 _) T6;let T9:=_;let F6:=Yn (VH _ T9 _) T8;Yn _ F6 _ _ _
 intros
 refine⟨CO,_,_,_,gm.ins,TO.cl,TO.bd,LH _,_,p,b,c,pl,gm.bd,gm.ok,hp,hc,λu H1 T Z=>?_⟩;have g:=mx.mono T;have D:=gm.mono T;have I:=kr.mono T;have R4:∀a,av a->∃o,H1 a=some o:=λa h=>let⟨o,e⟩:=al a h;⟨o,T _ _ e⟩
 have U:=T _ _ hp;have S:=Z
 cases c with
 |pair=>exact m.elim
 |one=>exact m.elim
 |other=>exact m.elim
 |tag t=>
  unfold Bd.dat at Z;obtain⟨a,ys,rfl,J,X⟩:=Yr Z;obtain⟨x1,r1,rfl,j,B⟩:=Yc X;obtain rfl:=has_str j;refine⟨_,_,Z2 J,at0,Y,_,Y,VI (by decide +kernel) ⟨sl 2,λr R=>?_⟩⟩;refine up_in R _ λH2 N g2=>q1 t Y _ _ (T.trans N) ?_;unfold Bd.dat at S;exact Yu g2<|Z4 Yy<|Z5<|S.mono N
 |name x=>
  unfold Bd.dat at Z;obtain⟨a,ys,rfl,J,X⟩:=Yr Z;obtain⟨x1,r1,rfl,j,B⟩:=Yc X;obtain⟨x2,r2,rfl,e2,F1⟩:=Yc B;obtain rfl:=VB F1;obtain rfl:=has_str j;obtain rfl:=has_str e2;obtain⟨th,O1⟩:=m;refine⟨_,_,Z2 J,at0,Y,_,Y,Y1 (by decide +kernel) ?_⟩;refine⟨_,_,Z2 J,at0,Y,_,Y,VI (by decide +kernel) ?_⟩;obtain⟨_,F7,k1,_,k2⟩:=id I;obtain⟨v,v1,v2⟩:=k2 x th O1;refine⟨_,_,Z2 J,at1,v,by rw[<-v1];exact V9.k (k:=Sum.inr x) k1,⟨sl 2,λr R=>?_⟩⟩;refine up_in R _ λH2 N g2=>q2 x th Y O1 _ _ (T.trans N) ?_;exact Yu g2<|Z4 Yy<|Z5<|v2.mono N
 |ask f' as=>
  unfold Bd.dat at Z;obtain⟨a,ys,rfl,J,X⟩:=Yr Z;obtain⟨x1,r1,rfl,j,B⟩:=Yc X;obtain rfl:=has_str j;refine⟨_,_,Z2 J,at0,Y,_,Y,Y1 (by decide +kernel) ?_⟩;refine⟨_,_,Z2 J,at0,Y,_,Y,Y1 (by decide +kernel) ?_⟩;refine⟨_,_,Z2 J,at0,Y,_,Y,Y1 (by decide +kernel) ?_⟩;refine⟨_,_,Z2 J,at0,Y,_,Y,VI (by decide +kernel) ?_⟩;refine⟨_,_,D.ins,Qm _,Hm,A',ks,d,ds,cs,J2,av,O,b,_,pl,p,kn,ρ,g,D,U,hc,m,I,nk,R4,on,lc,by omega,λu2 th F4 i H2 ta l1 l2 f2 g2 hu=>⟨sl 2,λr R=>?_⟩⟩;refine up_in R _ λH3 s3 g3=>q3 f' as Y _ th F4 i H3 ta l1 l2 ((FrG.of T).trans<|f2.trans<|.of s3) (g2.mono s3) ?_;exact Yu g3<|Z4 Yy<|Z5<|hu.mono s3
 |letb x k' e r=>
  unfold Bd.dat at Z;obtain⟨a,ys,rfl,J,X⟩:=Yr Z;obtain⟨x1,r1,rfl,j,B⟩:=Yc X;obtain rfl:=has_str j;refine⟨_,_,Z2 J,at0,Y,_,Y,Y1 (by decide +kernel) ?_⟩;refine⟨_,_,Z2 J,at0,Y,_,Y,Y1 (by decide +kernel) ?_⟩;refine⟨_,_,Z2 J,at0,Y,_,Y,Y1 (by decide +kernel) ?_⟩;refine⟨_,_,Z2 J,at0,Y,_,Y,Y1 (by decide +kernel) ?_⟩;refine⟨_,_,Z2 J,at0,Y,_,Y,VI (by decide +kernel) ⟨sl 1,λt2 D3=>?_⟩⟩;refine up_in D3 _ λH2 N g2=>?_;refine UT (JW<|N _ _ U) (UR g2) (by simp) (by simp;omega) λu3 H3 s3 h3=>?_;obtain⟨a3,rfl,F3⟩:=Jw h3;have G:=N.trans s3;have R3:∀a,av a->∃o,H3 a=some o:=λa h=>let⟨o,e⟩:=R4 a h;⟨o,G _ _ e⟩
  have F8:(Bd.letb x k' e r).size=1+(e.size+r.size):=by conv=>lhs;unfold Bd.size
  refine⟨_,_,(D.mono G).ins,zO _,Hm,A',ks,d,ds,cs,J2,av,O,b,x,k',e,r,pl,_,p,kn,ρ,g.mono G,D.mono G,G _ _ U,hc,S.mono G,m.1,m.2,I.mono G,R3,on,by omega,by omega,λR7 k F5 s4 H4 na mc l1 l2 f4 g4 fk R6=>⟨sl 3,λt5 D0=>?_⟩⟩;refine up_in D0 _ λH5 l g5=>q4 x k' e r Y _ k F5 s4 H5 na mc l1 (by omega) ((FrG.of<|T.trans G).trans<|f4.trans<|.of l) (g4.mono l) ⟨t5,a3,R7,rfl,g5,l _ _<|(g.mono G).gg.tk f4 _ _ F3,R6.mono l,λz=>let⟨o,e⟩:=R3 _ z;by rw[fk]at e;cases e⟩
 |choose e ts bs=>
  unfold Bd.dat at Z;obtain⟨a,ys,rfl,J,X⟩:=Yr Z;obtain⟨x1,r1,rfl,j,B⟩:=Yc X;obtain rfl:=has_str j;refine⟨_,_,Z2 J,at0,Y,_,Y,Y1 (by decide +kernel) ?_⟩;refine⟨_,_,Z2 J,at0,Y,_,Y,Y1 (by decide +kernel) ?_⟩;refine⟨_,_,Z2 J,at0,Y,_,Y,Y1 (by decide +kernel) ?_⟩;refine⟨_,_,Z2 J,at0,Y,_,Y,Y1 (by decide +kernel) ?_⟩;refine⟨_,_,Z2 J,at0,Y,_,Y,Y1 (by decide +kernel) ?_⟩;refine⟨CO,_,_,_,D.ins,TO.cl,TO.wt,ET _,.inl ⟨Y,_,Z3<|T _ _ hz⟩,sl 3,λr R=>?_⟩;refine up_in R _ λH2 N g2=>⟨O.wl,_,_,Y,Y,N _ _<|T _ _ hz,Js<|by omega,?_⟩;have M2:=N _ _<|T _ _ hz;refine fld_in O.wl _ λH3 b3 g3=>⟨sl 1,λo ho=>?_⟩;have q:=JS b3 M2;refine up_in ho _ λH4 s4 g4=>?_;have R1:=q _ _<|N _ _ U;refine UT (JW<|s4 _ _ R1) (UR g4) (by simp) (by simp;omega) λu5 H5 l h5=>⟨sl 3,λt6 R8=>?_⟩;refine up_in R8 _ λH6 s6 g6=>?_;have M:=(s4.trans l).trans s6;obtain⟨a5,rfl,F2⟩:=Jw h5;have G3:KnR A' H3 kn ρ (3+pl.length):=(I.mono N).lb M2 b3;refine q5 e ts bs Y _ (.ref r) H6 (((T.trans N).sb.trans b3).trans M.sb) (M _ _ g3) ⟨r,_,p,kn,Y,M _ _<|q _ _ g2,(VL q _ (Bd.ti _)<|S.mono N).mono M,M _ _ R1,G3.mono M,nk⟩ ⟨t6,a5,kn,rfl,g6,s6 _ _ F2,(G3.mono M).le (by rw[ZL];omega),nk⟩
end
end K4
namespace L2
open PySem
def WEm.fr(h:WEm A av H z c)(g:GG P w H CG A cs sts av')(f:FrG A H T):WEm A av T z c:=by
 obtain⟨t,R,p,J,e,O,N,M,L,G⟩:=h;have Z:=g.tk f;exact⟨t,R,p,J,e,Z _ _ O,VL Z _ (Bd.ti _) N,Z _ _ M,L.fr g f,G⟩
def WEm.lb(h:WEm A av H z c)(J:H l=some (.lst D))(b:SameB l H B):WEm A av B z c:=by
 obtain⟨t,T,p,G,e,R,O,N,M,L⟩:=h;have Z:=JS b J;exact⟨t,T,p,G,e,Z _ _ R,VL Z _ (Bd.ti _) O,Z _ _ N,M.lb J b,L⟩
def WLm(A:GA)(av:Addr->Prop)(H:Hp)(zs:xg)(l:List WEn):Prop:=zs.length=l.length/\∀(k:Nat) z c,zs[k]?=some z->l[k]?=some c->WEm A av H z c
def WLm.fr(h:WLm A av H Z l)(g:GG P w H CG A cs sts av')(f:FrG A H L):WLm A av L Z l:=⟨h.1,λk z c G J=>(h.2 k z c G J).fr g f⟩
def WLm.lb(h:WLm A av H Z l)(J:H a=some (.lst N))(b:SameB a H M):WLm A av M Z l:=⟨h.1,λk z c L G=>(h.2 k z c L G).lb J b⟩
def WLm.snoc(h:WLm A av H L l)(e:WEm A av H z c):WLm A av H (L++[z]) (l++[c]):=by
 refine⟨by rw[ZL,ZL,h.1];rfl,λk y d Z J=>?_⟩;rcases jS k L.length with G|G
 .rw [vz G]at Z
  rw[vz (by rw[<-h.1];exact G)]at J;exact h.2 k y d Z J
 .rw [vx G]at Z
  rw[vx (by rw[<-h.1];exact G)]at J;rw[<-h.1]at J
  cases hz:k-L.length with
  |zero=>
   rw[hz]at Z J;cases Z;cases J;exact e
  |succ m=>rw[hz]at Z;simp at Z
def WLm.last(h:WLm A av H Z (l++[c])):∃J z,Z=J++[z]/\WLm A av H J l/\WEm A av H z c:=by
 have e:=h.1;rw[ZL,vy]at e;have G:Z≠[]:=λz=>by rw[z]at e;simp at e
 exists Z.dropLast,Z.getLast G,(jg G).symm,⟨by rw[jr];omega,λk z d M L=>?_⟩
 .have kl:=(ZF.mp L).1
  rw[List.getElem?_dropLast,Zp (by omega)]at M;exact h.2 k z d M (by rw[vz kl];exact L)
 .refine h.2 l.length _ _ ?_ (by rw[vx (ZG _),jx];rfl)
  rw[List.getLast_eq_getElem];rw[show l.length=Z.length-1 by omega];exact ZD _
inductive Stp where
 |body (pl:List Int) (ρ:Rho)|thing (th:Tg)|head (t:Str)|want (k:Nat)
def Stp.on(A:GA)(av:Addr->Prop)(H:Hp)(u:V):Stp->Prop
 |.body pl ρ=>StB A av H u pl ρ
 |.thing th=>Has H u<|.tup [.str "thing",th.dat]
 |.head t=>Has H u<|.tup [.str "head",K4.tagD t]
 |.want k=>Has H u<|.tup [.str "want",.int (k:Nat)]
inductive Gos(ds:List Dd)(gs:List Str)(F:Str)(b:Bd)(num n:Nat):Nat->Stp->List WEn->Ss->Stp->List WEn->Ss->Prop
 |stopW:Gos ds gs F b num n 0 (.want k) l s (.want k) l s
 |stopH:Gos ds gs F b num n 0 (.head t) [] s (.head t) [] s
 |thC (g:Gos ds gs F b num n m (.want k) l s r l' s'):Gos ds gs F b num n (m+1) (.thing (.cell k)) l s r l' s'
 |thT (g:Gos ds gs F b num n m (.head t) l s r l' s'):Gos ds gs F b num n (m+1) (.thing (.tag t)) l s r l' s'
 |thG (h:gs[i]?=some t) (g:Gos ds gs F b num n m (.head t) l s r l' s'):Gos ds gs F b num n (m+1) (.thing (.giv i)) l s r l' s'
 |tag (h:b.at pl=some (.tag t)) (lc:s.1.length+1<=9000) (lw:pl.length+n<=400) (ll:l.length<=400) (g:Gos ds gs F b num n m (.head t) l s r l' s'):Gos ds gs F b num n (m+1) (.body pl ρ) l s r l' s'
 |name (h:b.at pl=some (.name x)) (e:ρ x=some th) (lc:s.1.length+1<=9000) (lw:pl.length+n<=400) (ll:l.length<=400) (g:Gos ds gs F b num n m (.thing th) l s r l' s'):Gos ds gs F b num n (m+1) (.body pl ρ) l s r l' s'
 |ask (h:b.at pl=some (.ask f as)) (ok:OkT ds ρ (n+1) (.ask f as)) (lc:s.1.length+(Bd.ask f as).size<=9000) (lw:pl.length+n<=400) (ll:l.length<=400) (g:∀th s1,TAp ds F b num ρ (n+1) pl s th s1->Gos ds gs F b num n m (.thing th) l s1 r l' s'):Gos ds gs F b num n (m+1) (.body pl ρ) l s r l' s'
 |letb (h:b.at pl=some (.letb x k' e q)) (ce:e.cellB) (ok:∀k,OkT ds (Xi ρ x (.cell k)) (n+1) e) (lc:s.1.length+(Bd.letb x k' e q).size<=9000) (lw:pl.length+n<=400) (ll:l.length<=400)
   (g:∀k cs1 s2,Xc s.1 (num,pl++[0]) k cs1->MCp ds F (Xi ρ x (.cell k)) (λi=>TAp ds F b num (Xi ρ x (.cell k)) n (pl++[0]++[(i:Int)])) e (pl++[0]) k (cs1,s.2) s2->Gos ds gs F b num n m (.body (pl++[1]) (Xi ρ x (.cell k))) l s2 r l' s'):Gos ds gs F b num n (m+1) (.body pl ρ) l s r l' s'
 |push (h:b.at pl=some (.choose e ts bs)) (lc:s.1.length+(Bd.choose e ts bs).size<=9000) (lw:pl.length+n<=400) (ll:l.length<=400) (g:Gos ds gs F b num n m (.body (pl++[0]) ρ) (l++[(.choose e ts bs,pl,ρ)]) s r l' s'):Gos ds gs F b num n (m+1) (.body pl ρ) l s r l' s'
 |cho {j:Nat}(nt:ts.Nodup) (lt:ts.length<=50) (lb:bs.length=ts.length) (ht:ts[j]?=some t) (lp:pl.length<=400) (g:Gos ds gs F b num n m (.body (pl++[1+(j:Int)]) ρ) l s r l' s'):Gos ds gs F b num n (m+1) (.head t) (l++[(.choose e ts bs,pl,ρ)]) s r l' s'
def FrW(A:GA)(l:Addr)(H H':Hp):Prop:=∀b o,b≠A.bs->b≠A.nu->b≠A.st->b≠l->H b=some o->H' b=some o
def FrW.refl(A:GA)(l:Addr)(H:Hp):FrW A l H H:=λb o _ _ _ _ h=>h
def FrW.trans(a:FrW A l H N)(b:FrW A l N M):FrW A l H M:=λc o L G J Z e=>b c o L G J Z<|a c o L G J Z e
def FrW.of(f:FrG A H L):FrW A l H L:=λb o G J Z _ e=>f b o G J Z e
def FrW.sb(f:SameB l H J):FrW A l H J:=λb o _ _ _ Z e=>f b o Z e
end L2
namespace K4
open PySem L2
section
variable{C CK CG CO CW CD:Addr}
inductive yX(CO:Addr)(H:Hp)(Q:VK):List V->Prop
 |mk (A:GA) (av:Addr->Prop) (O:OM) (b:Bd) (y:V) (t:Str) (e:Bd) (ts:List Str) (bs:List Bd) (j:Nat) (pl:List Int) (ρ:Rho) (ys:List V) (z:V) (g:GM H CO A O b) (hz:H O.wl=some (.lst (ys++[z]))) (we:WEm A av H z (.choose e ts bs,pl,ρ)) (hy:Has H y (tagD t)) (nt:ts.Nodup) (lt:ts.length<=50) (lb:bs.length=ts.length) (ht:ts[j]?=some t) (lp:pl.length<=400)
  (q:∀u H',SameB O.wl H H'->H' O.wl=some (.lst ys)->StB A av H' u (pl++[1+(j:Int)]) ρ->Q u H'):yX CO H Q [.ref O.t,y]
def Ib(CO:Addr):Sp:=λZ H Q _=>yX CO H Q Z
def AT(me:mg "enumerate"=none)(TO:OCl K CO)(F:Fun K "from_head" "Going.from_head" Wn f fd):Ye P w K mg base CX0 (n+4) f fd ["self","head"] (Ib CO):=by
 refine F.oi BR λT8 A m s H vs Q E hr h=>?_;refine⟨_,YY (Jh (Kb Zz PySem.F.slot_list_pop PySem.F.type_list_pop LE<|Yt (pv 0) rfl)<|VU (n:=3) rfl (Yk (Yl 2 BR.nd)<|Yk (Yl 3 BR.nd)<|Yk (Yl 4 BR.nd) VJ))
  (YY (Y4 (Ys Vi (Ym (r:=VZ K) Yq (pv 2)<|Ya) Yp<|Yz _) (YZ (JC Zv rfl (Xz rfl me (pa1<|Ym (r:=VZ K) Yq (pv 2)<|Ya)) (VU (n:=2) rfl (Yk (Yl 5 BR.nd)<|Yk (VU (n:=2) rfl (Yk (Yl 6 BR.nd)<|Yk (Yl 7 BR.nd) VJ)) VJ))
   (YZ<|Y4 (Ys (B0 hr) (pv 1) (Yi<|pa2 (Yp)<|pv 6)<|Yz _) (YZ<|Yj<|Yi<|pa3 (Yp) (Y9 (r:=λx y H Q=>UY K x y H Q\/UX K x y H Q) J6 (pv 3)<|Yi<|pa1<|Y9 Vp Ya<|pv 5)<|pv 4) Yo))) J9)
  J9),?_⟩
 dsimp only[Vb,Cx.nox,Cx.wish];show let T0:=_;let T1:=VH _ T0 _;let T2:=U1 _ _ T1;let T3:=Yn (VH _ T2 _) _;Yn _ T3 _ _ _
 intros
 obtain⟨A',av,O,b,y,t,e,ts,bs,j,pl,ρ,ys,z,g,S,we,hy,nt,lt,lb,ht,lp,q⟩:=h;obtain⟨tz,bv,p,kn,rfl,J2,i,o,l,u⟩:=we;refine⟨CO,_,_,_,g.ins,TO.cl,TO.wt,ET _,.inl ⟨Y,_,Z3 S⟩,O.wl,_,_,Y,Y,S,by rw[ZL,vy,Nat.add_sub_cancel,vx<|ZG _,jx];rfl,?_⟩;rw[List.dropLast_concat];refine fld_in O.wl _ λH1 b1 g1=>?_;have D:=JS b1 S;exists _,Z2<|D _ _ J2,rfl;have hb:=VL D _ (Bd.ti _) i;unfold Bd.dat at hb;obtain⟨a,T9,rfl,T,hl⟩:=Yr hb;obtain⟨x1,r1,rfl,e1,R6⟩:=Yc hl;obtain⟨x2,r2,rfl,e2,R5⟩:=Yc R6;obtain⟨x3,r3,rfl,e3,R4⟩:=Yc R5;obtain rfl:=VB R4;obtain rfl:=has_str e1;obtain⟨tb,xs,rfl,R,N⟩:=Yr e3;have lx:=N.length;rw[brs_len lb]at lx;have jl:=(ZF.mp ht).1;refine⟨_,_,Z2 T,at0,Y,_,Y,VI (by decide +kernel) ?_⟩;exists _,_,Z2 T,at2,tb,true,xs,Y,Z2 R;have G1:Has H1 y (tagD t):=VL D _ (by simp[tagD,Dat.ti,Dat.tis]) hy;have O1:Has H1 (.ref p) (Jr pl):=JW<|D _ _ o;have c:=l.lb S b1
 let I:xi:=λk U X=>Same H1 X/\k<=j/\∃z5 z6 z7,U=[some (.ref O.t),some y,some<|.ref a,some<|.ref p,some<|.ref kn,z5,z6,z7]
 refine TZ (tp:=true) (xs:=xs) I ⟨Z8 _,Zc _,_,_,_,Y⟩ (λk U X _ z=>Z2<|z.1 _ _ R) ?_ ?_
 .rintro k v U X r hv ⟨s1,kj,z5,z6,z7,rfl⟩ hr'
  refine up_in hr' _ λH2 s2 g2=>?_;have M:=s1.trans s2;obtain⟨d,T5,T4⟩:=N.get hv;obtain⟨Z,bk,G,rfl⟩:=OJ T5;have R8:=T4.mono M;obtain⟨aw,us,rfl,T6,R7⟩:=Yr R8;obtain⟨y1,r1,rfl,f1,R3⟩:=Yc R7;obtain⟨y2,r2,rfl,f2,R1⟩:=Yc R3;obtain rfl:=VB R1;obtain rfl:=has_str f1;refine⟨_,Z2 g2,Y,⟨_,Z2 T6,Y,sl 2,λtq G2=>?_⟩⟩;refine up_in G2 _ λH3 s3 g3=>?_;have J:=M.trans s3;have dd:(tagD t).dep<=n+2:=by simp[tagD,Dat.dep,Dat.deps]
  exists tagD t,tagD Z,G1.mono J,D9 g3,dd,_,Y
  have B:(tagD t).pq (tagD Z)=decide (t=Z):=by
   simp only[tagD,Dat.pq,Dat.pqs,Bool.and_true,beq_self_eq_true,Bool.true_and];rw[j3];simp
  by_cases ej:k=j
  .subst ej
   rw[ht]at G;cases G;refine VI (by rw[B];simp) ?_;refine⟨sl 1,λto G3=>?_⟩;refine up_in G3 _ λH4 s4 g4=>?_;refine UT (O1.mono<|J.trans s4) (UR g4) (by simp) (by simp;omega) λu5 H5 s5 h5=>⟨sl 3,λt6 M2=>?_⟩;refine up_in M2 _ λH6 s6 g6=>?_;obtain⟨a5,rfl,T7⟩:=Jw h5;have L:=((J.trans s4).trans s5).trans s6;exact q _ _ (b1.trans L.sb) (L _ _ g1) ⟨t6,a5,kn,Y,g6,s6 _ _ T7,(c.mono L).le (by show 3+pl.length<=_;rw[ZL];omega),u⟩
  .have ne:¬t=Z:=λz=>by
    subst z;have kl:=(ZF.mp G).1;exact jD.mp nt k j kl jl (by omega)<|(ZF.mp G).2.trans (ZF.mp ht).2.symm
   refine Y1 (by rw[B];simp[ne]) ⟨J,by omega,_,_,_,Y⟩
 .rintro U X ⟨s1,kj,_⟩
  exact Zr kj<|by omega
end
end K4
namespace L2
open PySem
structure RG(P:Program)(w:World)(Hm H:Hp)(C CK CG CO:Addr)(A:GA)(ks:List (Str×Shp))(d:Str->Nat)(ds:List Dd)(av:Addr->Prop)(O:OM)(b:Bd)(l:List WEn)(s:Ss):Prop where
 mx:MX P w Hm H C CK CG A ks d ds s.1 s.2 av
 al:∀a,av a->∃o,H a=some o
 gm:GM H CO A O b
 wl:∃zs,H O.wl=some (.lst zs)/\WLm A av H zs l
 wb:O.wl≠A.bs
 fw:Hm O.wl=none
 on:O.n<=s.1.length
def RG.same(g:RG P w N H C T CG CO A J d M av O b l s)(e:Same H R):RG P w N R C T CG CO A J d M av O b l s:=by
 obtain⟨Z,L,G⟩:=g.wl;exact⟨g.mx.mono e,λa h=>let⟨o,q⟩:=g.al a h;⟨o,e _ _ q⟩,g.gm.mono e,⟨Z,e _ _ L,G.fr g.mx.gg<|.of e⟩,g.wb,g.fw,g.on⟩
def RG.fr(g:RG P w F H C I CG CO A G d E av O b l s)(f:FrG A H M)(L:GG P w M CG A Z.1 Z.2 av)(h:s.1.length<=Z.1.length):RG P w F M C I CG CO A G d E av O b l Z:=by
 obtain⟨N,J,T⟩:=g.wl
 have n:O.wl≠A.nu/\O.wl≠A.st:=by
  obtain⟨R,D,_⟩:=g.mx.gg.nu;obtain⟨G,B,_⟩:=g.mx.gg.st;exact⟨Yw J D Up.symm,Yw J B (by intro z;cases z)⟩
 exact⟨g.mx.fr f L,Nz g.al f L,g.gm.fr g.mx.gg f,⟨N,f _ _ g.wb n.1 n.2 J,T.fr g.mx.gg f⟩,g.wb,g.fw,Zb g.on h⟩
def RG.lb(g:RG P w T H C B CG CO A M d R av O b l s)(f:SameB O.wl H J)(h:J O.wl=some (.lst zs'))(G:WLm A av J zs' l'):RG P w T J C B CG CO A M d R av O b l' s:=by
 obtain⟨D,Z,E⟩:=g.wl;have L:=JS f Z;refine⟨⟨λa o e=>f a o (Yb e g.fw)<|g.mx.sm _ _ e,g.mx.bi,g.mx.f1,g.mx.f2,g.mx.f3,g.mx.gg.lb Z g.wb f⟩,λa N=>?_,⟨f _ _ (Yw g.gm.ins Z (by intro z;cases z)) g.gm.ins,VL L _ (Bd.ti _) g.gm.bd,g.gm.ok,g.gm.gr⟩,⟨zs',h,G⟩,g.wb,g.fw,g.on⟩
 by_cases z:a=O.wl
 .exact ⟨_,by rw[z];exact h⟩
 .obtain ⟨o,q⟩:=g.al a N
  exact⟨o,f a o z q⟩
end L2
namespace K4
open PySem L2
section
variable{C CK CG CO CW CD:Addr}
def NV(A:OM):(Jm A).lookup ("from_body":Str)=none:=rfl
def LG(A:OM):(Jm A).lookup ("from_thing":Str)=none:=rfl
def zS(A:OM):(Jm A).lookup ("from_head":Str)=none:=rfl
def Qo(A:OM):(Jm A).lookup ("go_on":Str)=none:=rfl
inductive yU(P:Program)(w:World)(C CK CG CO:Addr)(n:Nat)(H:Hp)(Q:VK):List V->Prop
 |mk (Hm:Hp) (A:GA) (ks:List (Str×Shp)) (d:Str->Nat) (ds:List Dd) (av:Addr->Prop) (O:OM) (b:Bd) (l:List WEn) (s:Ss) (u:V) (m:Nat) (x r:Stp) (l':List WEn) (s':Ss) (rg:RG P w Hm H C CK CG CO A ks d ds av O b l s) (hx:x.on A av H u) (gs:Gos ds A.gs O.F b O.n n m x l s r l' s') (l3:A.gs.length<=3)
  (q:∀v H',FrW A O.wl H H'->RG P w Hm H' C CK CG CO A ks d ds av O b l' s'->r.on A av H' v->Q v H'):yU P w C CK CG CO n H Q [.ref O.t,u]
def EE(P:Program)(w:World)(C CK CG CO:Addr)(n:Nat):Sp:=λZ H Q _=>yU P w C CK CG CO n H Q Z
def AQ(B:Blt mg)(TO:OCl K CO)(F:Fun K "go_on" "Going.go_on" K7 f fd)(mB:VM K CO "from_body" fB)(GB:Ye P w K mg base CX0 L fB fBd ["self","place","known"] (Ic P w C CK CG CO n))(bB:Binds K fBd ["self","place","known"] [])(mT:VM K CO "from_thing" fT)(GT:Ye P w K mg base CX0 L fT fTd ["self","thing"] (Ia CG CO))(bT:Binds K fTd ["self","thing"] [])(mH:VM K CO "from_head" fH)(GH:Ye P w K mg base CX0 L fH fHd ["self","head"] (Ib CO))(bH:Binds K fHd ["self","head"] []):Ye P w K mg base CX0 (L+1) f fd ["self","state"] (EE P w C CK CG CO n):=by
 refine F.oi EI λR8 A R3 s H vs Q E hr h=>?_;obtain⟨Hm,c,ks,d,ds,av,O,b,l,s0,u,m,x,r,l',s',rg,hx,gs,l3,q⟩:=h;exists _,YZ<|NJ Zv (JB XX)<|YZ<|Y4 (Ys Vi (Ym (r:=VZ K) Yq (pv 1)<|Ya) Yp<|Yz _) (YZ<|Y0 1 EI.nd<|Y5 (pv 0) TO.cl mB GB hr bB .nil Y3<|pa2 (Ym (r:=VZ K) Yq (pv 1)<|Ya)<|Ym (r:=VZ K) Yq (pv 1)<|Ya)<|YZ<|Y4 (Ys Vi (Ym (r:=VZ K) Yq (pv 1)<|Ya) Yp<|Yz _) (YZ<|Y0 1 EI.nd<|Y5 (pv 0) TO.cl mT GT hr bT .nil Y3<|pa1<|Ym (r:=VZ K) Yq (pv 1)<|Ya)<|YZ<|Y4 (PW.pt<|Bs (Ys Vi (Ym (r:=VZ K) Yq (pv 1)<|Ya) Yp<|Yz _)<|MS<|Ys NM (VD Y6 rfl B.len Zu (pa1<|Yt (pv 0) rfl)) Ya<|Yz _) (YZ<|Y0 1 EI.nd<|Y5 (pv 0) TO.cl mH GH hr bH .nil Y3<|pa1<|Ym (r:=VZ K) Yq (pv 1)<|Ya)<|YZ<|Yj<|pv 1;dsimp only[Vb,Cx.nox,Cx.wish];show let T0:=_;let T1:=_;let T2:=_;let T3:=_;let T4:=VH _ T2 T3;let T5:=VH _ T1 T4;let T6:=VH _ T0 T5;N9 _ T6 _ _ _
 intros
 let W:xi:=λm U H'=>∃x l s u,U=[some (.ref O.t),some u]/\FrW c O.wl H H'/\RG P w Hm H' C CK CG CO c ks d ds av O b l s/\x.on c av H' u/\Gos ds c.gs O.F b O.n n m x l s r l' s'
 exists W,⟨m,x,l,s0,u,Y,.refl _ _ _,rg,hx,gs⟩;rintro m U H1 ⟨x,l,I,u,rfl,a,Z,G,R5⟩;refine⟨true,Y,VI Y ⟨λU H'=>∃m',m'<m/\W m' U H',λU' H' z=>z,?_⟩⟩;obtain⟨zs,hz,wl⟩:=Z.wl
 cases R5 with
 |stopW=>
  have N:Has H1 u (.tup [.str "want",.int (k:Nat)]):=G;obtain⟨t,ys,rfl,J,o⟩:=Yr N;obtain⟨x1,r1,rfl,g,R⟩:=Yc o;obtain rfl:=has_str g;refine⟨_,_,Z2 J,at0,Y,_,Y,Y1 (by decide +kernel) ?_⟩;refine⟨_,_,Z2 J,at0,Y,_,Y,Y1 (by decide +kernel) ?_⟩;refine⟨_,_,Z2 J,at0,Y,_,Y,Y1 (by decide +kernel)<|Y1 (by simp) ?_⟩;exact q _ _ a Z G
 |stopH=>
  have N:Has H1 u (.tup [.str "head",tagD t]):=G;obtain⟨t',ys,rfl,J,o⟩:=Yr N;obtain⟨x1,r1,rfl,g,R⟩:=Yc o;obtain rfl:=has_str g;have z0:zs=[]:=jf wl.1;subst z0;refine⟨_,_,Z2 J,at0,Y,_,Y,Y1 (by decide +kernel) ?_⟩;refine⟨_,_,Z2 J,at0,Y,_,Y,Y1 (by decide +kernel) ?_⟩;refine⟨_,_,Z2 J,at0,Y,_,Y,VI (by decide +kernel) ?_⟩;refine⟨CO,_,_,_,Z.gm.ins,TO.cl,TO.wt,ET _,O.wl,_,Y,.inl<|Z3 hz,_,rfl,Y1 (by decide +kernel)<|q _ _ a Z G⟩
 |thC X=>
  have N:Has H1 u (.tup [.str "thing",(Tg.cell k).dat]):=G;obtain⟨t',ys,rfl,J,o⟩:=Yr N;obtain⟨x1,r1,rfl,g,R⟩:=Yc o;obtain⟨v,r2,rfl,M,y⟩:=Yc R;obtain rfl:=VB y;obtain rfl:=has_str g;refine⟨_,_,Z2 J,at0,Y,_,Y,Y1 (by decide +kernel) ?_⟩;refine⟨_,_,Z2 J,at0,Y,_,Y,VI (by decide +kernel) ?_⟩;refine⟨_,_,Z.gm.ins,LG _,_,_,Z2 J,at1,c,O,b,v,.cell k,Z.gm,Z.mx.gg.ins,Z.mx.gg.gv,l3,M,λn' e T H2 D S=>?_,λt e=>(nomatch e),λi e=>nomatch e⟩;cases e;exact⟨_,jj _,.want k,l,I,T,Y,a.trans<|.of<|.of D,Z.same D,S,X⟩
 |thT X=>
  have N:Has H1 u (.tup [.str "thing",(Tg.tag t).dat]):=G;obtain⟨t',ys,rfl,J,o⟩:=Yr N;obtain⟨x1,r1,rfl,g,R⟩:=Yc o;obtain⟨v,r2,rfl,M,y⟩:=Yc R;obtain rfl:=VB y;obtain rfl:=has_str g;refine⟨_,_,Z2 J,at0,Y,_,Y,Y1 (by decide +kernel) ?_⟩;refine⟨_,_,Z2 J,at0,Y,_,Y,VI (by decide +kernel) ?_⟩;refine⟨_,_,Z.gm.ins,LG _,_,_,Z2 J,at1,c,O,b,v,.tag t,Z.gm,Z.mx.gg.ins,Z.mx.gg.gv,l3,M,λn' e=>(nomatch e),λt2 e T H2 D S=>?_,λi e=>nomatch e⟩;cases e;exact⟨_,jj _,.head t,l,I,T,Y,a.trans<|.of<|.of D,Z.same D,S,X⟩
 |thG hi X=>
  have N:Has H1 u (.tup [.str "thing",(Tg.giv i).dat]):=G;obtain⟨t',ys,rfl,J,o⟩:=Yr N;obtain⟨x1,r1,rfl,g,R⟩:=Yc o;obtain⟨v,r2,rfl,M,y⟩:=Yc R;obtain rfl:=VB y;obtain rfl:=has_str g;refine⟨_,_,Z2 J,at0,Y,_,Y,Y1 (by decide +kernel) ?_⟩;refine⟨_,_,Z2 J,at0,Y,_,Y,VI (by decide +kernel) ?_⟩;refine⟨_,_,Z.gm.ins,LG _,_,_,Z2 J,at1,c,O,b,v,.giv i,Z.gm,Z.mx.gg.ins,Z.mx.gg.gv,l3,M,λn' e=>(nomatch e),λt2 e=>(nomatch e),λi2 e=>?_⟩;cases e;exact⟨t,hi,λT H2 D S=>⟨_,jj _,.head t,l,I,T,Y,a.trans<|.of<|.of D,Z.same D,S,X⟩⟩
 |tag h lc lw ll X=>
  obtain⟨t',p,kn,rfl,J,hp,kr,nk⟩:=G;refine⟨_,_,Z2 J,at0,Y,_,Y,VI (by decide +kernel) ?_⟩;have lz:=wl.1;refine⟨_,_,Z.gm.ins,NV _,_,_,Z2 J,at1,_,_,Z2 J,at2,Hm,c,ks,d,ds,I.1,I.2,av,O,b,_,pl,p,kn,ρ,zs,Z.mx,Z.gm,hz,Z.wb,hp,h,trivial,kr,nk,Z.al,Z.on,by simpa[Bd.size]using lc,lw,by omega,λt2 e T H2 D S=>?_,λx th e=>(nomatch e),λf as e=>(nomatch e),λx k e r M=>(nomatch M),λe ts bs M=>(nomatch M)⟩;cases e;exact⟨_,jj _,.head t,l,I,T,Y,a.trans<|.of<|.of D,Z.same D,S,X⟩
 |name h e lc lw ll X=>
  obtain⟨t',p,kn,rfl,J,hp,kr,nk⟩:=G;refine⟨_,_,Z2 J,at0,Y,_,Y,VI (by decide +kernel) ?_⟩;have lz:=wl.1;refine⟨_,_,Z.gm.ins,NV _,_,_,Z2 J,at1,_,_,Z2 J,at2,Hm,c,ks,d,ds,I.1,I.2,av,O,b,_,pl,p,kn,ρ,zs,Z.mx,Z.gm,hz,Z.wb,hp,h,⟨_,e⟩,kr,nk,Z.al,Z.on,by simpa[Bd.size]using lc,lw,by omega,λt2 e=>(nomatch e),λv G1 g M T H2 D S=>?_,λf as e=>(nomatch e),λx k e r M=>(nomatch M),λe ts bs M=>(nomatch M)⟩;cases g;rw[e]at M;cases M;exact⟨_,jj _,.thing th,l,I,T,Y,a.trans<|.of<|.of D,Z.same D,S,X⟩
 |ask h ok lc lw ll X=>
  obtain⟨t',p,kn,rfl,J,hp,kr,nk⟩:=G;refine⟨_,_,Z2 J,at0,Y,_,Y,VI (by decide +kernel) ?_⟩;have lz:=wl.1;refine⟨_,_,Z.gm.ins,NV _,_,_,Z2 J,at1,_,_,Z2 J,at2,Hm,c,ks,d,ds,I.1,I.2,av,O,b,_,pl,p,kn,ρ,zs,Z.mx,Z.gm,hz,Z.wb,hp,h,ok,kr,nk,Z.al,Z.on,lc,lw,by omega,λt2 e=>(nomatch e),λv G1 e=>(nomatch e),λf2 O1 e T th M2 J2 H2 ta l1 l2 G3 g2 S=>?_,λx k e r M=>(nomatch M),λe ts bs M=>(nomatch M)⟩;exact⟨_,jj _,.thing th,l,(M2,J2),T,Y,a.trans<|.of G3,Z.fr G3 g2 l1,S,X th (M2,J2) ta⟩
 |letb h ce ok lc lw ll X=>
  obtain⟨t',p,kn,rfl,J,hp,kr,nk⟩:=G;refine⟨_,_,Z2 J,at0,Y,_,Y,VI (by decide +kernel) ?_⟩;have lz:=wl.1;refine⟨_,_,Z.gm.ins,NV _,_,_,Z2 J,at1,_,_,Z2 J,at2,Hm,c,ks,d,ds,I.1,I.2,av,O,b,_,pl,p,kn,ρ,zs,Z.mx,Z.gm,hz,Z.wb,hp,h,⟨ce,ok⟩,kr,nk,Z.al,Z.on,lc,lw,by omega,λt2 e=>(nomatch e),λv G1 e=>(nomatch e),λf2 O1 e=>(nomatch e),λx3 k3 e3 r3 e4 T k4 R6 D H2 na mc l1 l2 f2 g2 S=>?_,λe ts bs M=>(nomatch M)⟩;cases e4;exact⟨_,jj _,.body _ _,l,D,T,Y,a.trans<|.of f2,Z.fr f2 g2 l1,S,X k4 R6 D na mc⟩
 |push h lc lw ll X=>
  obtain⟨t',p,kn,rfl,J,hp,kr,nk⟩:=G;refine⟨_,_,Z2 J,at0,Y,_,Y,VI (by decide +kernel) ?_⟩;have lz:=wl.1;refine⟨_,_,Z.gm.ins,NV _,_,_,Z2 J,at1,_,_,Z2 J,at2,Hm,c,ks,d,ds,I.1,I.2,av,O,b,_,pl,p,kn,ρ,zs,Z.mx,Z.gm,hz,Z.wb,hp,h,trivial,kr,nk,Z.al,Z.on,lc,lw,by omega,λt2 e=>(nomatch e),λv G1 e=>(nomatch e),λf2 O1 e=>(nomatch e),λx k e r M=>(nomatch M),λe3 R7 T7 e4 T z H2 b2 G2 we S=>?_⟩;exact⟨_,jj _,.body _ _,l++[_],I,T,Y,a.trans<|.sb b2,Z.lb b2 G2<|(wl.lb hz b2).snoc we,S,X⟩
 |cho nt lt lb R4 lp X=>
  have N:Has H1 u (.tup [.str "head",tagD t]):=G;obtain⟨t',ys,rfl,J,o⟩:=Yr N;obtain⟨x1,r1,rfl,g,R⟩:=Yc o;obtain⟨v,r2,rfl,M,y⟩:=Yc R;obtain rfl:=VB y;obtain rfl:=has_str g;obtain⟨ys,z,rfl,R1,we⟩:=wl.last;refine⟨_,_,Z2 J,at0,Y,_,Y,Y1 (by decide +kernel) ?_⟩;refine⟨_,_,Z2 J,at0,Y,_,Y,Y1 (by decide +kernel) ?_⟩;refine⟨_,_,Z2 J,at0,Y,_,Y,VI (by decide +kernel) ?_⟩;refine⟨CO,_,_,_,Z.gm.ins,TO.cl,TO.wt,ET _,O.wl,_,Y,.inl<|Z3 hz,_,rfl,VI (by rw[ZL,vy];exact decide_eq_true<|by omega) ?_⟩;refine⟨_,_,Z.gm.ins,zS _,_,_,Z2 J,at1,c,av,O,b,v,t,_,ts,bs,j,pl,ρ,ys,z,Z.gm,hz,we,M,nt,lt,lb,R4,lp,λT H2 b2 G2 S=>?_⟩;exact⟨_,jj _,.body _ _,_,I,T,Y,a.trans<|.sb b2,Z.lb b2 G2<|R1.lb hz b2,S,X⟩
end
section
variable{C CK CG CO CW CD:Addr}
def yq:Yh ["self","head"] ["self","head"] (Yd Wm):=Y2
inductive Q4(P:Program)(w:World)(C CK CG CO:Addr)(n:Nat)(H:Hp)(Q:VK):List V->Prop
 |mk (Hm:Hp) (A:GA) (ks:List (Str×Shp)) (d:Str->Nat) (ds:List Dd) (av:Addr->Prop) (O:OM) (b:Bd) (pl:List Int) (ρ:Rho) (s:Ss) (m:Nat) (r:Stp) (l':List WEn) (s':Ss) (rg:RG P w Hm H C CK CG CO A ks d ds av O b [] s) (hp:H O.pl=some (.tup (pl.map V.int))) (kr:KnR A H O.kn ρ (3+pl.length)) (nk:¬av O.kn) (gs:Gos ds A.gs O.F b O.n n m (.body pl ρ) [] s r l' s') (l3:A.gs.length<=3)
  (q:∀v H',FrW A O.wl H H'->RG P w Hm H' C CK CG CO A ks d ds av O b l' s'->r.on A av H' v->Q v H'):Q4 P w C CK CG CO n H Q [.ref O.t]
def BM(P:Program)(w:World)(C CK CG CO:Addr)(n:Nat):Sp:=λZ H Q _=>Q4 P w C CK CG CO n H Q Z
def Pr(TO:OCl K CO)(F:Fun K "begin" "Going.begin" B5 f o)(m:VM K CO "go_on" g)(G:Ye P w K I base CX0 L g l ["self","state"] (EE P w C CK CG CO n))(x:Binds K l ["self","state"] []):Ye P w K I base CX0 (L+1) f o ["self"] (BM P w C CK CG CO n):=by
 refine F.oi Cq λa A N s H vs Q E p h=>?_;obtain⟨Hm,A',j,d,i,av,O,b,B,ρ,R,S,r,X,T,J,c,y,D,u,U,q⟩:=h;exists _,YZ<|Yj<|Y5 (pv 0) TO.cl m G p x .nil Y3<|pa1<|Yi<|pa3 (Yp) (Yt (pv 0) rfl)<|Yt (pv 0) rfl;dsimp only[Vb,Cx.nox,Cx.wish];refine⟨_,_,J.gm.ins,Qo _,CO,_,_,_,J.gm.ins,TO.cl,TO.pl,zQ _,CO,_,_,_,J.gm.ins,TO.cl,TO.kn,zR _,sl 3,λt k=>?_⟩;refine up_in k _ λH1 Z e=>?_;exact⟨Hm,A',j,d,i,av,O,b,[],R,_,S,.body B ρ,r,X,T,J.same Z,⟨t,_,_,Y,e,Z _ _ c,y.mono Z,D⟩,u,U,λv H' f M z=>q v H' ((FrW.of<|.of Z).trans f) M z⟩
inductive yP(P:Program)(w:World)(C CK CG CO:Addr)(n:Nat)(H:Hp)(Q:VK):List V->Prop
 |mk (Hm:Hp) (A:GA) (ks:List (Str×Shp)) (d:Str->Nat) (ds:List Dd) (av:Addr->Prop) (O:OM) (b:Bd) (l:List WEn) (s:Ss) (y:V) (t:Str) (m:Nat) (r:Stp) (l':List WEn) (s':Ss) (rg:RG P w Hm H C CK CG CO A ks d ds av O b l s) (hy:Has H y (tagD t)) (gs:Gos ds A.gs O.F b O.n n m (.head t) l s r l' s') (l3:A.gs.length<=3)
  (q:∀v H',FrW A O.wl H H'->RG P w Hm H' C CK CG CO A ks d ds av O b l' s'->r.on A av H' v->Q v H'):yP P w C CK CG CO n H Q [.ref O.t,y]
def IT(P:Program)(w:World)(C CK CG CO:Addr)(n:Nat):Sp:=λZ H Q _=>yP P w C CK CG CO n H Q Z
def AI(TO:OCl K CO)(F:Fun K "take_head" "Going.take_head" Wm f o)(m:VM K CO "go_on" g)(G:Ye P w K D base CX0 L g u ["self","state"] (EE P w C CK CG CO n))(x:Binds K u ["self","state"] []):Ye P w K D base CX0 (L+1) f o ["self","head"] (IT P w C CK CG CO n):=by
 refine F.oi yq λa A M s H vs Q E p h=>?_;obtain⟨Hm,A',X,d,i,av,O,b,l,T,y,R,I,r,U,B,N,j,c,S,q⟩:=h;exists _,YZ<|Yj<|Y5 (pv 0) TO.cl m G p x .nil Y3<|pa1<|Yi<|pa2 (Yp)<|pv 1;refine⟨_,_,N.gm.ins,Qo _,sl 2,λt k=>?_⟩;refine up_in k _ λH1 Z e=>?_;exact⟨Hm,A',X,d,i,av,O,b,l,T,_,I,.head R,r,U,B,N.same Z,Yu e<|Z4 Yy<|Z5<|j.mono Z,c,S,λv H' f J z=>q v H' ((FrW.of<|.of Z).trans f) J z⟩
inductive yQ(P:Program)(w:World)(C CK CG CO:Addr)(H:Hp)(Q:VK):List V->Prop
 |mk (Hm Hx:Hp) (x dx:Addr) (A:GA) (ks:List (Str×Shp)) (d:Str->Nat) (ds:List Dd) (av:Addr->Prop) (s:Ss) (k:Nat) (sta:Sta) (df:Dd) (h0:Hx x=none) (sm:Same Hx H) (hx:H x=some (.ins CO dx [])) (mx:MX P w Hm Hx C CK CG A ks d ds s.1 s.2 av) (al:∀a,av a->∃o,Hx a=some o) (hs:s.2 k=some sta) (hd:df∈ds) (ef:df.1.1=sta.f) (ok:df.2.ok) (hk:k<=s.1.length)
  (q:∀(O:OM) H',O.t=x->O.n=k->O.F=sta.f->Same Hx H'->Hx O.wl=none->RG P w Hm H' C CK CG CO A ks d ds av O df.2 [] s->H' O.pl=some (.tup (sta.pl.map V.int))->KnR A H' O.kn sta.ρ (3+sta.pl.length)->¬av O.kn->Q .non H'):yQ P w C CK CG CO H Q [.ref x,.ref A.t,.int (k:Nat)]
def IU(P:Program)(w:World)(C CK CG CO:Addr):Sp:=λZ H Q _=>yQ P w C CK CG CO H Q Z
def AJ(TB:BCl K C)(TG:GCl K CG)(TO:OCl K CO)(F:Fun K "__init__" "Going.__init__" K6 f fd)(m:VM K C "body_of" g)(G:Ye P w K mg base CX0 L g gd ["self","F"] (MA C CK))(bG:Binds K gd ["self","F"] []):Ye P w K mg base CX0 (L+1) f fd ["self","ground","number"] (IU P w C CK CG CO):=by
 refine F.oi yu λG2 A u s H vs Q E hr h=>?_;obtain⟨Hm,S,x,O,i,ks,d,ds,av,s0,k,B,df,l,sm,hx,N,al,hs,hd,ef,ok,hk,q⟩:=h;have hu:=JI hr;refine⟨_,YY (VX (pv 0) (pv 1) Y)
  (YY (VX (pv 0) (pv 2) rfl)
  (YY (Jh (JN hu (Yt (pv 1) rfl) (pv 2) λ_ _=>rfl)<|VU (n:=3) rfl (Yk (Bu<|pv 0)<|Yk (Bu<|pv 0)<|Yk (Bu<|pv 0) VJ))
  (YY (VX (pv 0) (Y5 (Yt (pv 1) rfl) TB.cl m G hr bG .nil Y3<|pa1<|Yt (pv 0) rfl) rfl)
  (YZ<|VX (pv 0) (V4 Vj) rfl)))),?_⟩
 dsimp only[Vb,Cx.nox,Cx.wish];show let T0:=_;let T1:=Yn _ T0;let T2:=Yn _ T1;let T3:=Yn _ T2;Yn _ T3 _ _ _
 intros
 obtain⟨G1,r,lst,D⟩:=N.gg.st;obtain⟨tt,pp,kn,v1,v2,v3,v4,v5⟩:=D k B hs;refine⟨x,CO,O,_,Y,hx,TO.cl,TO.gr,by decide,?_⟩;refine fld_in x _ λH1 b1 x1=>⟨x,CO,O,_,Y,x1,TO.cl,TO.nu,(by show 1<1000;decide),?_⟩;refine fld_in x _ λH2 b2 x2=>?_;have M:Same S H2:=Um l sm<|b1.trans b2;refine⟨CG,_,_,_,M _ _ N.gg.ins,TG.cl,TG.st,Da _,_,by rw[<-v1];exact V9.k (k:=Sum.inl (k:Int))<|M _ _ r,?_⟩;refine⟨_,Z2<|M _ _ v2,rfl,x,CO,O,_,rfl,x2,TO.cl,TO.f,(by show 2<1000;decide),?_⟩;refine fld_in x _ λH3 b3 x3=>⟨x,CO,O,_,Y,x3,TO.cl,TO.pl,(by show 3<1000;decide),?_⟩;refine fld_in x _ λH4 b4 x4=>⟨x,CO,O,_,Y,x4,TO.cl,TO.kn,(by show 4<1000;decide),?_⟩;refine fld_in x _ λH5 b5 X=>?_;have J:Same S H5:=Um l M<|(b3.trans b4).trans b5;have I:=N.bi.mono<|N.sm.trans J;obtain⟨A',kv,ea,b'⟩:=id I;exists CG,_,_,_,J _ _ N.gg.ins,TG.cl,TG.bk,Lp _,_,_,by rw[<-ea];exact b'.ins,vb _;exists CO,_,_,_,X,TO.cl,TO.f,Y;rw[<-ef];refine⟨i.bk,ks,d,ds,df,I,hd,λv hv=>?_⟩;refine⟨x,CO,O,_,Y,X,TO.cl,TO.bd,(by show 5<1000;decide),?_⟩;refine fld_in x _ λH6 b6 U=>⟨sl 0,λT R=>?_⟩;have xw:T≠x:=(Yb U R).symm;have t:TK H5 H6:=λb ys h=>b6 _ _ (λz=>by rw[z,X]at h;cases h) h;refine up_in R _ λH7 p g7=>⟨x,CO,O,_,Y,p _ _ U,TO.cl,TO.wt,(by show 6<1000;decide),?_⟩;refine fld_in x _ λH8 b8 x8=>?_;have y:TK H6 H8:=λb ys h=>b8 _ _ (λz=>by rw[z,U]at h;cases h)<|p _ _ h;have Z:Same S H8:=Um l J<|(b6.trans p.sb).trans b8
 have fw:S T=none:=by
  cases e:S T with
  |none=>rfl
  |some o=>have:=b6 _ _ xw<|J _ _ e;rw[R]at this;cases this
 have wb:T≠i.bs:=λz=>by
  obtain⟨xs,h1,_⟩:=N.gg.bs;rw[<-z,fw]at h1;cases h1
 have J2:Hm T=none:=N.sm.free fw
 let O':OM:=⟨x,O,i.t,k,B.f,pp,kn,v,T⟩
 refine q O' H8 Y Y Y Z fw ⟨N.mono Z,λa h=>let⟨o,e⟩:=al a h;⟨o,Z _ _ e⟩,⟨x8,?_,ok,Y⟩,⟨[],b8 _ _ xw g7,Y,λj z c h=>by simp at h⟩,wb,J2,hk⟩ (Z _ _ v3) (v4.mono Z) v5;exact VL (λb ys h=>y _ _<|t _ _ h) _ (Bd.ti _) hv
end
end K4
namespace L2
open PySem PySem.Spec PyProof.Rows
def GG.avoids(g:GG P w H CG A cs sts av)(h:∀a,av' a->H a=none)(s:Same H E):GG P w E CG A cs sts av':=by
 have D:=g.mono s;obtain⟨Z,B,T,R⟩:=g.st;refine{D with st:=⟨Z,s _ _ B,T,λn st e=>?_⟩};obtain⟨t,p,O,N,M,L,J,F⟩:=R n st e;refine⟨t,p,O,N,s _ _ M,s _ _ L,J.mono s,λz=>?_⟩;obtain⟨_,I,G,_,_⟩:=J;rw[h _ z]at G;cases G
def Cs(ns:pX)(n:Nat):Rho:=U6 ns<|(List.range n).map Tg.giv
def BE(F:Str)(ρ:Rho):Nat->Option Sta:=stP (λ_=>none) 0 ⟨F,[],ρ⟩
def Ln(n:Nat):((List.range n).map Tg.giv).map Tg.dat=(List.range n).map λi=>TU i []:=by rw[jk];rfl
end L2
namespace K4
open PySem L2
section
variable{C CK CG:Addr}
inductive yV(P:Program)(w:World)(C CK CG:Addr)(H:Hp)(Q:VK):List V->Prop
 |mk (Hm:Hp) (x dx bk gv:Addr) (ks:List (Str×Shp)) (d:Str->Nat) (ds:List Dd) (df:Dd) (gs:List Str) (h0:Hm x=none) (sm:Same Hm H) (hx:H x=some (.ins CG dx [])) (bi:BI Hm C CK bk ks d ds) (hd:df∈ds) (hg:Hm gv=some (.tup (gs.map V.str))) (ln:gs.length=df.1.2.1.length) (l3:df.1.2.1.length<=3) (nd:(df.1.2.1.map (·.1)).Nodup)
  (q:∀(A:GA) H',A.t=x->A.bk=bk->A.gs=gs->MX P w Hm H' C CK CG A ks d ds [] (BE df.1.1 (Cs (df.1.2.1.map (·.1)) gs.length)) av0->Q .non H'):yV P w C CK CG H Q [.ref x,.ref bk,.str df.1.1,.ref gv]
def IZ(P:Program)(w:World)(C CK CG:Addr):Sp:=λZ H Q _=>yV P w C CK CG H Q Z
def AR(B:Blt mg)(TG:GCl K CG)(F:Fun K "__init__" "Ground.__init__" Ls f fd)(DN:Df P w K mg base n "named" ["book","f","things"] (IW C CK)):Ye P w K mg base CX0 (n+1) f fd ["self","book","F","worths"] (IZ P w C CK CG):=by
 refine F.oi y0 λD3 A R4 s H L Q E hr h=>?_;obtain⟨t,x,j,bk,gv,ks,d,ds,df,gs,h0,sm,hx,bi,hd,hg,ln,l3,nd,q⟩:=h;refine⟨_,YY (VX (pv 0) (pv 1) Y)
  (YY (VX (pv 0) (pv 3) rfl)
  (YY (VX (pv 0) (V4<|pa1<|Yi Vj) rfl)
  (YY (VX (pv 0) (KU (n:=1) (hn:=hn1)) rfl)
  (YZ<|VX (pv 0) (PV (KP Ya (Yi<|pa3 (pv 2) (Yi Vj)<|Vh DN hr<|pa3 (pv 1) (pv 2)<|JO ["i"] [] (UA rfl B.range (pa1<|VD Y6 rfl B.len Zu (pa1<|pv 3))) (V7 (i:=0)<|by decide) (λcl C fp s H=>Yl 0 vN rfl (Or.inl rfl) (Or.inr rfl)) λcl C fp s H=>Yi<|pa3 (Yp) (pv 0)<|Yi Vj) PM) rfl rfl (by simp) (by decide)) rfl)))),?_⟩
 dsimp only[Vb,Cx.nox,Cx.wish];show let T0:=_;let T1:=Yn _ T0;let T2:=Yn _ T1;let T3:=Yn _ T2;Yn _ T3 _ _ _
 intros
 have nx:∀{b o},t b=some o->b≠x:=λh=>Yb h h0;refine⟨x,CG,j,_,Y,hx,TG.cl,TG.bk,by decide,?_⟩;refine fld_in x _ λH1 b1 x1=>?_;refine⟨x,CG,j,_,Y,x1,TG.cl,TG.gv,(by show 1<1000;decide),?_⟩;refine fld_in x _ λH2 b2 x2=>⟨sl 0,λe he=>?_⟩;refine up_in he _ λH3 s3 g3=>⟨sl 1,λl hl=>?_⟩;have xe:e≠x:=(Yb x2 he).symm;have x3:=s3 _ _ x2;have xl:l≠x:=(Yb x3 hl).symm;refine up_in hl _ λH4 s4 g4=>⟨x,CG,j,_,Y,s4 _ _ x3,TG.cl,TG.bs,(by show 2<1000;decide),?_⟩;refine fld_in x _ λH5 b5 x5=>λnu S=>?_;have xn:nu≠x:=(Yb x5 S).symm;refine up_in S _ λH6 s6 g6=>⟨x,CG,j,_,Y,s6 _ _ x5,TG.cl,TG.nu,(by show 3<1000;decide),?_⟩;refine fld_in x _ λX b7 x7=>λst O=>?_;have g:st≠x:=(Yb x7 O).symm;refine up_in O _ λH8 s8 g8=>⟨sl 0,λe2 R7=>?_⟩;have G3:SameB x H X:=(((((b1.trans b2).trans s3.sb).trans s4.sb).trans b5).trans s6.sb).trans b7;have T8:SameB x H H8:=G3.trans s8.sb;have r:Same t X:=Um h0 sm G3;have v:Same t H8:=Um h0 sm T8;refine up_in R7 _ λH9 s9 g9=>?_;refine⟨gv,_,Y,.inr<|Z2<|s9 _ _<|v _ _ hg,gs.length,by rw[ZA],by omega,by omega,?_⟩;refine Vu gs.length (Js<|by omega) (λi L m=>Same H9 m/\L.length=i/\HasL m L ((List.range i).map λi=>TU i [])) ⟨Z8 _,rfl,Z6⟩ (λi L m z=>z.2.1) (λi L m hi z=>hi) (λL m z=>ZG _) ?_ ?_
 .rintro i L m y H'' R hi ⟨z1,z2,z3⟩ ⟨rfl,rfl⟩ hR
  refine⟨sl 0,λa ha=>?_⟩;refine up_in ha _ λHa sa ga=>⟨sl 3,λc hc=>?_⟩;refine up_in hc _ λHc sc gc=>hR _ _ ⟨(z1.trans sa).trans sc,by rw[ZL,z2];rfl,?_⟩;rw[jQ,ZK];refine Z7 (z3.mono<|sa.trans sc)<|Z5<|Mm (k:=i) (by rw[gc];simp)<|Pw<|sc _ _ ga
 rintro L F4 tl ⟨z1,z2,z3⟩ R6;refine up_in R6 _ λF3 J2 T7=>?_;have Z:=z1.trans J2;refine⟨bk,tl,L,ks,d,ds,df,bi.mono<|v.trans<|s9.trans Z,hd,T7,by omega,l3,nd,λkn F2 I T T4=>⟨sl 3,λtt R5=>?_⟩⟩;refine up_in R5 _ λM2 N T6=>?_;have J:=((s9.trans Z).trans I).trans N;refine⟨J _ _ g8,[(Sum.inl 0,.ref tt)],Y,(by show 1<=15;decide),?_⟩;have u:=J _ _<|s8 _ _ x7;refine fld_in st _ λF1 G2 T5=>⟨x,CG,j,_,Y,G2 _ _ g.symm u,TG.cl,TG.st,(by show 4<1000;decide),?_⟩;refine fld_in x _ λG G1 O1=>?_;have U:∀{b o},M2 b=some o->b≠x->b≠st->G b=some o:=λh n1 n2=>G1 _ _ n1<|G2 _ _ n2 h;have tk:TK M2 G:=λb ys h=>U h (λz=>by rw[z,u]at h;cases h) (λz=>by rw[z,J _ _ g8]at h;cases h);have R8:∀{b o},X b=some o->b≠st:=λh=>Yb h O;have M:∀{b o},X b=some o->b≠x->G b=some o:=λh n=>U (J _ _<|s8 _ _ h) n<|R8 h;have e4:X e=some (.tup []):=b7 _ _ xe<|s6 _ _<|b5 _ _ xe<|s4 _ _ g3;have l7:X l=some (.lst [.ref e]):=b7 _ _ xl<|s6 _ _<|b5 _ _ xl g4;have n7:X nu=some (ddO P w 1 hn1 nu []):=b7 _ _ xn g6;have D:Same t G:=λb o h=>M (r _ _ h)<|nx h;have xk:kn≠x/\kn≠st:=⟨λz=>(by rw[z,Z _ _ (s9 _ _<|s8 _ _ x7)]at T;cases T),λz=>(by rw[z,Z _ _ (s9 _ _ g8)]at T;cases T)⟩;have T9:SameB x H H5:=(((b1.trans b2).trans s3.sb).trans s4.sb).trans b5;have R1:Same t H5:=Um h0 sm T9;have D0:SameB x H H3:=(b1.trans b2).trans s3.sb;have R3:Same t H3:=Um h0 sm D0
 let A':GA:=⟨x,j,bk,gv,l,nu,st,gs⟩
 refine q A' G Y Y Y ⟨D,bi,R3.free hl,R1.free S,r.free O,?_⟩;refine⟨O1,⟨_,M l7 xl,Z5<|Yu (M e4 xe) Z6⟩,⟨[],M n7 xn,(λp h=>(by cases h)),rfl,λk p h=>(by simp at h)⟩,qw,D _ _ hg,_,G1 _ _ g T5,(by show(1:Nat)<=1;exact ZG 1),λn s hs=>?_⟩;unfold BE stP at hs
 by_cases n0:n=0
 .subst n0
  rw[Zp rfl]at hs;cases hs;refine⟨tt,e2,kn,Y,tk _ _ T6,tk _ _<|(Z.trans<|I.trans N) _ _ g9,⟨xk.2,_,U (N _ _ T4) xk.1 xk.2,?_,λx th e=>?_⟩,id⟩
  .unfold nmD;rw[ZA,List.length_zip,ZA];show _<=3;omega
  .refine N2 ?_ e
   rw[Ln];exact VS tk _ (P8 _)<|z3.mono<|J2.trans<|I.trans N
 .rw [Zq n0]at hs;cases hs
end
end K4
namespace L2
open PySem PySem.Spec PyProof.Rows
structure Q5(K:W.Frag)(C:Addr)(m:Str)(f:Addr):Prop where
 gt:W.specialIn K (.ref C) "__getattribute__"=some (some (.builtin "type.__getattribute__"))
 rd:W.readsIn K C (.type "type")=true
 fc:W.findCls K (.ref C) (.type "type") m=some (.val (.ref f))
 kp:W.keepIn K (.ref f)=true
def KY{C f:Addr}(d:Gl X x)(g:X.mg x=some (.ref C))(c:Q5 X.K C m f)(F:Ye X.prog X.w X.K X.mg X.base CX k f b S R)(z:Vn k X.A)(w:Binds X.K b S i)(hd:Vals dvs i)(P:Uv CX X E)(l:PA X (e::J) t)(M:(x==("__debug__":Str))=false:=by decide)(G:starEach (e::J) X.env=(false,eval e X.env)::starEach J X.env:=by rfl)(L:(backTo pos<|starEach J X.env).any (·.1)=false:=by rfl)(j:eval (.Call (.Attribute (.Name x p) m apos) (e::J) [] pos) X.env=(do
   let ov <-eval (.Name x p) X.env
   standAt apos.atName
   let(f,first) <-holding [ov] (getMethod ov m pl)
   callWith pos f first (backTo pos<|starEach (e::J) X.env) (backToKw pos<|keywordEach [] X.env)):=by rfl):
  PE X (.Call (.Attribute (.Name x p) m apos) (e::J) [] pos) (M9 R dvs E t):=by
 intro Z s U H Q I h;refine W.methodCall_KW (pl:=pl) (thn ((Ji (v:=.ref C) d g Y M) Z s U H (λx O=>x=.ref C/\M9 R dvs E t U O Q) I ⟨Y,h⟩) λu B ⟨y,O,N,D,o,q⟩=>?_) j;subst o;obtain rfl:u=Value.ref C:=D;refine W.method_cls N.kIn c.gt<|W.cls_value N.kIn c.rd c.fc rfl ?_;have n:=N.tok<|B.toks+1;refine px (first:=[]) (h₀:=X.base) I.ok.mod.kin c.kp (thn (l pos Z _ U O _ n q) λus s2 ⟨a,H2,T,r,A⟩=>⟨T.kIn,?_⟩) G L;exact G0 F z w hd P T r A
structure WA where
 t:Addr
 dx:Addr
 gr:Addr
 uw:Addr
 wr:Addr
 wn:Addr
 hs:Addr
def Vv(bw:Bool)(A:WA)(mo bg:Int):List (Str×V):=("ground",.ref A.gr)::("most",.int mo)::("begun",.int bg)::("under_way",.ref A.uw)::if bw=true then[("wanters",.ref A.wr),("wants",.ref A.wn),("heads",.ref A.hs)]else[]
structure DCl(K:W.Frag)(C:Addr):Prop where
 cl:Cls K C
 gr:VG K C "ground"
 mo:VG K C "most"
 bg:VG K C "begun"
 uw:VG K C "under_way"
structure WCl(K:W.Frag)(C:Addr):Prop extends DCl K C where
 wr:VG K C "wanters"
 wn:VG K C "wants"
 hs:VG K C "heads"
structure WS(bw:Bool)(H:Hp)(C:Addr)(A:WA)(mo bg:Int)(us:List V)(r n h:List (Key×V)):Prop where
 ins:H A.t=some (.ins C A.dx (Vv bw A mo bg))
 uw:H A.uw=some (.lst us)
 wr:bw=true->H A.wr=some (.dK r)
 wn:bw=true->H A.wn=some (.dK n)
 hs:bw=true->H A.hs=some (.dK h)
def WS.mono(g:WS bw H C A mo bg Z r n h)(s:Same H J):WS bw J C A mo bg Z r n h:=⟨s _ _ g.ins,s _ _ g.uw,λz=>s _ _<|g.wr z,λz=>s _ _<|g.wn z,λz=>s _ _<|g.hs z⟩
structure WF(bw:Bool)(Hm:Hp)(A:WA):Prop where
 t:Hm A.t=none
 uw:Hm A.uw=none
 wr:bw=true->Hm A.wr=none
 wn:bw=true->Hm A.wn=none
 hs:bw=true->Hm A.hs=none
 d1:bw=true->A.wr≠A.wn
 d2:bw=true->A.wr≠A.hs
 d3:bw=true->A.wn≠A.hs
end L2
namespace K4
open PySem L2
section
variable{C CK CG CO CW CD:Addr}
def y9:Yh ["self","ground","most"] ["self","ground","most"] (Yd OB):=Y2
def yp:Yh ["self","ground","most"] ["self","ground","most"] (Yd Fw):=Y2
inductive SDI(CW:Addr)(H:Hp)(Q:VK):List V->Prop
 |mk (x dx gr:Addr) (mo:Int) (hx:H x=some (.ins CW dx []))
  (q:∀uw H',H uw=none->SameB x H H'->H' x=some (.ins CW dx [("ground",.ref gr),("most",.int mo),("begun",.int 0),("under_way",.ref uw)])->H' uw=some (.lst [])->Q .non H'):SDI CW H Q [.ref x,.ref gr,.int mo]
def Sd(CW:Addr):Sp:=λZ H Q _=>SDI CW H Q Z
def zE(Z:DCl K CW)(F:Fun K "__init__" "Doing.__init__" OB f j):Ye P w K v base CX0 (n+1) f j ["self","ground","most"] (Sd CW):=by
 refine F.oi y9 λy A M s H d Q E r h=>?_;obtain⟨x,L,l,u,U,q⟩:=h;refine⟨_,YY (VX (pv 0) (pv 1) Y)
  (YY (VX (pv 0) (pv 2) rfl)
  (YY (VX (pv 0) (Ya) rfl)
  (YZ<|VX (pv 0) (V4 Vj) rfl))),?_⟩
 dsimp only[Vb,Cx.nox,Cx.wish];show let p:=_;let k:=Yn _ p;let g:=Yn _ k;Yn _ g _ _ _
 intros
 refine⟨x,CW,L,_,Y,U,Z.cl,Z.gr,by decide,?_⟩;refine fld_in x _ λi m S=>⟨x,CW,L,_,Y,S,Z.cl,Z.mo,(by show 1<1000;decide),?_⟩;refine fld_in x _ λo t I=>⟨x,CW,L,_,Y,I,Z.cl,Z.bg,(by show 2<1000;decide),?_⟩;refine fld_in x _ λe z O=>⟨sl 0,λR J=>?_⟩;have N:R≠x:=(Yb O J).symm;refine up_in J _ λb T X=>⟨x,CW,L,_,Y,T _ _ O,Z.cl,Z.uw,(by show 3<1000;decide),?_⟩;refine fld_in x _ λc B D=>?_;have G:=(m.trans t).trans z;exact q R c (G.free N J) ((G.trans T.sb).trans B) D<|B _ _ N X
inductive SWI(CW:Addr)(H:Hp)(Q:VK):List V->Prop
 |mk (Hm:Hp) (x dx gr:Addr) (mo:Int) (h0:Hm x=none) (sm:Same Hm H) (hx:H x=some (.ins CW dx []))
  (q:∀(A:WA) H',A.t=x->A.gr=gr->WF true Hm A->Same Hm H'->WS true H' CW A mo 0 [] [] [] []->Q .non H'):SWI CW H Q [.ref x,.ref gr,.int mo]
def SV(CW:Addr):Sp:=λZ H Q _=>SWI CW H Q Z
def C3(M:WCl K CW)(F:Fun K "__init__" "Walk.__init__" Fw f fd)(mD:e "Doing"=some (.ref CD))(cD:Q5 K CD "__init__" g)(k:Ye P w K e base CX0 n g gd ["self","ground","most"] (Sd CW))(bD:Binds K gd ["self","ground","most"] []):Ye P w K e base CX0 (n+1) f fd ["self","ground","most"] (SV CW):=by
 refine F.oi yp λJ2 A z s H vs Q E hr h=>?_;obtain⟨Hm,x,T,a,mo,t,l,o,q⟩:=h;refine⟨_,YY (VR<|KY rfl mD cD k hr bD .nil Y3 (pa3 (pv 0) (pv 1)<|pv 2))
  (YY (VX (pv 0) (Vz) rfl)
  (YY (VX (pv 0) (Vz) rfl)
  (YZ<|VX (pv 0) (Vz) rfl))),?_⟩
 dsimp only[Vb,Cx.nox,Cx.wish];show let T0:=_;let T1:=Yn _ T0;let T2:=Yn _ T1;Yn _ T2 _ _ _
 intros
 refine⟨x,T,a,mo,o,λr H1 R b1 u g1=>?_⟩;have xu:r≠x:=(Yb o R).symm;intro wr L;have X:wr≠x:=(Yb u L).symm;refine up_in L _ λH2 b g2=>⟨x,CW,T,_,Y,b _ _ u,M.cl,M.wr,(by show 4<1000;decide),?_⟩;refine fld_in x _ λH3 b3 d=>?_;intro v G;have j:v≠x:=(Yb d G).symm;have g3:=b3 _ _ X g2;refine up_in G _ λH4 y g4=>⟨x,CW,T,_,Y,y _ _ d,M.cl,M.wn,(by show 5<1000;decide),?_⟩;refine fld_in x _ λH5 m c=>?_;intro i Z;have p:i≠x:=(Yb c Z).symm;refine up_in Z _ λH6 S g6=>⟨x,CW,T,_,Y,S _ _ c,M.cl,M.hs,(by show 6<1000;decide),?_⟩;refine fld_in x _ λH7 U x7=>?_;have I:=b.sb.trans b3;have D:=(I.trans y.sb).trans m;have B:=(D.trans S.sb).trans U;have J:Same Hm H1:=Um t l b1;have N:=m _ _ X<|y _ _ g3;have O:=m _ _ j g4
 let A':WA:=⟨x,T,a,r,wr,v,i⟩
 refine q A' H7 Y Y ⟨t,?_,λ_=>?_,λ_=>?_,λ_=>?_,λ_=>?_,λ_=>?_,λ_=>?_⟩ (Um t J B) ⟨x7,B _ _ xu g1,λ_=>U _ _ X<|S _ _ N,λ_=>U _ _ j<|S _ _ O,λ_=>U _ _ p g6⟩
 .exact l.free R
 .exact J.free L
 .exact J.free (I.free j G)
 .exact J.free (D.free p Z)
 .exact Yb g3 G
 .exact Yb N Z
 .exact Yb O Z
end
end K4
namespace L2
open PySem
def Uz{H:Hp}{o p:HO}(h:H a=some o)(g:H b=some p)(n:o≠p):a≠b:=λz=>n (by rw[z,g]at h;exact(ZT h).symm)
def WS.tb(g:WS bw H C A mo bg J r n h)(s:SameB A.t H Z)(x:Z A.t=some (.ins C A.dx<|Vv bw A mo bg')):WS bw Z C A mo bg' J r n h:=
 have k:∀{c kvs},H c=some (.dK kvs)->Z c=some (.dK kvs):=λe=>s _ _ (Uz e g.ins (by intro z;cases z)) e
 ⟨x,s _ _ (Uz g.uw g.ins (by intro z;cases z)) g.uw,λz=>k<|g.wr z,λz=>k<|g.wn z,λz=>k<|g.hs z⟩
def WS.ub(g:WS bw H C A mo bg J r n h)(s:SameB A.uw H Z)(x:Z A.uw=some (.lst us')):WS bw Z C A mo bg us' r n h:=
 have k:∀{c kvs},H c=some (.dK kvs)->Z c=some (.dK kvs):=λe=>s _ _ (Uz e g.uw (by intro z;cases z)) e
 ⟨s _ _ (Uz g.ins g.uw (by intro z;cases z)) g.ins,x,λz=>k<|g.wr z,λz=>k<|g.wn z,λz=>k<|g.hs z⟩
def WS.rb(g:WS true H C A mo bg J r n h)(f:WF true G A)(b:SameB A.wr H Z)(x:Z A.wr=some (.dK r')):WS true Z C A mo bg J r' n h:=
 ⟨b _ _ (Uz g.ins (g.wr rfl) (by intro z;cases z)) g.ins,b _ _ (Uz g.uw (g.wr rfl) (by intro z;cases z)) g.uw,λ_=>x,λz=>b _ _ (f.d1 z).symm<|g.wn z,λz=>b _ _ (f.d2 z).symm<|g.hs z⟩
def WS.nb(g:WS true H C A mo bg J r n h)(f:WF true G A)(b:SameB A.wn H Z)(x:Z A.wn=some (.dK n')):WS true Z C A mo bg J r n' h:=
 ⟨b _ _ (Uz g.ins (g.wn rfl) (by intro z;cases z)) g.ins,b _ _ (Uz g.uw (g.wn rfl) (by intro z;cases z)) g.uw,λz=>b _ _ (f.d1 z)<|g.wr z,λ_=>x,λz=>b _ _ (f.d3 z).symm<|g.hs z⟩
def WS.hb(g:WS true H C A mo bg J r n h)(f:WF true L A)(b:SameB A.hs H Z)(x:Z A.hs=some (.dK G)):WS true Z C A mo bg J r n G:=
 ⟨b _ _ (Uz g.ins (g.hs rfl) (by intro z;cases z)) g.ins,b _ _ (Uz g.uw (g.hs rfl) (by intro z;cases z)) g.uw,λz=>b _ _ (f.d2 z)<|g.wr z,λz=>b _ _ (f.d3 z)<|g.wn z,λ_=>x⟩
def WS.lb(g:WS bw H C A mo bg J r n h)(e:H l=some (.lst L))(G:l≠A.uw)(s:SameB l H Z):WS bw Z C A mo bg J r n h:=
 have k:∀{c kvs},H c=some (.dK kvs)->Z c=some (.dK kvs):=λq=>s _ _ (Uz q e (by intro z;cases z)) q
 ⟨s _ _ (Uz g.ins e (by intro z;cases z)) g.ins,s _ _ G.symm g.uw,λz=>k<|g.wr z,λz=>k<|g.wn z,λz=>k<|g.hs z⟩
def QB:Jm O≠Vv bw B mo bg:=λz=>by
 have Z:some ("number":Str)=some ("most":Str):=congrArg (λl:List (Str×V)=>(l.map (·.1))[1]?) z;exact Zr Z<|by decide +kernel
def QC:U0 G≠Vv bw B mo bg:=λz=>by
 have Z:some ("given":Str)=some ("most":Str):=congrArg (λl:List (Str×V)=>(l.map (·.1))[1]?) z;exact Zr Z<|by decide +kernel
structure UE where
 k:Nat
 F:Str
 b:Bd
 l:List WEn
structure WSt where
 u:List UE
 r:List (Nat×Option Nat)
 h:List (Nat×Str)
 bg:Nat
 wc:Nat
 s:Ss
def oV:Option Nat->V
 |none=>.non
 |some k=>.int (k:Nat)
def kK(k:Nat):Key:=Sum.inl (k:Int)
def rK(r:List (Nat×Option Nat)):xf:=r.map λp=>(kK p.1,oV p.2)
def avW(bw:Bool)(B:WA):Addr->Prop:=λa=>bw=true/\(a=B.wr\/a=B.wn\/a=B.hs)
def hdT(t:Str):Dat:=.tup [.str "tag",.str t]
def Mg:(hdT t).ti=true:=by simp[hdT,Dat.ti,Dat.tis]
def HdV(H:Hp)(hK:xf)(h:List (Nat×Str)):Prop:=hK.map (·.1)=h.map (λp=>kK p.1)/\HasL H (hK.map (·.2)) (h.map λp=>hdT p.2)
def WLs(Hm H:Hp)(A:GA)(B:WA)(wc:Nat)(Os:List OM)(v:V):Prop:=∃l Z,v=.ref l/\H l=some (.lst Z)/\Z.all XC=true/\Z.length<=wc/\l≠B.uw/\l≠A.bs/\Hm l=none/\∀O∈Os,l≠O.wl
structure WK(bw:Bool)(P:Program)(w:World)(Hm H:Hp)(C CK CG CO CW:Addr)(A:GA)(ks:List (Str×Shp))(d:Str->Nat)(ds:List Dd)(B:WA)(mo:Nat)(S:WSt)(Os:List OM):Prop where
 mx:MX P w Hm H C CK CG A ks d ds S.s.1 S.s.2 (avW bw B)
 gr:B.gr=A.t
 wf:WF bw Hm B
 n1:¬avW bw B A.st
 n2:A.bs≠B.uw
 l3:A.gs.length<=3
 ws:∃nK hK,WS bw H CW B (mo:Nat) (S.bg:Nat) (Os.map λO=>.ref O.t) (rK S.r) nK hK/\HdV H hK S.h/\nK.map (·.1)=S.r.map (λp=>kK p.1)/\∀p∈nK,WLs Hm H A B S.wc Os p.2
 ul:Os.length=S.u.length
 us:∀(i:Nat) O e,Os[i]?=some O->S.u[i]?=some e->RG P w Hm H C CK CG CO A ks d ds (avW bw B) O e.b e.l S.s/\O.n=e.k/\O.F=e.F
 nd:(Os.map (·.wl)).Nodup
 nu:∀O∈Os,O.wl≠B.uw
def WLs.mono(h:WLs G H A B wc Os v)(s:Same H L):WLs G L A B wc Os v:=let⟨l,Z,e,J,r⟩:=h;⟨l,Z,e,s _ _ J,r⟩
def Ed(h:List (Nat×Str)):Dat.tis (h.map λp=>hdT p.2)=true:=XG λd hd=>by obtain⟨p,_,rfl⟩:=ZW.mp hd;exact Mg
def HdV.tk(h:HdV H hK l)(t:TK H Z):HdV Z hK l:=⟨h.1,VS t _ (Ed l) h.2⟩
def Same.tk0(s:Same H Z):TK H Z:=λ_ _ e=>s _ _ e
def WK.mono(k:WK bw P w D H C F CG CO CW A J d T B mo S Os)(s:Same H E):WK bw P w D E C F CG CO CW A J d T B mo S Os:=by
 obtain⟨Z,G,R,N,M,L⟩:=k.ws;exact⟨k.mx.mono s,k.gr,k.wf,k.n1,k.n2,k.l3,⟨Z,G,R.mono s,N.tk s.tk0,M,λp m=>(L p m).mono s⟩,k.ul,λi O e a b=>let⟨r,q⟩:=k.us i O e a b;⟨r.same s,q⟩,k.nd,k.nu⟩
def WK.al(k:WK bw P w O H C R CG CO CW A L d N B mo S Os):∀a,avW bw B a->∃o,H a=some o:=by
 obtain⟨G,M,J,_⟩:=k.ws;rintro a ⟨Z,rfl|rfl|rfl⟩
 .exact ⟨_,J.wr Z⟩
 .exact ⟨_,J.wn Z⟩
 .exact ⟨_,J.hs Z⟩
structure Fo(Hm H H':Hp)(A:GA)(av:Addr->Prop)(l:Addr):Prop where
 b:SameB l H H'
 x:∃o,H' l=some o
 m:Hm l=none
 t:l≠A.t
 bs:l≠A.bs
 nu:l≠A.nu
 st:l≠A.st
 tk:TK H H'
 kn:∀kn ρ m,KnR A H kn ρ m->¬av kn->kn≠l
def KnR.fo(k:KnR A H kn ρ m)(f:Fo B H T A av l)(M:¬av kn):KnR A T kn ρ m:=by
 obtain⟨n,Z,R,N,O⟩:=id k;exact⟨n,Z,f.b _ _ (f.kn _ _ _ k M) R,N,λx J e=>let⟨v,L,G⟩:=O x J e;⟨v,L,VL f.tk _ (Tg.ti J) G⟩⟩
def GG.fo(g:GG P w H CG A cs sts av)(f:Fo Q H X A av l):GG P w X CG A cs sts av:=by
 obtain⟨L,C,U⟩:=g.bs;obtain⟨T,S,I,G⟩:=g.nu;obtain⟨Z,F,E,D⟩:=g.st;refine⟨f.b _ _ f.t.symm g.ins,⟨L,f.b _ _ f.bs.symm C,VS f.tk _ (UM cs) U⟩,⟨T,f.b _ _ f.nu.symm S,I.tk G f.tk,G⟩,g.nd,f.tk _ _ g.gv,Z,f.b _ _ f.st.symm F,E,λk st e=>?_⟩;obtain⟨t,p,B,R,O,N,M,J⟩:=D k st e;exact⟨t,p,B,R,f.tk _ _ O,f.tk _ _ N,M.fo f J,J⟩
def MX.fo(m:MX P w Z H C M CG A J d G cs sts av)(f:Fo Z H L A av l):MX P w Z L C M CG A J d G cs sts av:=
 ⟨λa o e=>f.b a o (Yb e f.m)<|m.sm _ _ e,m.bi,m.f1,m.f2,m.f3,m.gg.fo f⟩
def WEm.fo(h:WEm A av H z c)(f:Fo T H R A av l):WEm A av R z c:=by
 obtain⟨t,O,p,J,e,N,M,L,G,Z⟩:=h;exact⟨t,O,p,J,e,f.tk _ _ N,VL f.tk _ (Bd.ti _) M,f.tk _ _ L,G.fo f Z,Z⟩
def RG.fo(g:RG P w J H C E CG CO A N d B av O b l s)(f:Fo J H D A av p)(M:p≠O.t)(L:p≠O.wl):RG P w J D C E CG CO A N d B av O b l s:=by
 obtain⟨G,R,Z⟩:=g.wl;refine⟨g.mx.fo f,λa T=>?_,⟨f.b _ _ M.symm g.gm.ins,VL f.tk _ (Bd.ti _) g.gm.bd,g.gm.ok,g.gm.gr⟩,⟨G,f.b _ _ L.symm R,Z.1,λk z c a b=>(Z.2 k z c a b).fo f⟩,g.wb,g.fw,g.on⟩
 by_cases z:a=p
 .exact z ▸ f.x
 .obtain ⟨o,q⟩:=g.al a T
  exact⟨o,f.b a o z q⟩
def Lw(g:GG P w H CG A cs sts av)(L:H l=some (.lst N))(f:FrW A l H M):TK H M:=λa O h=>by
 obtain⟨G,J,Z⟩:=g.ne h (λ_ z=>by cases z) (λ_ z=>by cases z) λ_=>Er.symm;exact f a _ G J Z (Yw h L (by intro z;cases z)) h
def RG.frw(g:RG P w U H C Q CG CO A M d S av O1 b1 l1 s)(I:RG P w U X C Q CG CO A M d S av O b l E)(N:H O.wl=some (.lst zs0))(ne:O1.wl≠O.wl)(f:FrW A O.wl H X)(h:s.1.length<=E.1.length):RG P w U X C Q CG CO A M d S av O1 b1 l1 E:=by
 obtain⟨j,R,F⟩:=g.wl;have Z:=Lw g.mx.gg N f;have L:=g.mx.gg.ne g.gm.ins (λ_ z=>by cases z) (λ_ z=>by cases z) λ_=>WJ.symm
 have n:O1.wl≠A.nu/\O1.wl≠A.st:=by
  obtain⟨J,T,_⟩:=g.mx.gg.nu;obtain⟨M,e3,_⟩:=g.mx.gg.st;exact⟨Yw R T Up.symm,Yw R e3 (by intro z;cases z)⟩
 refine⟨I.mx,I.al,⟨f _ _ L.1 L.2.1 L.2.2 (Yw g.gm.ins N (by intro z;cases z)) g.gm.ins,VL Z _ (Bd.ti _) g.gm.bd,g.gm.ok,g.gm.gr⟩,⟨j,f _ _ g.wb n.1 n.2 ne R,F.1,λk z c a b=>?_⟩,g.wb,g.fw,Zb g.on h⟩;obtain⟨t,bv,p,kn,e,u1,u2,i,⟨B,J,G,y,m⟩,o⟩:=F.2 k z c a b;obtain⟨xs,e1,_⟩:=g.mx.gg.bs;obtain⟨J2,T,_⟩:=g.mx.gg.nu;exact⟨t,bv,p,kn,e,Z _ _ u1,VL Z _ (Bd.ti _) u2,Z _ _ i,⟨B,J,f _ _ (Yw G e1 (by intro z;cases z)) (Yw G T Wv.symm) B (Yw G N (by intro z;cases z)) G,y,λx D q=>let⟨v,r,u⟩:=m x D q;⟨v,r,VL Z _ (Tg.ti D) u⟩⟩,o⟩
def Q8(h:∀p∈nK,WLs M H A B wc Os p.2)(k:List.map (·.1) nK=List.map (λp:Nat×Option Nat=>kK p.1) r)(m:x∈r.map (·.1)):∃v,VF nK (kK x)=some v/\WLs M H A B wc Os v:=by
 have:(nK.any λG=>decide<|G.1=kK x)=true:=by
  obtain⟨p,L,rfl⟩:=ZW.mp m;have:kK p.1∈List.map (·.1) nK:=by rw[k];exact ZW.mpr ⟨p,L,Y⟩
  obtain⟨y,Z,e⟩:=ZW.mp this;exact kB.mpr ⟨y,Z,decide_eq_true e⟩
 rw[Jy]at this;obtain⟨v,J⟩:=qZ.mp this;exists v,J;unfold VF at J;obtain⟨y,Z,rfl⟩:=Zj.mp J;exact h y<|jp Z
section
variable{P:Program}{w:World}{bw:Bool}{C CK CG CO CW:Addr}
def WK.get(k:WK bw P w M H C CK CG CO CW A G d L B mo S Os)(h:O∈Os):∃e:UE,RG P w M H C CK CG CO A G d L (avW bw B) O e.b e.l S.s:=by
 obtain⟨i,J⟩:=jn.mp h;have Z:=(ZF.mp J).1;rw[k.ul]at Z;exact⟨_,(k.us i O _ J<|ZD Z).1⟩
def WK.usf(k:WK bw P w Z H C CK CG CO CW A M d N B mo S Os)(f:Fo Z H R A (avW bw B) l)(J:∀O∈Os,l≠O.t/\l≠O.wl):∀(i:Nat) O e,Os[i]?=some O->S.u[i]?=some e->RG P w Z R C CK CG CO A M d N (avW bw B) O e.b e.l S.s/\O.n=e.k/\O.F=e.F:=λi O e a b=>by
 obtain⟨r,q⟩:=k.us i O e a b;obtain⟨L,G⟩:=J O<|ZJ a;exact⟨r.fo f L G,q⟩
def WLs.fo(h:WLs G H A B wc Os v)(b:SameB l H L)(n:∀Z,H l≠some (.lst Z)):WLs G L A B wc Os v:=by
 obtain⟨a,Z,e,J,r⟩:=h;exact⟨a,Z,e,b _ _ (λz=>n Z<|z ▸ J) J,r⟩
def WK.foI(k:WK bw P w N H C CK CG CO CW A R d D B mo S Os)(h:H B.t=some (.ins CW B.dx<|Vv bw B mo bg))(b:SameB B.t H Z)(x:Z B.t=some o):Fo N H Z A (avW bw B) B.t:=by
 obtain⟨L,G,J⟩:=k.mx.gg.ne h (λ_ z=>by cases z) (λ_ z=>by cases z) λ_=>WJ.symm;refine⟨b,⟨_,x⟩,k.wf.t,λz=>?_,L,G,J,λa O e=>b _ _ (Yw e h (by intro z;cases z)) e,λT ρ m M _=>?_⟩
 .exact (Yw h k.mx.gg.ins (λz=>by injection z with _ _ z;exact QC z.symm)) z
 .obtain ⟨_,kvs,e,_⟩:=M
  exact Yw e h (by intro z;cases z)
def WK.foD(k:WK bw P w Z H C CK CG CO CW A D d I B mo S Os)(a:avW bw B l)(h:H l=some (.dK O))(m:Z l=none)(b:SameB l H J)(x:J l=some o):Fo Z H J A (avW bw B) l:=by
 obtain⟨T,N,_⟩:=k.mx.gg.bs;obtain⟨L,M,_⟩:=k.mx.gg.nu;exact⟨b,⟨_,x⟩,m,Yw h k.mx.gg.ins (by intro z;cases z),Yw h N (by intro z;cases z),Yw h M Wv.symm,λz=>k.n1<|z ▸ a,λa R e=>b _ _ (Yw e h (by intro z;cases z)) e,λF ρ m E G z=>G<|z ▸ a⟩
def WK.foL(k:WK bw P w Z H C CK CG CO CW A F d U B mo S Os)(h:H l=some (.lst D))(m:Z l=none)(G:l≠A.bs)(b:SameB l H J)(x:J l=some o):Fo Z H J A (avW bw B) l:=by
 obtain⟨N,T,_⟩:=k.mx.gg.nu;obtain⟨M,R,_⟩:=k.mx.gg.st;refine⟨b,⟨_,x⟩,m,Yw h k.mx.gg.ins (by intro z;cases z),G,Yw h T Up.symm,Yw h R (by intro z;cases z),λa E e=>b _ _ (Yw e h (by intro z;cases z)) e,λI ρ m O _=>?_⟩;obtain⟨_,L,e,_⟩:=O;exact Yw e h (by intro z;cases z)
def WK.nD(k:WK bw P w M H C CK CG CO CW A G d L B mo S Os)(h:H l=some (.dK Z)):∀O∈Os,l≠O.t/\l≠O.wl:=λO m=>by
 obtain⟨e,r⟩:=k.get m;obtain⟨Z,J,_⟩:=r.wl;exact⟨Yw h r.gm.ins (by intro z;cases z),Yw h J (by intro z;cases z)⟩
def WK.bg(k:WK bw P w I H C CK CG CO CW A M d F B J S Os)(b:SameB B.t H G)(x:G B.t=some (.ins CW B.dx<|Vv bw B (J:Nat) (bg':Nat))):WK bw P w I G C CK CG CO CW A M d F B J {S with bg:=bg'} Os:=by
 obtain⟨L,N,Z,E,D,T⟩:=k.ws;have f:=k.foI Z.ins b x;refine⟨k.mx.fo f,k.gr,k.wf,k.n1,k.n2,k.l3,⟨L,N,Z.tb b x,E.tk f.tk,D,λp m=>(T p m).fo b (λX z=>by rw[Z.ins]at z;cases z)⟩,k.ul,k.usf f λO m=>?_,k.nd,k.nu⟩;obtain⟨e,r⟩:=k.get m;obtain⟨U,R,_⟩:=r.wl;exact⟨(Yw r.gm.ins Z.ins (λz=>by injection z with _ _ z;exact QB z)).symm,Yw Z.ins R (by intro z;cases z)⟩
def WK.wr(k:WK true P w M H C CK CG CO CW A N d R B T S Os)(U:VF nK' (kK c)=none->True)(b:SameB B.wr H Z)(x:Z B.wr=some (.dK<|rK<|S.r++[(c,o)])):∃J G,TK H Z/\MX P w M Z C CK CG A N d R S.s.1 S.s.2 (avW true B)/\WS true Z CW B (T:Nat) (S.bg:Nat) (Os.map λO=>.ref O.t) (rK<|S.r++[(c,o)]) J G/\HdV Z G S.h/\J.map (·.1)=S.r.map (λp=>kK p.1)/\(∀p∈J,WLs M Z A B S.wc Os p.2)/\(∀(i:Nat) O e,Os[i]?=some O->S.u[i]?=some e->RG P w M Z C CK CG CO A N d R (avW true B) O e.b e.l S.s/\O.n=e.k/\O.F=e.F):=by
 obtain⟨J,G,L,F,E,D⟩:=k.ws;have f:=k.foD ⟨rfl,.inl rfl⟩ (L.wr rfl) (k.wf.wr rfl) b x;exact⟨J,G,f.tk,k.mx.fo f,L.rb k.wf b x,F.tk f.tk,E,λp m=>(D p m).fo b (λI z=>by rw[L.wr rfl]at z;cases z),k.usf f<|k.nD<|L.wr rfl⟩
def WK.wn(k:WK true P w N H C CK CG CO CW A j d g B mo S Os)(bR:SameB B.wr H T)(n:T B.wr=some (.dK<|rK<|S.r++[(c,o)]))(M:T l=none)(s:Same T R)(U:R l=some (.lst []))(b:SameB B.wn R H3)(nn:∀L:xf,R B.wn=some (.dK L)->H3 B.wn=some (.dK<|L++[(kK c,.ref l)])):WK true P w N H3 C CK CG CO CW A j d g B mo {S with r:=S.r++[(c,o)]} Os:=by
 obtain⟨L,hK,x,J,Q,h2,h3,h4,G⟩:=k.wr (nK':=[]) (λ_=>trivial) bR n;have k1:WK true P w N T C CK CG CO CW A j d g B mo {S with r:=S.r} Os->True:=λ_=>trivial;have Z:=Q.mono s;have X:=nn L<|Z.wn rfl;obtain⟨h,e1,_⟩:=(J.mono s).gg.bs;obtain⟨J2,e2,_⟩:=(J.mono s).gg.nu;have f:Fo N R H3 A (avW true B) B.wn:=⟨b,⟨_,X⟩,k.wf.wn rfl,Yw (Z.wn rfl) (J.mono s).gg.ins (by intro z;cases z),Yw (Z.wn rfl) e1 (by intro z;cases z),Yw (Z.wn rfl) e2 Wv.symm,λz=>k.n1<|z ▸ ⟨rfl,.inr<|.inl rfl⟩,λa ys e=>b _ _ (Yw e (Z.wn rfl) (by intro z;cases z)) e,λkn ρ m kr nk z=>nk<|z ▸ ⟨rfl,.inr<|.inl rfl⟩⟩;have D:H3 l=some (.lst []):=b _ _ (Yw U (Z.wn rfl) (by intro z;cases z)) U;have G1:=J.gg.bs;obtain⟨v,e3,_⟩:=J.gg.bs;have F:N l=none:=J.sm.free M;refine⟨(J.mono s).fo f,k.gr,k.wf,k.n1,k.n2,k.l3,⟨_,hK,Z.nb k.wf b X,(h2.tk s.tk0).tk f.tk,by rw[ZK,ZK,h3];rfl,λp m=>?_⟩,k.ul,λi O e a b'=>?_,k.nd,k.nu⟩
 .rcases ZX.mp m with m|m
  .exact ((h4 p m).mono s).fo b (λh z=>by rw[Z.wn rfl]at z;cases z)
  .rw [ZQ]at m
   subst m;refine⟨l,[],Y,D,Y,Zc _,(Yb Q.uw M).symm,(Yb e3 M).symm,F,λO m=>?_⟩;obtain⟨i,t⟩:=jn.mp m;have y:=(ZF.mp t).1;rw[k.ul]at y;obtain⟨u,I,_⟩:=(G i O _ t<|ZD y).1.wl;exact(Yb I M).symm
 .obtain ⟨r,q⟩:=G i O e a b'
  have E:=r.same s;obtain⟨u,I,_⟩:=E.wl;exact⟨E.fo f (Yw (Z.wn Y) E.gm.ins (by intro z;cases z)) (Yw (Z.wn Y) I (by intro z;cases z)),q⟩
def WK.wl(k:WK true P w J H C CK CG CO CW A I d c B mo S Os)(h:WLs J H A B S.wc Os (.ref l))(e:H l=some (.lst M))(b:SameB l H G)(x:G l=some (.lst<|M++[y]))(t:XC y=true):WK true P w J G C CK CG CO CW A I d c B mo {S with wc:=S.wc+1} Os:=by
 obtain⟨F,U,q,j,Q,X⟩:=k.ws;obtain⟨o,L,g,Z,E,v,D,T,R,N⟩:=h;cases g;rw[e]at Z;cases Z;have f:=k.foL e R T b x;refine⟨k.mx.fo f,k.gr,k.wf,k.n1,k.n2,k.l3,⟨F,U,q.lb e D b,j.tk f.tk,Q,λp m=>?_⟩,k.ul,k.usf f λO m=>?_,k.nd,k.nu⟩
 .obtain ⟨a,ys,v1,v2,v3,v4,v5⟩:=X p m
  by_cases z:a=l
  .subst z
   rw[e]at v2;cases v2;exact⟨a,_,v1,x,by rw[List.all_append,E];simp[t],by rw[ZL,vy];exact jF v4,v5⟩
  .exact ⟨a,ys,v1,b _ _ z v2,v3,qW v4,v5⟩
 .obtain ⟨e2,r⟩:=k.get m
  exact⟨Yw e r.gm.ins (by intro z;cases z),N O m⟩
def WK.wc(k:WK true P w X H C CK CG CO CW A R d U B mo S Os):WK true P w X H C CK CG CO CW A R d U B mo {S with wc:=S.wc+1} Os:=by
 obtain⟨O,T,I,F,E,D⟩:=k.ws;exact⟨k.mx,k.gr,k.wf,k.n1,k.n2,k.l3,⟨O,T,I,F,E,λp m=>let⟨a,Z,N,M,L,G,J⟩:=D p m;⟨a,Z,N,M,L,qW G,J⟩⟩,k.ul,k.us,k.nd,k.nu⟩
def WK.hd(k:WK true P w F H C CK CG CO CW A O d E B mo S Os)(b:SameB B.hs H M)(R:Has H y (hdT t))(x:∀Z:xf,H B.hs=some (.dK Z)->HdV H Z S.h->M B.hs=some (.dK<|Z++[(kK c,y)])):WK true P w F M C CK CG CO CW A O d E B mo {S with h:=S.h++[(c,t)]} Os:=by
 obtain⟨N,Z,J,G,D,T⟩:=k.ws;have L:=x Z (J.hs rfl) G;have f:=k.foD ⟨rfl,.inr<|.inr rfl⟩ (J.hs rfl) (k.wf.hs rfl) b L;exact⟨k.mx.fo f,k.gr,k.wf,k.n1,k.n2,k.l3,⟨N,_,J.hb k.wf b L,⟨by rw[ZK,ZK,G.1];rfl,by rw[ZK,ZK];exact Z7 (VS f.tk _ (Ed _) G.2)<|Z5<|VL f.tk _ Mg R⟩,D,λp m=>(T p m).fo b (λI z=>by rw[J.hs rfl]at z;cases z)⟩,k.ul,k.usf f<|k.nD<|J.hs rfl,k.nd,k.nu⟩
def WK.push(k:WK bw P w X H C CK CG CO CW A F d U B mo S Os)(s:Same H Q)(g:RG P w X Q C CK CG CO A F d U (avW bw B) O bd l S.s)(E:H O.wl=none)(b:SameB B.uw Q y)(x:y B.uw=some (.lst<|(Os.map λO=>.ref O.t)++[.ref O.t])):WK bw P w X y C CK CG CO CW A F d U B mo {S with u:=S.u++[⟨O.n,O.F,bd,l⟩]} (Os++[O]):=by
 have M:=k.mono s;obtain⟨nK,hK,D,h2,h3,h4⟩:=M.ws;obtain⟨N,T,I,g2,g3,g4⟩:=k.ws;have f:=M.foL D.uw k.wf.uw k.n2.symm b x;have G:O.wl≠B.uw:=(Yb I.uw E).symm
 have v:∀Z∈Os,Z.wl≠O.wl:=λZ m=>by
  obtain⟨e,r⟩:=k.get m;obtain⟨zs,n,_⟩:=r.wl;exact Yb n E
 refine⟨M.mx.fo f,k.gr,k.wf,k.n1,k.n2,k.l3,⟨N,T,?_,(g2.tk s.tk0).tk f.tk,g3,λp m=>?_⟩,by rw[ZL,ZL,k.ul];rfl,λi Z e a L=>?_,?_,λZ m=>?_⟩
 .rw [ZK]
  exact(I.mono s).ub b x
 .obtain ⟨a,ys,v1,v2,v3,v4,v5,v6,v7,v8⟩:=g4 p m
  refine⟨a,ys,v1,b _ _ v5<|s _ _ v2,v3,v4,v5,v6,v7,λZ J=>?_⟩;rcases ZX.mp J with J|J
  .exact v8 Z J
  .rw [ZQ]at J;subst J;exact Yb v2 E
 .rcases jS i Os.length with q|q
  .rw [vz q]at a
   rw[vz (by rw[<-k.ul];exact q)]at L;have m:=ZJ a;obtain⟨r,t⟩:=M.us i Z e a L;exact⟨r.fo f (Yw D.uw r.gm.ins (by intro z;cases z)) (k.nu Z m).symm,t⟩
  .rw [vx q]at a
   rw[vx (by rw[<-k.ul];exact q),<-k.ul]at L
   cases e0:i-Os.length with
   |zero=>
    rw[e0]at a L;cases a;cases L;exact⟨g.fo f (Yw D.uw g.gm.ins (by intro z;cases z)) G.symm,Y,Y⟩
   |succ j=>rw[e0]at a;simp at a
 .rw [ZK,ji]
  refine⟨k.nd,by simp,λa h c o=>?_⟩;obtain⟨Z,m,rfl⟩:=ZW.mp h;have R:c=O.wl:=by simpa using o
  rw[R];exact v Z m
 .rcases ZX.mp m with m|m
  .exact k.nu Z m
  .rw [ZQ]at m;subst m;exact G
def WK.run(k:WK bw P w v H C CK CG CO CW A X d t B mo S (Os++[O]))(Q:S.u=u++[e])(f:FrW A O.wl H F)(g:RG P w v F C CK CG CO A X d t (avW bw B) O e.b l' I)(le:S.s.1.length<=I.1.length):WK bw P w v F C CK CG CO CW A X d t B mo {S with u:=u++[{e with l:=l'}],s:=I} (Os++[O]):=by
 obtain⟨nK,hK,J,h2,h3,h4⟩:=k.ws;have b:=k.ul;rw[Q,ZL,ZL,vy,vy]at b;have Z:Os.length=u.length:=by omega
 have N:=k.us;rw[Q]at N;obtain⟨n,q1,x⟩:=N Os.length O e (by rw[vx (ZG _),jx];rfl) (by rw[Z,vx<|ZG _,jx];rfl);obtain⟨M,L,_⟩:=n.wl;have o:=Lw k.mx.gg L f;obtain⟨xs,e1,_⟩:=k.mx.gg.bs;obtain⟨G1,E,_⟩:=k.mx.gg.nu;obtain⟨J2,y,_⟩:=k.mx.gg.st;have T:O.wl≠B.uw:=k.nu O<|ZU _<|ZQ.mpr rfl;have D:∀{a M},avW bw B a->H a=some (.dK M)->F a=some (.dK M):=λha h=>f _ _ (Yw h e1 (by intro z;cases z)) (Yw h E Wv.symm) (λz=>k.n1<|z ▸ ha) (Yw h L (by intro z;cases z)) h;have R:=k.mx.gg.ne J.ins (λ_ z=>by cases z) (λ_ z=>by cases z) λ_=>WJ.symm;have U:=k.nd;rw[ZK,ji]at U;refine⟨g.mx,k.gr,k.wf,k.n1,k.n2,k.l3,⟨nK,hK,⟨f _ _ R.1 R.2.1 R.2.2 (Yw J.ins L (by intro z;cases z)) J.ins,f _ _ k.n2.symm (Yw J.uw E Up.symm) (Yw J.uw y (by intro z;cases z)) T.symm J.uw,λz=>D ⟨z,.inl Y⟩<|J.wr z,λz=>D ⟨z,.inr<|.inl rfl⟩<|J.wn z,λz=>D ⟨z,.inr<|.inr rfl⟩<|J.hs z⟩,h2.tk o,h3,λp m=>?_⟩,by rw[ZL,ZL,Z];rfl,λi c e' a G=>?_,k.nd,k.nu⟩
 .obtain ⟨a,ys,v1,v2,v3,v4,v5,v6,v7,v8⟩:=h4 p m
  exact⟨a,ys,v1,f _ _ v6 (Yw v2 E Up.symm) (Yw v2 y (by intro z;cases z)) (v8 O<|ZU _<|ZQ.mpr rfl) v2,v3,v4,v5,v6,v7,v8⟩
 .rcases jS i Os.length with q|q
  .have a':=a
   rw[vz q]at a';rw[vz (by rw[<-Z];exact q)]at G;obtain⟨r,q'⟩:=N i c e' a (by rw[vz (by rw[<-Z];exact q)];exact G);exact⟨r.frw g L (U.2.2 _ (ZW.mpr ⟨c,ZJ a',Y⟩) _<|by simp) f le,q'⟩
  .rw [vx q]at a
   rw[vx (by rw[<-Z];exact q),<-Z]at G
   cases e0:i-Os.length with
   |zero=>
    rw[e0]at a G;cases a;cases G;exact⟨g,q1,x⟩
   |succ j=>rw[e0]at a;simp at a
def WK.pop(k:WK bw P w y H C CK CG CO CW A D d Q B mo S (Os++[O]))(L:S.u=u++[e])(b:SameB B.uw H M)(x:M B.uw=some (.lst<|Os.map λO=>.ref O.t)):WK bw P w y M C CK CG CO CW A D d Q B mo {S with u:=u} Os:=by
 obtain⟨T,E,J,U,I,F⟩:=k.ws;have N:=k.ul;rw[L,ZL,ZL,vy,vy]at N;have f:=k.foL J.uw k.wf.uw k.n2.symm b x;have G:=k.nd;rw[ZK,ji]at G;refine⟨k.mx.fo f,k.gr,k.wf,k.n1,k.n2,k.l3,⟨T,E,J.ub b x,U.tk f.tk,I,λp m=>?_⟩,by omega,λi Z X a j=>?_,G.1,λZ m=>k.nu Z<|jh _ m⟩
 .obtain ⟨a,ys,v1,v2,v3,v4,v5,v6,v7,v8⟩:=F p m
  exact⟨a,ys,v1,b _ _ v5 v2,v3,v4,v5,v6,v7,λZ m=>v8 Z<|jh _ m⟩
 .have il:=(ZF.mp a).1
  have m:=jh [O]<|ZJ a;obtain⟨r,R⟩:=k.us i Z X (by rw[vz il];exact a) (by rw[L,vz (by omega)];exact j);exact⟨r.fo f (Yw J.uw r.gm.ins (by intro z;cases z)) (k.nu Z m).symm,R⟩
end
def bD(cs:List Mk1)(n:Nat):Dat:=(VO cs).getD n<|.tup []
def itd{Z:xf}(h:H d=some (.frz o<|.dK Z)):Itx (Itd d o Z) H (Z.map λJ=>kV J.1):=⟨λi G=>⟨h,by rw[ZA]at G;exact G⟩,⟨h,by rw[ZA]⟩,λi x M y=>by
 obtain⟨e,J,L,rfl⟩:=y;exact⟨e,by rw[ZH,L];rfl⟩⟩
def PR(K:W.Frag)(Z:PE X e ta)(J:attributeBase e f X.env (eval e X.env)=eval e X.env)(G:X.K=K:=by rfl):PE X (.Attribute e f pos) (CY K ta f):=by
 subst G;exact Yt Z J
end L2
namespace K4
open PySem L2
section
variable{C CK CG CO CW CD:Addr}
abbrev sn:pX:=["self","number"]
def QV(A:WA):(Vv bw A mo bg).lookup ("ground":Str)=some (V.ref A.gr):=rfl
def QU(A:WA):(Vv bw A mo bg).lookup ("most":Str)=some (V.int mo):=rfl
def Fu(A:WA):(Vv bw A mo bg).lookup ("begun":Str)=some (V.int bg):=rfl
def Gi(A:WA):(Vv bw A mo bg).lookup ("under_way":Str)=some (V.ref A.uw):=rfl
def Fs(A:WA):(Vv true A mo bg).lookup ("wanters":Str)=some (V.ref A.wr):=rfl
def Ft(A:WA):(Vv true A mo bg).lookup ("wants":Str)=some (V.ref A.wn):=rfl
def D2(A:WA):(Vv true A mo bg).lookup ("heads":Str)=some (V.ref A.hs):=rfl
def SA(A:WA):(Vv bw A mo bg).lookup ("going_of":Str)=none:=by cases bw <;> rfl
def A9(A:WA):(Vv bw A mo bg).lookup ("go_into":Str)=none:=by cases bw <;> rfl
def QW(A:WA):(Vv true A mo bg).lookup ("birth_of":Str)=none:=rfl
def Q9(A:WA):(Vv bw A mo bg).length<1000:=by unfold Vv;cases bw <;> simp
def Aa(A:OM):(Jm A).lookup ("begin":Str)=none:=rfl
def Cj:Yh sn sn (Yd Tl):=Y2
def Ck:Yh sn sn (Yd Mr):=Y2
def Sj:Yh ["self","number","head"] ["self","number","head"] (Yd SE):=Y2
def Cp:Yh sn sn (Yd Gj):=Y2
inductive OY(P:Program)(w:World)(CG CW:Addr)(H:Hp)(Q:VK):List V->Prop
 |num (A:GA) (B:WA) (mo bg:Int) (cs:List Mk1) (sts:Nat->Option Sta) (av:Addr->Prop) (k:Nat) (ins:H B.t=some (.ins CW B.dx (Vv true B mo bg))) (gr:B.gr=A.t) (gg:GG P w H CG A cs sts av) (hk:k<=cs.length) (q:∀v,Has H v (bD cs k)->Q v H):OY P w CG CW H Q [.ref B.t,.int (k:Nat)]
 |non (B:WA) (q:Q .non H):OY P w CG CW H Q [.ref B.t,.non]
def BL(P:Program)(w:World)(CG CW:Addr):Sp:=λZ H Q _=>OY P w CG CW H Q Z
def Pq(M:WCl K CW)(TG:GCl K CG)(F:Fun K "birth_of" "Walk.birth_of" Gj f S):Ye P w K m base CX0 (n+1) f S sn (BL P w CG CW):=by
 refine F.oi Cp (len:=λO H Q E h=>by cases h <;> rfl) λj A Z s H O Q E g h=>?_;refine⟨_,YY (Y4 (Ys Wj (pv 1) Vo<|Yz _) (YZ<|Yj<|Vo) Yo)
  (YZ<|Yj<|Ym Y7 (Yt (Yt (pv 0) rfl) rfl) (pv 1) λ_ _=>rfl),?_⟩
 dsimp only[Vb,Cx.nox,Cx.wish];show let z:=_;let y:=_;Yn (VH _ y _) z _ _ _
 intros
 rcases h with⟨r,B,t,u,d,R,v,k,ins,I,L,p,q⟩|⟨B,q⟩
 .refine ⟨rfl,_,rfl,Y1 (by simp) ?_⟩
  exists CW,_,_,_,ins,M.cl,M.gr,QV _;rw[I];obtain⟨N,D,G⟩:=L.bs;have T:=G.length;rw[JT]at T;have J:k<N.length:=by omega
  obtain⟨c,X,U⟩:=G.get<|ZD J;refine⟨CG,_,_,_,L.ins,TG.cl,TG.bs,Mo _,_,_,Z3 D,VE<|ZD J,q _ ?_⟩;unfold bD;rw[jm,X];exact U
 .exact ⟨rfl,_,rfl,VI (by decide +kernel) q⟩
inductive Q3(bw:Bool)(P:Program)(w:World)(C CK CG CO CW:Addr)(H:Hp)(Q:VK):List V->Prop
 |mk (Hm:Hp) (A:GA) (ks:List (Str×Shp)) (d:Str->Nat) (ds:List Dd) (B:WA) (mo:Nat) (S:WSt) (Os:List OM) (k:Nat) (sta:Sta) (df:Dd) (wk:WK bw P w Hm H C CK CG CO CW A ks d ds B mo S Os) (hs:S.s.2 k=some sta) (hd:df∈ds) (ef:df.1.1=sta.f) (ok:df.2.ok) (hk:k<=S.s.1.length)
  (q:∀(O:OM) H',O.n=k->O.F=sta.f->Same H H'->H O.wl=none->RG P w Hm H' C CK CG CO A ks d ds (avW bw B) O df.2 [] S.s->H' O.pl=some (.tup (sta.pl.map V.int))->KnR A H' O.kn sta.ρ (3+sta.pl.length)->¬avW bw B O.kn->Q (.ref O.t) H'):Q3 bw P w C CK CG CO CW H Q [.ref B.t,.int (k:Nat)]
def BJ(bw:Bool)(P:Program)(w:World)(C CK CG CO CW:Addr):Sp:=λZ H Q _=>Q3 bw P w C CK CG CO CW H Q Z
def Pn(I:DCl K CW)(F:Fun K "going_of" "Doing.going_of" Tl f a)(m:T "Going"=some (.ref CO))(MO:Mk K CO g)(GI:Ye P w K T base CX0 n g i ["self","ground","number"] (IU P w C CK CG CO))(bI:Binds K i ["self","ground","number"] []):Ye P w K T base CX0 (n+2) f a sn (BJ bw P w C CK CG CO CW):=by
 refine F.oi Cj λJ2 A L s H vs Q E v h=>?_;obtain⟨Hm,A',p,d,ds,B,mo,S,Os,k,G,df,J,u,hd,ef,z,l,q⟩:=h;exists _,YZ<|Yj<|X1 MO GI v rfl m bI .nil Y3 (pa2 (Yt (pv 0) rfl)<|pv 1);dsimp only[Vb,Cx.nox,Cx.wish];obtain⟨nK,hK,U,_⟩:=J.ws;refine⟨CW,_,_,_,U.ins,I.cl,I.gr,QV _,λx Z D M r=>?_⟩;have R:Same H (upd (upd H Z<|.own x) x<|.ins CO Z []):=λb o e=>by rw[Yg (Yb e D),Yg (Yb e M)];exact e
 have N:upd (upd H Z<|.own x) x (.ins CO Z []) x=some (.ins CO Z []):=Yf;generalize upd (upd H Z<|.own x) x (.ins CO Z [])=H7 at N R |-;rw[J.gr];refine⟨Hm,H,x,Z,A',p,d,ds,avW bw B,S.s,k,G,df,D,R,N,J.mx,J.al,u,hd,ef,z,l,λO H' e1 e2 e3 X f1 j y c t=>⟨Y,?_⟩⟩;rw[<-e1];exact q O H' e2 e3 X f1 j y c t
inductive OV(bw:Bool)(P:Program)(w:World)(C CK CG CO CW:Addr)(n:Nat)(H:Hp)(Q:VK):List V->Prop
 |go (Hm:Hp) (A:GA) (ks:List (Str×Shp)) (d:Str->Nat) (ds:List Dd) (B:WA) (mo:Nat) (S:WSt) (Os:List OM) (k:Nat) (sta:Sta) (df:Dd) (m:Nat) (r:Stp) (l':List WEn) (s':Ss) (wk:WK bw P w Hm H C CK CG CO CW A ks d ds B mo S Os) (hs:S.s.2 k=some sta) (hd:df∈ds) (ef:df.1.1=sta.f) (ok:df.2.ok) (hk:k<=S.s.1.length) (lt:S.bg<mo) (lu:S.u.length<=9000) (gs:Gos ds A.gs sta.f df.2 k n m (.body sta.pl sta.ρ) [] S.s r l' s') (ls:S.s.1.length<=s'.1.length)
  (q:∀v O H',WK bw P w Hm H' C CK CG CO CW A ks d ds B mo {S with u:=S.u++[⟨k,sta.f,df.2,l'⟩],bg:=S.bg+1,s:=s'} (Os++[O])->r.on A (avW bw B) H' v->Q v H'):OV bw P w C CK CG CO CW n H Q [.ref B.t,.int (k:Nat)]
 |dry (Hm:Hp) (A:GA) (ks:List (Str×Shp)) (d:Str->Nat) (ds:List Dd) (B:WA) (S:WSt) (Os:List OM) (k:Nat) (wk:WK bw P w Hm H C CK CG CO CW A ks d ds B S.bg S Os) (q:∀t H',Same H H'->H' t=some (.tup [.str "dry"])->Q (.ref t) H'):OV bw P w C CK CG CO CW n H Q [.ref B.t,.int (k:Nat)]
def BK(bw:Bool)(P:Program)(w:World)(C CK CG CO CW:Addr)(n:Nat):Sp:=λZ H Q _=>OV bw P w C CK CG CO CW n H Q Z
def Pp(Z:DCl K CW)(TO:OCl K CO)(F:Fun K "go_into" "Doing.go_into" Mr f fd)(m1:VM K CW "going_of" y)(G1:Ye P w K i base CX0 L y d1 sn (BJ bw P w C CK CG CO CW))(p:Binds K d1 sn [])(m2:VM K CO "begin" g2)(G2:Ye P w K i base CX0 L g2 d2 ["self"] (BM P w C CK CG CO n))(b2:Binds K d2 ["self"] []):Ye P w K i base CX0 (L+1) f fd sn (BK bw P w C CK CG CO CW n):=by
 refine F.oi Ck (len:=λvs H Q E h=>by cases h <;> rfl) λR1 A X s H vs Q E a h=>?_;refine⟨_,YY (Y4 (Ys Vi (Yt (pv 0) Y) (Yt (pv 0) Y)<|Yz _) (YZ<|Yj<|Yi<|pa1<|Yp) Yo)
  (YY (FH (pv 0) Ya Ak)
  (YY (VR<|UI Zz Z0 Z1 Ve (Yt (pv 0) rfl)<|pa1<|Y5 (pv 0) Z.cl m1 G1 a p .nil Y3<|pa1<|pv 1)
  (YZ<|Yj<|Vg (Ym Y7 (Yt (pv 0) rfl)<|X0 Ue Ya) TO.cl m2 G2 a b2 .nil Y3))),?_⟩
 dsimp only[Vb,Cx.nox,Cx.wish];show let T0:=_;let T1:=Yn _ T0;let T2:=Yn _ T1;let T3:=_;Yn (VH _ T3 _) T2 _ _ _
 intros
 rcases h with⟨l,b,j,d,z,B,mo,S,c,k,R,I,m,r,l',s',T,hs,hd,ef,ok,hk,lt,lu,gs,ls,q⟩|⟨l,b,j,d,z,B,S,c,k,T,q⟩
 .obtain ⟨nK,hK,ws,_⟩:=id T.ws
  refine⟨CW,_,_,_,ws.ins,Z.cl,Z.bg,Fu _,CW,_,_,_,ws.ins,Z.cl,Z.mo,QU _,Y,_,Y,Y1 (by simp;omega) ?_⟩;exists _,_,_,_,_,Y,ws.ins,Z.cl,Z.bg,Fu _,_,1,Y,Y,_,_,ws.ins,Q9 _;refine fld_in B.t _ λH1 p x1=>?_;have N:=T.bg (bg':=S.bg+1) p x1;obtain⟨G3,O1,J,_⟩:=id N.ws;refine⟨CW,_,_,_,J.ins,Z.cl,Z.uw,Gi _,.inl ⟨Y,_,Z3 J.uw⟩,_,_,J.ins,SA _,l,b,j,d,z,B,mo,_,c,k,R,I,N,hs,hd,ef,ok,hk,λO H2 e1 x e f2 r2 p2 k2 n2=>?_⟩;have G:=J.mono e;have lo:=T.ul;refine⟨B.uw,_,_,Y,Y,G.uw,Js (by rw[ZA];omega),?_⟩;refine fld_in B.uw _ λH3 g x3=>?_;have M:=N.push e r2 f2 g x3;obtain⟨J2,M2,D,_⟩:=id M.ws;have eu:S.u++[⟨O.n,O.F,I.2,[]⟩]=S.u++[(⟨O.n,O.F,I.2,[]⟩:UE)]:=rfl;obtain⟨o,_⟩:=M.us c.length O ⟨O.n,O.F,I.2,[]⟩ (by rw[vx (ZG _),jx];rfl) (by show(S.u++ _)[_]?=_;rw[lo,vx<|ZG _,jx];rfl);have U:=JS g G.uw;exists CW,_,_,_,D.ins,Z.cl,Z.uw,Gi _,1,Y,_,V.ref O.t,Z3 D.uw,by rw[ZK];exact Uc _ _,_,_,o.gm.ins,Aa _;refine⟨l,b,j,d,z,avW bw B,O,I.2,R.pl,R.ρ,S.s,m,r,l',s',o,U _ _ p2,k2.lb G.uw g,n2,by rw[e1,x];exact gs,T.l3,λv H4 f4 r4 hv=>?_⟩;refine q v O H4 ?_ hv;have:=M.run (u:=S.u) rfl f4 r4 ls;rw[e1,x]at this;exact this
 .obtain ⟨nK,hK,ws,_⟩:=id T.ws
  refine⟨CW,_,_,_,ws.ins,Z.cl,Z.bg,Fu _,CW,_,_,_,ws.ins,Z.cl,Z.mo,QU _,Y,_,Y,VI (by simp) ⟨sl 1,λt ht=>?_⟩⟩;refine up_in ht _ λH1 s1 y=>q t H1 s1 y
def upH(bw:Bool)(k:Nat)(t:Str)(S:WSt):WSt:=if bw=true then{S with h:=S.h++[(k,t)]}else S
inductive OU(bw:Bool)(P:Program)(w:World)(C CK CG CO CW:Addr)(H:Hp)(Q:VK):List V->Prop
 |mk (Hm:Hp) (A:GA) (ks:List (Str×Shp)) (d:Str->Nat) (ds:List Dd) (B:WA) (mo:Nat) (S:WSt) (Os:List OM) (k:Nat) (y:V) (t:Str) (wk:WK bw P w Hm H C CK CG CO CW A ks d ds B mo S Os) (hy:Has H y (hdT t)) (nk:bw=true->k∉S.h.map (·.1)/\S.h.length<=900)
  (q:∀H',TK H H'->WK bw P w Hm H' C CK CG CO CW A ks d ds B mo (upH bw k t S) Os->Q .non H'):OU bw P w C CK CG CO CW H Q [.ref B.t,.int (k:Nat),y]
def Rw(bw:Bool)(P:Program)(w:World)(C CK CG CO CW:Addr):Sp:=λZ H Q _=>OU bw P w C CK CG CO CW H Q Z
def JZ{Z:xf}{J:List Nat}(h:Z.map (·.1)=J.map kK)(n:k∉J):VF Z (kK k)=none/\putK Z (kK k) v=Z++[(kK k,v)]:=by
 have a:(Z.any λL=>decide<|L.1=kK k)=false:=by
  rw[pK];intro p M z;have:p.1∈Z.map (·.1):=jW M;rw[h]at this;obtain⟨j,G,e⟩:=ZW.mp this;have N:kK j=kK k:=e.trans<|Zt z;have:(j:Int)=k:=Sum.inl.inj N;rw[show j=k by omega]at G;exact n G
 refine⟨?_,by unfold putK;rw[a];rfl⟩;rw[Jy]at a
 cases e:VF Z (kK k)with
 |none=>rfl
 |some _=>rw[e]at a;cases a
def Kl(R:WCl K CW)(F:Fun K "end" "Walk.end" SE f g):Ye P w K b base CX0 (n+1) f g ["self","number","head"] (Rw true P w C CK CG CO CW):=by
 refine F.oi Sj λp A J s H v Q E U h=>?_;obtain⟨Hm,A',i,d,ds,B,l,S,Os,k,y,t,M,D,G,q⟩:=h;obtain⟨G,o⟩:=G rfl;have I:=JI U;exists _,YZ<|Vw I (Yt (pv 0) rfl) (pv 1) (pv 2) rfl;dsimp only[Vb,Cx.nox,Cx.wish];obtain⟨r,m,Z,N,_⟩:=id M.ws;have L:m.map (·.1)=(S.h.map (·.1)).map kK:=by rw[N.1,jk];rfl
 have X:=congrArg List.length N.1;rw[ZA,ZA]at X;refine⟨CW,_,_,_,Z.ins,R.cl,R.hs,D2 _,_,Uw.k (k:=kK k) (Z.hs Y)<|Yx<|by omega,?_⟩;refine fld_in B.hs _ λc O T=>?_;refine q c (λa u e=>O _ _ (Yw e (Z.hs Y) (by intro z;cases z)) e)<|M.hd (y:=y) (t:=t) O D λj e x=>?_;rw[Z.hs rfl]at e;cases e;rw[T,(JZ L G).2]
end
end K4
namespace L2
open PySem
def JH(u:List UE):Option Nat:=u.getLast?.map (·.k)
def upW(bw:Bool)(k:Nat)(S:WSt):WSt:=if bw=true then{S with r:=S.r++[(k,JH S.u)],wc:=S.wc+1}else S
inductive WD(bw:Bool)(ds:List Dd)(gs:List Str)(mo n k:Nat)(S:WSt)(Dr:WSt->Prop)(Go:WSt->Stp->Prop):Prop
 |dry (e:S.bg=mo) (q:Dr (upW bw k S))
 |go (sta:Sta) (df:Dd) (j:Nat) (r:Stp) (l':List WEn) (s':Ss) (hs:S.s.2 k=some sta) (hd:df∈ds) (ef:df.1.1=sta.f) (ok:df.2.ok) (hk:k<=S.s.1.length) (lt:S.bg<mo) (gs:Gos ds gs sta.f df.2 k n j (.body sta.pl sta.ρ) [] S.s r l' s') (ls:S.s.1.length<=s'.1.length)
   (q:Go {upW bw k S with u:=S.u++[⟨k,sta.f,df.2,l'⟩],bg:=S.bg+1,s:=s'} r)
inductive WC(bw:Bool)(ds:List Dd)(gs:List Str)(mo n k:Nat)(S:WSt)(Tk:Str->Prop)(Dr:WSt->Prop)(Go:WSt->Stp->Prop):Prop
 |tkn (hb:bw=true) (t:Str) (h:S.h.lookup k=some t) (q:Tk t)
 |new (m:bw=true->k∉S.h.map (·.1)/\k∉S.r.map (·.1)) (d:WD bw ds gs mo n k S Dr Go)
def WC.mono{N Z:Str->Prop}{R G:WSt->Prop}{O J:WSt->Stp->Prop}(c:WC bw y M mo n k S N R O)(P:∀t,N t->Z t)(X:∀s,R s->G s)(C:∀s r,O s r->J s r):WC bw y M mo n k S Z G J:=by
 cases c with
 |tkn U t h q=>exact .tkn U t h<|P _ q
 |new m d=>
  refine .new m ?_
  cases d with
  |dry e q=>exact .dry e<|X _ q
  |go L z j r F T A hd Q B I D M E q=>exact .go L z j r F T A hd Q B I D M E<|C _ _ q
theorem Ld{H:Hp}:∀{G:xf}{h:List (Nat×Str)}{k:Nat}{t:Str},HdV H G h->h.lookup k=some t->∃v,VF G (kK k)=some v/\Has H v (hdT t)
 |[],[],k,t,_,e=>by simp at e
 |[],_::_,k,t,h,e=>by have:=h.1;simp at this
 |_::_,[],k,t,h,e=>by have:=h.1;simp at this
 |(k1,v1)::G,(L,t2)::h,k,t,hv,e=>by
  obtain⟨M,J⟩:=hv;rw[ZV,ZV]at M J;have Z:=List.cons.inj M;unfold HasL at J;rw[jq]at e
  by_cases z:k=L
  .subst z
   rw[beq_self_eq_true]at e;cases e;exact⟨v1,Va Z.1,J.1⟩
  .rw [beq_eq_false_iff_ne.mpr z]at e
   obtain⟨v,O,N⟩:=Ld ⟨Z.2,J.2⟩ e;refine⟨v,(Vf λq=>z ?_).trans O,N⟩;have:(L:Int)=k:=Sum.inl.inj<|Z.1.symm.trans q;omega
def WK.insB(k:WK bw P w L H C M CG CO CW A J d G B Z S Os):H B.t=some (.ins CW B.dx<|Vv bw B (Z:Nat) (S.bg:Nat)):=let⟨_,_,h,_⟩:=k.ws;h.ins
def PD(r:List (Nat×Option Nat)):(rK r).map (·.1)=(r.map (·.1)).map kK:=by unfold rK;rw[jk,jk];rfl
def zi{c A B:Prop}[Decidable c](J:c->A)(Z:¬c->B):if c then A else B:=by
 by_cases h:c
 .rw [Zp h];exact J h
 .rw [Zq h];exact Z h
def S4:(rK r).length=r.length:=by unfold rK;rw[ZA]
def DH(h:S.u=u++[e]):JH (S:WSt).u=some e.k:=by unfold JH;rw[h,List.getLast?_concat];rfl
end L2
namespace K4
open PySem L2
section
variable{C CK CG CO CW CD:Addr}
def BP:Yh ["self","number","wanter"] sn (Yd Fv):=Y2
inductive OT(bw:Bool)(P:Program)(w:World)(C CK CG CO CW:Addr)(n:Nat)(H:Hp)(Q:VK):List V->Prop
 |mk (Hm:Hp) (A:GA) (ks:List (Str×Shp)) (d:Str->Nat) (ds:List Dd) (B:WA) (mo:Nat) (S:WSt) (Os:List OM) (k:Nat) (wk:WK bw P w Hm H C CK CG CO CW A ks d ds B mo S Os) (hw:bw=true->(∀e∈S.u,e.k∈S.r.map (·.1))/\S.r.length<=900/\S.wc<=9000) (lu:S.u.length<=9000)
  (c:WC bw ds A.gs mo n k S (λt=>∀v y H',WK bw P w Hm H' C CK CG CO CW A ks d ds B mo {S with wc:=S.wc+1} Os->H' v=some (.tup [.str "taken",y])->Has H' y (hdT t)->Q (.ref v) H')
   (λS'=>∀t H',WK bw P w Hm H' C CK CG CO CW A ks d ds B mo S' Os->H' t=some (.tup [.str "dry"])->Q (.ref t) H')
   (λS' r=>∀v O H',WK bw P w Hm H' C CK CG CO CW A ks d ds B mo S' (Os++[O])->r.on A (avW bw B) H' v->Q v H')):OT bw P w C CK CG CO CW n H Q [.ref B.t,.int (k:Nat)]
def Rv(bw:Bool)(P:Program)(w:World)(C CK CG CO CW:Addr)(n:Nat):Sp:=λZ H Q _=>OT bw P w C CK CG CO CW n H Q Z
def Km(B':Blt mg)(J:WCl K CW)(TO:OCl K CO)(F:Fun K "want" "Walk.want" Fv f fd)(m:VM K CW "go_into" g)(G:Ye P w K mg base CX0 L g gd sn (BK true P w C CK CG CO CW n))(bG:Binds K gd sn []):Ye P w K mg base CX0 (L+1) f fd sn (Rv true P w C CK CG CO CW n):=by
 refine F.oi BP λR5 A G2 s H vs Q E hr h=>?_;obtain⟨Hm,A',ks,d',ds,B,mo,S,b,k,p,hw,lu,c⟩:=h;obtain⟨hw,lr,lw⟩:=hw rfl;have I:=JI hr;refine⟨_,YY (Y0 2 BP.nd<|Vo)
  (YY (Y4 (Ys NM (VD Y6 rfl B'.len Zu (pa1<|Yt (pv 0) rfl)) Ya<|Yz _) (YY (Y0 2 BP.nd<|Yt (Ym Y7 (Yt (pv 0) rfl)<|X0 Ue Ya) rfl)
  (YZ<|Y4 (Ys Jk (pv 1) (JN I (Yt (pv 0) rfl) (pv 2) λ_ _=>rfl) rfl) (YZ<|VR<|UI Zz Z0 Z1 Ve (JN I (Yt (pv 0) rfl) (pv 2) λ_ _=>rfl)<|pa1<|pv 1) Yo)) Yo)
  (YY (Y4 (Uk<|Xk I (pv 1)<|Yt (pv 0) rfl) (YZ<|Yj<|Yi<|pa2 (Yp)<|JN I (Yt (pv 0) rfl) (pv 1) λ_ _=>rfl) Yo)
  (YY (Y4 (Uk<|Xk I (pv 1)<|Yt (pv 0) rfl) (YZ<|JU) Yo)
  (YY (Vw I (Yt (pv 0) rfl) (pv 1) (pv 2) rfl)
  (YY (Vw I (Yt (pv 0) rfl) (pv 1) (V4 Vj) rfl)
  (YZ<|Yj<|Y5 (pv 0) J.cl m G hr bG .nil Y3<|pa1<|pv 1)))))),?_⟩
 dsimp only[Vb,Cx.nox,Cx.wish];show let T0:=_;let T1:=Yn _ T0;let T2:=Yn _ T1;let T3:=_;let T4:=Yn (VH _ T3 _) T2;let T5:=_;let T6:=Yn (VH _ T5 _) T4;let T7:=_;let T8:=VH _ T7 _;let T9:=Yn _ T8;let R1:=Yn (VH _ T9 _) T6;Yn _ R1 _ _ _
 intros
 have lo:=p.ul;refine OQ ?_;refine WY (λU H'=>∃H1,U=[some (.ref B.t),some<|.int (k:Nat),some (oV<|JH S.u)]/\WK true P w Hm H' C CK CG CO CW A' ks d' ds B mo {S with wc:=S.wc+1} b/\H1=H') ?_ ?_
 .rintro U H1 ⟨_,rfl,wk1,-⟩
  obtain⟨nK,hK,Z,h2,h3,h4⟩:=id wk1.ws;have O1:hK.map (·.1)=(S.h.map (·.1)).map kK:=by rw[h2.1,jk];rfl
  exists CW,_,_,_,Z.ins,J.cl,J.hs,D2 _,_,V9.k (k:=kK k)<|Z.hs rfl,_,rfl;have vh:k∉S.h.map (·.1)->VF hK (kK k)=none:=λnh=>(JZ (v:=.non) O1 nh).1
  cases c with
  |tkn hb t e q=>
   obtain⟨y,e1,e2⟩:=Ld h2 e;refine VI (by rw[e1];rfl) ?_;have dg:=V9.k (k:=kK k)<|Z.hs rfl;rw[e1]at dg;refine⟨CW,_,_,_,Z.ins,J.cl,J.hs,D2 _,_,dg,sl 2,λv hv=>?_⟩;exact up_in hv _ λH3 u g3=>q v y H3 (wk1.mono u) g3<|e2.mono u
  |new m d=>
   obtain⟨nh,m⟩:=m rfl;refine Y1 (by rw[vh nh];decide) ?_;exists CW,_,_,_,Z.ins,J.cl,J.wr,Fs _,_,V9.k (k:=kK k)<|Z.wr rfl,_,rfl;obtain⟨vr,pr⟩:=JZ (v:=oV<|JH S.u) (PD S.r) m;refine Y1 (by rw[vr];decide) ?_;refine⟨CW,_,_,_,Z.ins,J.cl,J.wr,Fs _,_,Uw.k (k:=kK k) (Z.wr Y)<|Yx (by rw[S4];exact Zb lr<|by decide),?_⟩;rw[pr];refine fld_in B.wr _ λH2 b2 x2=>⟨sl 0,λl a=>?_⟩;refine up_in a _ λH3 u g3=>?_;have G3:=u _ _<|b2 _ _ (Yw Z.ins (Z.wr rfl) (by intro z;cases z)) Z.ins;have i:=u _ _<|b2 _ _ (wk1.wf.d1 rfl).symm<|Z.wn rfl;have e3:rK (S.r++[(k,JH S.u)])=rK S.r++[(kK k,oV<|JH S.u)]:=by unfold rK;rw[ZK];rfl
   have X:=congrArg List.length h3;rw[ZA,ZA]at X;refine⟨CW,_,_,_,G3,J.cl,J.wn,Ft _,_,Uw.k (k:=kK k) i<|Yx (by rw[X];exact Zb lr<|by decide),?_⟩;have n3:=(JZ (v:=.ref l) (h3.trans (by rw[jk];rfl):nK.map (·.1)=(S.r.map (·.1)).map kK) m).2;rw[n3];refine fld_in B.wn _ λH5 b5 x5=>?_
   have M:=wk1.wn (c:=k) (o:=JH S.u) (l:=l) b2 (by rw[e3];exact x2) a u g3 b5 λR3 e=>by
    rw[i]at e;cases e;exact x5
   exists _,_,(M.insB),A9 _
   cases d with
   |dry e q=>
    have e':mo=({S with r:=S.r++[(k,JH S.u)],wc:=S.wc+1}:WSt).bg:=e.symm;rw[e']at M;exact .dry Hm A' ks d' ds B _ b k M λt H6 s6 g6=>q t H6 (by rw[e'];exact M.mono s6) g6
   |go G1 df j r l' s' hs hd ef ok hk lt gs ls q=>exact .go Hm A' ks d' ds B mo _ b k G1 df j r l' s' M hs hd ef ok hk lt lu gs ls q
 .intro N hN
  obtain⟨nK,hK,D,h2,h3,h4⟩:=id p.ws;exists CW,_,_,_,D.ins,J.cl,J.uw,Gi _,B.uw,_,Y,.inl<|Z3 D.uw,_,rfl
  by_cases u0:S.u=[]
  .have o0:b=[]:=jf (by rw[lo,u0];rfl)
   refine Y1 (by rw[o0];decide)<|hN _ _ ⟨H,?_,p.wc,rfl⟩;unfold JH;rw[u0]
   rfl
  .have ne:b≠[]:=λz=>u0<|jf (by rw[<-lo,z];rfl)
   obtain⟨R,O,rfl⟩:∃R O,b=R++[O]:=⟨_,_,(jg ne).symm⟩;obtain⟨u',e,eu⟩:∃u' e,S.u=u'++[e]:=⟨_,_,(jg u0).symm⟩
   have ll:R.length=u'.length:=by
    rw[eu,ZL,ZL]at lo;simpa using lo
   have us:=p.us R.length O e (by rw[vx (ZG _),jx];rfl) (by rw[eu,ll,vx<|ZG _,jx];rfl);have ek:=DH eu;have em:=hw e (by rw[eu];exact ZU _<|ZQ.mpr rfl);refine VI (by rw[ZA,ZL,vy];exact decide_eq_true<|by omega) ?_;exists CW,_,_,_,D.ins,J.cl,J.uw,Gi _,1,Y,_,V.ref O.t,Z3 D.uw,by rw[ZK];exact Uc _ _,CO,_,_,_,us.1.gm.ins,TO.cl,TO.nu,EU _;obtain⟨v,hv,a⟩:=Q8 h4 h3 em;obtain⟨l,xs,rfl,T,M2,X,R4⟩:=id a;rw[us.2.1];have dg:=V9.k (k:=kK e.k)<|D.wn rfl;rw[hv]at dg;exists CW,_,_,_,D.ins,J.cl,J.wn,Ft _,_,dg;exists l,xs,Y,.inl<|Z3 T,rfl,M2,_,rfl;have x:∀{H':Hp},WK true P w Hm H' C CK CG CO CW A' ks d' ds B mo {S with wc:=S.wc+1} (R++[O])->N [some (.ref B.t),some<|.int (k:Nat),some (.int (e.k:Nat))] H':=λJ2=>hN _ _ ⟨_,by rw[ek];rfl,J2,rfl⟩;refine zi (λ_=>?_) λ_=>x p.wc;refine⟨CW,_,_,_,D.ins,J.cl,J.wn,Ft _,_,dg,.inl ⟨Y,_,Z3 T⟩,l,_,_,Y,Y,T,Js<|by omega,?_⟩;refine fld_in l _ λH1 b1 x1=>x<|p.wl a T b1 x1 rfl
end
end K4
namespace L2
open PySem
inductive J7 where
 |st (x:Stp)|taken (t:Str)|hd (t:Str)|dry
def J7.on(Hm:Hp)(A:GA)(av:Addr->Prop)(H:Hp)(v:V):J7->Prop
 |.st x=>x.on A av H v
 |.taken t=>Has H v<|.tup [.str "taken",hdT t]
 |.hd t=>Has H v<|.tup [.str "head",hdT t]
 |.dry=>∃t,v=.ref t/\H t=some (.tup [.str "dry"])
def Wlk(bw:Bool)(ds:List Dd)(gs:pX)(mo n:Nat):Nat->J7->WSt->J7->WSt->Prop
 |0,_,_,_,_=>False
 |j+1,x,S,R,SR=>match x with
  |.dry=>R=.dry/\SR=S
  |.st (.want k)=>(bw=true->(∀e∈S.u,e.k∈S.r.map (·.1))/\S.r.length<=900/\S.wc<=9000)/\S.u.length<=9000/\WC bw ds gs mo n k S (λt=>Wlk bw ds gs mo n j (.taken t) {S with wc:=S.wc+1} R SR) (λS'=>Wlk bw ds gs mo n j .dry S' R SR) (λS' r=>Wlk bw ds gs mo n j (.st r) S' R SR)
  |.st (.head t)=>∃u e,S.u=u++[e]/\(bw=true->e.k∉S.h.map (·.1)/\S.h.length<=900)/\Wlk bw ds gs mo n j (.taken t) (K4.upH bw e.k t {S with u:=u}) R SR
  |.taken t=>(S.u=[]/\R=.hd t/\SR=S) \/ ∃u e m r l' s',S.u=u++[e]/\Gos ds gs e.F e.b e.k n m (.head t) e.l S.s r l' s'/\S.s.1.length<=s'.1.length/\Wlk bw ds gs mo n j (.st r) {S with u:=u++[{e with l:=l'}],s:=s'} R SR
  |_=>False
def CN(b:SameB p H G)(h:H p=some (.dK J)):TL H G:=⟨λa Z e=>b _ _ (Yw e h (by intro z;cases z)) e,λa Z e=>b _ _ (Yw e h (by intro z;cases z)) e⟩
def owD(cs:List Mk1):Option Nat->Dat
 |none=>.non
 |some j=>bD cs j
def dnL(S:WSt):xo:=S.h.map λp=>.tup [bD S.s.1 p.1,owD S.s.1 ((S.r.lookup p.1).getD none)]
structure Oa(S:WSt):Prop where
 ok:∀k∈S.h.map (·.1),k<=S.s.1.length/\∃o,S.r.lookup k=some o/\∀j,o=some j->j<=S.s.1.length
 l:S.h.length<=900
theorem KH:∀(r:List (Nat×Option Nat)){k:Nat}{o:Option Nat},r.lookup k=some o->VF (rK r) (kK k)=some (oV o)
 |[],_,_,h=>by simp at h
 |p::r,k,o,h=>by
  rw[jq]at h
  by_cases z:k=p.1
  .subst z
   rw[beq_self_eq_true]at h;cases h;exact Va Y
  .have zb:(k==p.1)=false:=beq_eq_false_iff_ne.mpr z
   rw[zb]at h;refine(Vf λq=>z ?_).trans<|KH r h;have:(p.1:Int)=k:=Sum.inl.inj q;omega
def J7.out(Hm H:Hp)(v:V):J7->Prop
 |.hd t=>Has H v<|.tup [.str "worth",.str t]
 |_=>∃t,v=.ref t/\H t=some (.tup [.str "dry"])
end L2
namespace K4
open PySem L2
section
variable{C CK CG CO CW CD:Addr}
def A6(A:WA):(Vv bw A mo bg).lookup ("want":Str)=none:=by cases bw <;> rfl
def CC(A:WA):(Vv bw A mo bg).lookup ("end":Str)=none:=by cases bw <;> rfl
def A8(A:WA):(Vv bw A mo bg).lookup ("head_of_cell":Str)=none:=by cases bw <;> rfl
def A5(A:WA):(Vv bw A mo bg).lookup ("whole_of":Str)=none:=by cases bw <;> rfl
def zP(A:OM):(Jm A).lookup ("take_head":Str)=none:=rfl
def FE:Yh ["self","number","stop","ended"] sn (Yd Ww):=Y2
inductive yT(bw:Bool)(P:Program)(w:World)(C CK CG CO CW:Addr)(n:Nat)(H:Hp)(Q:VK):List V->Prop
 |mk (Hm:Hp) (A:GA) (ks:List (Str×Shp)) (d:Str->Nat) (ds:List Dd) (B:WA) (mo:Nat) (S:WSt) (Os:List OM) (k j:Nat) (R:J7) (SR:WSt) (wk:WK bw P w Hm H C CK CG CO CW A ks d ds B mo S Os) (gs:Wlk bw ds A.gs mo n j (.st (.want k)) S R SR)
  (q:∀v Os' H',WK bw P w Hm H' C CK CG CO CW A ks d ds B mo SR Os'->(R=.dry \/ ∃t,R=.hd t)->R.on Hm A (avW bw B) H' v->Q v H'):yT bw P w C CK CG CO CW n H Q [.ref B.t,.int (k:Nat)]
def IY(bw:Bool)(P:Program)(w:World)(C CK CG CO CW:Addr)(n:Nat):Sp:=λZ H Q _=>yT bw P w C CK CG CO CW n H Q Z
def AO(B':Blt mg)(TW:DCl K CW)(TO:OCl K CO)(F:Fun K "head_of_cell" "Doing.head_of_cell" Ww f fd)(m1:VM K CW "want" g1)(G1:Ye P w K mg base CX0 L g1 d1 sn (Rv bw P w C CK CG CO CW n))(b1:Binds K d1 sn [])(m2:VM K CW "end" g2)(G2:Ye P w K mg base CX0 L g2 d2 ["self","number","head"] (Rw bw P w C CK CG CO CW))(b2:Binds K d2 ["self","number","head"] [])(m3:VM K CO "take_head" g3)(G3:Ye P w K mg base CX0 L g3 d3 ["self","head"] (IT P w C CK CG CO n))(b3:Binds K d3 ["self","head"] []):Ye P w K mg base CX0 (L+1) f fd sn (IY bw P w C CK CG CO CW n):=by
 refine F.oi FE λF3 A R4 s H vs Q E hr h=>?_;obtain⟨Hm,A',ks,d,ds,B,mo,S,N,k,j,R,SR,G,M,q⟩:=h;refine⟨_,YY (Y0 2 FE.nd<|Yi<|pa2 (Yp)<|pv 1)
  (YZ (NJ Zv (JB XX) (YZ (Y4 (Ys Vi (Ym (r:=VZ K) Yq (pv 2)<|Ya) Yp<|Yz _) (YZ<|Y0 2 FE.nd<|Y5 (pv 0) TW.cl m1 G1 hr b1 .nil Y3<|pa1<|Ym (r:=VZ K) Yq (pv 2)<|Ya) (YZ (Y4 (Ys Vi (Ym (r:=VZ K) Yq (pv 2)<|Ya) Yp<|Yz _) (YY (Y0 3 FE.nd<|Kb Zz PySem.F.slot_list_pop PySem.F.type_list_pop LE<|Yt (pv 0) rfl)
  (YY (VR<|Y5 (pv 0) TW.cl m2 G2 hr b2 .nil Y3<|pa2 (Yt (pv 3) rfl)<|Ym (r:=VZ K) Yq (pv 2)<|Ya)
  (YZ<|Y0 2 FE.nd<|Yi<|pa2 (Yp)<|Ym (r:=VZ K) Yq (pv 2)<|Ya)))<|YZ<|Y4 (Ys UJ (Ym (r:=VZ K) Yq (pv 2)<|Ya) Yp<|Yz _) (YZ<|Yj<|pv 2)<|YZ<|Y4 (Ys Vi (VD Y6 rfl B'.len Zu (pa1<|Yt (pv 0) rfl)) Ya<|Yz _) (YZ<|Yj<|Yi<|pa2 (Yp)<|Ym (r:=VZ K) Yq (pv 2)<|Ya)<|YZ<|Y0 2 FE.nd<|Y5 (Ym Y7 (Yt (pv 0) rfl)<|X0 Ue Ya) TO.cl m3 G3 hr b3 .nil Y3<|pa1<|Ym (r:=VZ K) Yq (pv 2)<|Ya)))))),?_⟩
 dsimp only[Vb,Cx.nox,Cx.wish];show let T0:=_;let T1:=_;let T2:=Yn _ T1;let T3:=Yn _ T2;let T4:=_;let T5:=_;let T6:=_;let T7:=VH _ T5 T6;let T8:=VH _ T4 T7;let T9:=VH _ T3 T8;let F2:=VH _ T0 T9;let F1:=N9 _ F2;Yn _ F1 _ _ _
 intros
 refine⟨sl 2,λt0 R8=>?_⟩;refine up_in R8 _ λH0 s0 g0=>?_
 let W:xi:=λj U a=>∃x S N v z,U=[some (.ref B.t),some<|.int (k:Nat),some v,z]/\WK bw P w Hm a C CK CG CO CW A' ks d ds B mo S N/\x.on Hm A' (avW bw B) a v/\Wlk bw ds A'.gs mo n j x S R SR
 refine⟨W,⟨j,.st<|.want k,S,N,_,_,rfl,G.mono s0,Yu g0<|Z4 Yy<|Z5 (by unfold Has;rfl),M⟩,?_⟩;rintro j U H1 ⟨x,S,N,v,z,rfl,G,hv,M⟩;refine⟨true,Y,VI Y ⟨λU a=>∃j',j'<j/\W j' U a,λU' a z=>z,?_⟩⟩
 cases j with
 |zero=>unfold Wlk at M;exact M.elim
 |succ j=>
 unfold Wlk at M;obtain⟨nK,hK,l,h2,h3,h4⟩:=id G.ws;have o:=G.ul
 cases x with
 |dry=>
  obtain⟨e1,p⟩:=M;subst e1 p;obtain⟨t,rfl,J⟩:=id hv;refine⟨_,_,Z2 J,at0,Y,_,Y,Y1 (by decide +kernel) ?_⟩;refine⟨_,_,Z2 J,at0,Y,_,Y,Y1 (by decide +kernel) ?_⟩;refine⟨_,_,Z2 J,at0,Y,_,Y,VI (by decide +kernel)<|q _ _ _ G (.inl rfl) hv⟩
 |st y=>
  cases y with
  |want k'=>
   obtain⟨n1,n2,c⟩:=M;have D:Has H1 v (.tup [.str "want",.int (k':Nat)]):=hv;obtain⟨t,ys,rfl,J,hl⟩:=Yr D;obtain⟨x1,r1,rfl,e1,X⟩:=Yc hl;obtain⟨x2,r2,rfl,p,I⟩:=Yc X;obtain rfl:=VB I;obtain rfl:=has_str e1;obtain rfl:x2=.int (k':Nat):=by unfold Has at p;exact p
   refine⟨_,_,Z2 J,at0,Y,_,Y,VI (by decide +kernel) ?_⟩;refine⟨_,_,l.ins,A6 _,_,_,Z2 J,at1,Hm,A',ks,d,ds,B,mo,S,N,k',G,n1,n2,c.mono ?_ ?_ ?_⟩
   .exact λt g v y a T M2 R5=>⟨j,jj _,.taken t,_,N,_,_,rfl,T,Yu M2<|Z4 Yy<|Z5 R5,g⟩
   .exact λS' g t a T M2=>⟨j,jj _,.dry,S',N,_,_,rfl,T,⟨t,rfl,M2⟩,g⟩
   .exact λS' r g u O a T R7=>⟨j,jj _,.st r,S',_,_,_,rfl,T,R7,g⟩
  |head t=>
   obtain⟨u,e,i,n1,g⟩:=M;have D:Has H1 v (.tup [.str "head",hdT t]):=hv;obtain⟨t',ys,rfl,J,hl⟩:=Yr D;obtain⟨x1,r1,rfl,e1,X⟩:=Yc hl;obtain⟨x2,r2,rfl,p,I⟩:=Yc X;obtain rfl:=VB I;obtain rfl:=has_str e1;have ne:N≠[]:=λz=>by rw[z,i]at o;simp at o
   obtain⟨Z,O,rfl⟩:∃Z O,N=Z++[O]:=⟨_,_,(jg ne).symm⟩
   have ll:Z.length=u.length:=by
    rw[i,ZL,ZL]at o;simpa using o
   have us:=G.us Z.length O e (by rw[vx (ZG _),jx];rfl) (by rw[i,ll,vx<|ZG _,jx];rfl);refine⟨_,_,Z2 J,at0,Y,_,Y,Y1 (by decide +kernel) ?_⟩;refine⟨_,_,Z2 J,at0,Y,_,Y,VI (by decide +kernel) ?_⟩;have uw:=l.uw;rw[ZK]at uw;refine⟨CW,_,_,_,l.ins,TW.cl,TW.uw,Gi _,.inl ⟨Y,_,Z3 uw⟩,B.uw,_,_,Y,Y,uw,by rw[ZL,jP,vy,Nat.add_sub_cancel,vx<|ZG _,jx];rfl,?_⟩;rw[jP,List.dropLast_concat];refine fld_in B.uw _ λH2 b2 g2=>?_;have b:=JS b2 l.uw;have O1:=G.pop i b2 g2;have D0:=b2 _ _ (Yw us.1.gm.ins l.uw (by intro z;cases z)) us.1.gm.ins;exists _,_,O1.insB,CC _,CO,_,_,_,D0,TO.cl,TO.nu,EU _,_,_,Z2<|b _ _ J,at1;rw[us.2.1];refine⟨Hm,A',ks,d,ds,B,mo,_,Z,e.k,x2,t,O1,VL b _ Mg p,n1,λH3 R1 R3=>?_⟩;refine⟨_,_,Z2<|R1 _ _<|b _ _ J,at1,sl 2,λt4 J2=>?_⟩;refine up_in J2 _ λH4 s4 g4=>?_;refine⟨j,jj _,.taken t,_,Z,_,_,Y,R3.mono s4,?_,g⟩;have ti:(hdT t).ti=true:=Mg;exact Yu g4<|Z4 Yy<|Z5<|(VL R1 _ ti<|VL b _ ti p).mono s4
  |body pl ρ=>exact M.elim
  |thing th=>exact M.elim
 |taken t=>
  have D:Has H1 v (.tup [.str "taken",hdT t]):=hv;obtain⟨t',ys,rfl,J,hl⟩:=Yr D;obtain⟨x1,r1,rfl,e1,X⟩:=Yc hl;obtain⟨x2,r2,rfl,p,I⟩:=Yc X;obtain rfl:=VB I;obtain rfl:=has_str e1;refine⟨_,_,Z2 J,at0,Y,_,Y,Y1 (by decide +kernel) ?_⟩;refine⟨_,_,Z2 J,at0,Y,_,Y,Y1 (by decide +kernel) ?_⟩;refine⟨_,_,Z2 J,at0,Y,_,Y,Y1 (by decide +kernel) ?_⟩;exists CW,_,_,_,l.ins,TW.cl,TW.uw,Gi _,B.uw,_,Y,.inl<|Z3 l.uw,rfl,_,rfl;rcases M with⟨u0,rfl,rfl⟩|⟨u,e,m,r,l',s',i,D3,ls,g⟩
  .have o0:N=[]:=jf (by rw[o,u0];rfl)
   refine VI (by rw[o0];decide) ⟨_,_,Z2 J,at1,sl 2,λt4 J2=>?_⟩;refine up_in J2 _ λH4 s4 g4=>?_;exact q _ _ _ (G.mono s4) (.inr ⟨t,Y⟩)<|Yu g4<|Z4 Yy<|Z5<|p.mono s4
  have ne:N≠[]:=λz=>by rw[z,i]at o;simp at o
  obtain⟨Z,O,rfl⟩:∃Z O,N=Z++[O]:=⟨_,_,(jg ne).symm⟩
  have ll:Z.length=u.length:=by
   rw[i,ZL,ZL]at o;simpa using o
  have us:=G.us Z.length O e (by rw[vx (ZG _),jx];rfl) (by rw[i,ll,vx<|ZG _,jx];rfl);refine Y1 (by rw[ZA,ZL,vy];simp;omega) ?_;exists CW,_,_,_,l.ins,TW.cl,TW.uw,Gi _,1,Y,_,V.ref O.t,Z3 l.uw,by rw[ZK];exact Uc _ _,_,_,us.1.gm.ins,zP _,_,_,Z2 J,at1;refine⟨Hm,A',ks,d,ds,avW bw B,O,e.b,e.l,S.s,x2,t,m,r,l',s',us.1,p,by rw[us.2.1,us.2.2];exact D3,G.l3,λv a f rg R6=>?_⟩;exact⟨j,jj _,.st r,_,_,_,_,Y,G.run i f rg ls,R6,g⟩
 |hd t=>exact M.elim
abbrev shd:pX:=["self","head"]
def yn:Yh ["self","head","found","thing","told"] shd (Yd Ti):=Y2
inductive yN(H:Hp)(Q:VK):List V->Prop
 |mk (z y:V) (t:Str) (hy:Has H y (hdT t)) (q:∀u H',Same H H'->Has H' u (.tup [.str "worth",.str t])->Q u H'):yN H Q [z,y]
def IR:Sp:=λZ H Q _=>yN H Q Z
def AH(F:Fun K "whole_of" "Doing.whole_of" Ti f B):Ye P w K u base CX0 (n+1) f B shd IR:=by
 refine F.oi yn λS A Z s H g Q E v h=>?_;obtain⟨z,y,t,M,q⟩:=h;refine⟨_,YY (Y4 (Ys Vi (Ym (r:=VZ K) Yq (pv 1)<|Ya) Yp<|Yz _) (YZ<|Yj<|Yi<|pa2 (Yp)<|Ym (r:=VZ K) Yq (pv 1)<|Ya) Yo)
  J9,?_⟩
 show let U:=_;Yn (VH _ U _) _ _ _ _
 intros
 unfold hdT at M;obtain⟨k,X,rfl,N,R⟩:=Yr M;obtain⟨m,d,rfl,I,G⟩:=Yc R;obtain⟨j,c,rfl,D,J⟩:=Yc G;obtain rfl:=VB J;obtain rfl:=has_str I;refine⟨_,_,Z2 N,at0,Y,_,Y,VI (by decide +kernel) ⟨_,_,Z2 N,at1,sl 2,λp O=>?_⟩⟩;exact up_in O _ λl L T=>q _ _ L<|Yu T<|Z4 Yy<|Z5<|D.mono L
def Qd:Yh ["self","whole","told"] ["self","whole"] (Yd Tj):=Y2
inductive Q2(bw:Bool)(P:Program)(w:World)(C CK CG CO CW:Addr)(n:Nat)(H:Hp)(Q:VK):List V->Prop
 |mk (Hm:Hp) (A:GA) (ks:List (Str×Shp)) (d:Str->Nat) (ds:List Dd) (B:WA) (mo:Nat) (S:WSt) (Os:List OM) (j:Nat) (R:J7) (SR:WSt) (full:Bool) (wk:WK bw P w Hm H C CK CG CO CW A ks d ds B mo S Os) (gs:Wlk bw ds A.gs mo n j (.st (.want 0)) S R SR)
  (q:∀v Os' H',WK bw P w Hm H' C CK CG CO CW A ks d ds B mo SR Os'->R.out Hm H' v->Q v H'):Q2 bw P w C CK CG CO CW n H Q [.ref B.t,.bl full]
def BG(bw:Bool)(P:Program)(w:World)(C CK CG CO CW:Addr)(n:Nat):Sp:=λZ H Q _=>Q2 bw P w C CK CG CO CW n H Q Z
def Ph(k:DCl K CW)(F:Fun K "outcome" "Doing.outcome" Tj f fd)(a:VM K CW "head_of_cell" g1)(G1:Ye P w K y base CX0 L g1 d1 sn (IY bw P w C CK CG CO CW n))(b1:Binds K d1 sn [])(i:VM K CW "whole_of" g2)(G2:Ye P w K y base CX0 L g2 d2 shd IR)(b2:Binds K d2 shd []):Ye P w K y base CX0 (L+1) f fd ["self","whole"] (BG bw P w C CK CG CO CW n):=by
 refine F.oi Qd λJ2 A T s H vs Q E z h=>?_;obtain⟨Hm,A',x,d,ds,B,o,S,Os,j,R,SR,full,X,gs,q⟩:=h;refine⟨_,YY (Y0 2 Qd.nd<|Y5 (pv 0) k.cl a G1 z b1 .nil Y3<|pa1<|Ya)
  (YY (Y4 (Ys UJ (Ym (r:=VZ K) Yq (pv 2)<|Ya) Yp<|Yz _) (YZ<|Yj<|pv 2) Yo)
  (YY (Y4 (JB<|pv 1) (YZ<|Yj<|Y5 (pv 0) k.cl i G2 z b2 .nil Y3<|pa1<|Ym (r:=VZ K) Yq (pv 2)<|Ya) Yo)
  (YY (Y4 (Ys Vi (Ym (r:=VZ K) Yq (Ym (r:=VZ K) Yq (pv 2)<|Ya)<|Ya) Yp<|Yz _) J9 Yo)
  (YZ<|Yj<|Yi<|pa2 (Yp)<|Ym (r:=VZ K) Yq (Ym (r:=VZ K) Yq (pv 2)<|Ya)<|Ya)))),?_⟩
 show let T0:=_;let T1:=Yn (VH _ _ _) T0;let T2:=_;let T3:=Yn (VH _ T2 _) T1;let T4:=_;let T5:=Yn (VH _ T4 _) T3;Yn _ T5 _ _ _
 intros
 refine⟨_,_,X.insB,A8 _,Hm,A',x,d,ds,B,o,S,Os,0,j,R,SR,X,gs,λv G3 H' Z hR D=>?_⟩;rcases hR with rfl|⟨t,rfl⟩
 .obtain ⟨t,rfl,M⟩:=id D
  exact⟨_,_,Z2 M,at0,Y,_,Y,VI (by decide +kernel)<|q _ _ _ Z D⟩
 .have hv2:Has H' v (.tup [.str "head",hdT t]):=D
  obtain⟨t',c,rfl,M,I⟩:=Yr hv2;obtain⟨l,e,rfl,e1,G⟩:=Yc I;obtain⟨U,b,rfl,g,J⟩:=Yc G;obtain rfl:=VB J;obtain rfl:=has_str e1;refine⟨_,_,Z2 M,at0,Y,_,Y,Y1 (by decide +kernel) ?_⟩
  cases full with
  |true=>
   refine⟨_,Y,VI Y ?_⟩;exact⟨_,_,Z.insB,A5 _,_,_,Z2 M,at1,_,U,t,g,λu H2 O hu=>q _ _ _ (Z.mono O) hu⟩
  |false=>
   refine⟨_,Y,Y1 (by decide) ?_⟩;have m:=g;unfold hdT at m;obtain⟨t2,c,rfl,N,I⟩:=Yr m;obtain⟨l,e,rfl,e4,G⟩:=Yc I;obtain⟨U,b,rfl,e5,J⟩:=Yc G;obtain rfl:=VB J;obtain rfl:=has_str e4;refine⟨_,_,Z2 M,at1,_,_,Z2 N,at0,Y,_,Y,Y1 (by decide +kernel) ?_⟩;refine⟨_,_,Z2 M,at1,_,_,Z2 N,at1,sl 2,λp hp=>?_⟩;exact up_in hp _ λH2 O g2=>q _ _ _ (Z.mono O)<|Yu g2<|Z4 Yy<|Z5<|e5.mono O
def Sw:Yh ["self"] ["self"] (Yd Fx):=Y2
def zM:List.Nodup [("number":Str),"self"]:=by decide +kernel
inductive OW(P:Program)(w:World)(C CK CG CO CW:Addr)(H:Hp)(Q:VK):List V->Prop
 |mk (Hm:Hp) (A:GA) (ks:List (Str×Shp)) (d:Str->Nat) (ds:List Dd) (B:WA) (mo:Nat) (S:WSt) (Os:List OM) (wk:WK true P w Hm H C CK CG CO CW A ks d ds B mo S Os) (dn:Oa S)
  (q:∀p vs H',Same Hm H'->TL H H'->Hm p=none->H' p=some (.lst vs)->HasL H' vs (dnL S)->Q (.ref p) H'):OW P w C CK CG CO CW H Q [.ref B.t]
def R9(P:Program)(w:World)(C CK CG CO CW:Addr):Sp:=λZ H Q _=>OW P w C CK CG CO CW H Q Z
def Ky(I:WCl K CW)(F:Fun K "done" "Walk.done" Fx f fd)(m:VM K CW "birth_of" g)(G:Ye P w K mg base CX0 L g gd sn (BL P w CG CW))(bG:Binds K gd sn []):Ye P w K mg base CX0 (L+1) f fd ["self"] (R9 P w C CK CG CO CW):=by
 refine F.oi Sw λG2 A J2 s H vs Q E hr h=>?_;obtain⟨Hm,A',ks,d,ds,B,mo,S,Os,M,dn,q⟩:=h;have hu:=JI hr;refine⟨_,YZ<|Yj<|JO ["number"] [0] (PN<|Yt (pv 0) rfl) (V7 (i:=0)<|by decide) (λcl C fp s H=>Yl 0 zM rfl (Or.inl rfl) (Or.inr rfl)) λcl C fp s H=>Yi<|pa2 (Y5 (pv 1) I.cl m G hr bG .nil Y3<|pa1<|pv 0)<|Y5 (pv 1) I.cl m G hr bG .nil Y3<|pa1<|JN hu (PR K (pv 1) rfl) (pv 0) λ_ _=>rfl,?_⟩;dsimp only[Vb,Cx.nox,Cx.wish];obtain⟨nK,hK,J,h2,h3,h4⟩:=id M.ws;refine⟨CW,_,_,_,J.ins,I.cl,I.hs,D2 _,B.hs,_,Y,J.hs Y,λo=>?_⟩;refine fld_in B.hs _ λH1 b g1=>?_;have f1:=M.foD ⟨rfl,.inr<|.inr rfl⟩ (J.hs rfl) (M.wf.hs rfl) b g1;have N:=M.mx.fo f1;have G1:=b _ _ (Yw J.ins (J.hs rfl) (by intro z;cases z)) J.ins;have e:=b _ _ (M.wf.d2 rfl)<|J.wr rfl
 have ek:hK.map (λkv=>kV kv.1)=(S.h.map (·.1)).map λk=>V.int (k:Nat):=by
  rw[show(λkv:Key×V=>kV kv.1)=kV ∘ (·.1)from rfl,<-jk,h2.1,jk,jk]
  rfl
 have hx:∀l:List Nat,HasL H1 (l.map λk=>V.int (k:Nat)) (l.map λk=>Dat.int (k:Nat)):=λl=>by
  induction l with
  |nil=>exact Z6
  |cons a l ih=>exact Z4 (by unfold Has;rfl) ih
 refine WL (us:=S.h.map (·.1)) (D:=λk=>.int (k:Nat)) (F:=λk=>.tup [bD S.s.1 k,owD S.s.1 ((S.r.lookup k).getD none)]) (λH' s=>itd<|s _ _ g1) (by rw[ek];exact hx _) (by rw[ZA];have:=dn.l;omega) (λk x r R hm T X hR=>?_) λvs p r fp T hp y=>?_
 .obtain rfl:x=.int (k:Nat):=by unfold Has at X;exact X
  obtain⟨d1,o',d2,d3⟩:=dn.ok k hm;have Z:=T _ _ G1;have c:=(N.mono T).gg;refine⟨_,_,Z,QW _,.num A' B _ _ S.s.1 S.s.2 (avW true B) k Z M.gr c d1 λv hv=>?_⟩;have dg:=V9.k (k:=kK k)<|T _ _ e;rw[KH _ d2]at dg;exists _,_,Z,QW _,CW,_,_,_,Z,I.cl,I.wr,Fs _,_,dg;have u:∀U,Has r U (owD S.s.1 o')->(∀t,r t=none->R (.ref t) (upd r t<|.tup [v,U])):=λU O t ht=>up_in ht _ λH3 n g3=>hR _ _ n<|Yu g3<|Z4 (hv.mono n)<|Z5 (by rw[d2];exact O.mono n)
  cases o' with
  |none=>exact .non B ⟨sl 2,u _ (by unfold owD Has;rfl)⟩
  |some j=>exact .num A' B _ _ S.s.1 S.s.2 (avW true B) j Z M.gr c (d3 j Y) λU O=>⟨sl 2,u U O⟩
 .exact q p vs r (N.sm.trans T) ((CN b<|J.hs rfl).trans T.tl) (N.sm.free fp) hp (by unfold dnL;rw[jk]at y;exact y)
end
end K4
namespace L2
open PySem PySem.Spec PyProof.Rows
structure N0(K:W.Frag)(x qual:Str)(st:Stmt)(f:Addr)(fd:FuncData):Prop where
 ex:∃(oc:Value)(od:Option Addr)(kV doc pm:Value)(an:Option Addr)(cdv ct:Value)(osl:Array (Option Value))(T:Addr)(tc:Value)(td:Option Addr)(tn:Nat)(tl:Array (Option Value)),
  fd=W.fnOf x qual (JG st) (Vl st) (Yd st) (.ref T) kV doc pm an cdv ct/\K.lookup f=some ⟨oc,od,.func fd,osl⟩/\W.codeIn K cdv qual=true/\K.lookup T=some ⟨tc,td,.seq #[.bool false] tn,tl⟩
 kp:W.keepIn K (.ref f)=true
def N0.oi{K:W.Frag}{st:Stmt}(F:N0 K x qual st f X)(S:Yh N B (Yd st))(L:∀(J:Value)(A:Around)(Z:List Env)(s:Shared)(H:Hp)(G:xg)(Q:VK)(E:XK),Vn k (A.deeper<|PyProof.Rows.envOfC qual (Yd st) s.heap.objs.size f J)->R G H Q E->
   ∃t,PSs (Vb CX0 P w K I base N qual (Yd st) f J A Z s H E).nox (Vl st) t/\t {nx:=λ_ y=>Q .non y,rt:=Q} (start N G) H)(len:∀G H Q E,R G H Q E->G.length=B.length:=by intro G H Q E h;cases h;rfl):Ye P w K I base CX0 (k+1) f X B R:=by
 obtain⟨u,d,kV,j,c,r,J,v,D,T,p,g,z,m,rfl,U,O,_⟩:=F.ex;refine Qz U O S len λA Z s H G Q E C M=>?_;obtain⟨t,h,q⟩:=L J A Z s H G Q E C M;exact⟨t,h.nox,q⟩
def V0{α:Type}{Z:List α}{n:Nat}(h:Z.length=n+1):∃a t,Z=a::t/\t.length=n:=by
 cases Z with
 |nil=>cases h
 |cons a t=>exact⟨a,t,Y,Nat.succ.inj h⟩
def N0.b5{K:W.Frag}{st:Stmt}(F:N0 K x qual st f t)(p D B R O:Str)(h:∀(a b c d e T kV Z L:Value)(N:xb)(J M:Value),∃k:Option (xc)->Sem (List<|Str×Value),bindArgs (W.fnOf x qual (JG st) (Vl st) (Yd st) T kV Z L N J M) ⟨[a,b,c,d,e],[]⟩=seqItems? T >>=k/\k (some #[.bool false])=pure ([p,D,B,R,O].zip [a,b,c,d,e]):=by
   exact λ_ _ _ _ _ _ _ _ _ _ _ _=>⟨_,Y,Y⟩):Binds K t [p,D,B,R,O] []:=λs G X E=>by
 obtain⟨r,w,kV,Z,L,N,J,M,A,T,v,u,m,g,rfl,l,y,I⟩:=F.ex;have S:G.length=5:=by simpa using E
 clear E;obtain⟨a,G,rfl,U⟩:=V0 S;obtain⟨b,G,rfl,C⟩:=V0 U;obtain⟨c,G,rfl,P⟩:=V0 C;obtain⟨d,G,rfl,Q⟩:=V0 P;obtain⟨e,G,rfl,j⟩:=V0 Q;obtain rfl:=jf j;obtain⟨k,q,z⟩:=h a b c d e (.ref T) kV Z L N J M;exact BindsTo.of_defaults Y (X _ _ I) Y q z
def N0.b4{K:W.Frag}{st:Stmt}(F:N0 K x qual st f q)(p D B R O:Str)(h:∀(a b c d T kV Z L:Value)(N:xb)(J M:Value),∃k:Option (xc)->Sem (List<|Str×Value),bindArgs (W.fnOf x qual (JG st) (Vl st) (Yd st) T kV Z L N J M) ⟨[a,b,c,d],[]⟩=seqItems? T >>=k/\k (some #[.bool false])=pure ([p,D,B,R,O].zip [a,b,c,d,.bool false]):=by
   exact λ_ _ _ _ _ _ _ _ _ _ _=>⟨_,Y,Y⟩):Binds K q [p,D,B,R,O] [.bool false]:=λs G X E=>by
 obtain⟨w,v,kV,Z,L,N,J,M,A,T,u,g,t,m,rfl,r,j,I⟩:=F.ex;have S:G.length=4:=by simpa using E
 clear E;obtain⟨a,G,rfl,U⟩:=V0 S;obtain⟨b,G,rfl,C⟩:=V0 U;obtain⟨c,G,rfl,P⟩:=V0 C;obtain⟨d,G,rfl,Q⟩:=V0 P;obtain rfl:=jf Q;obtain⟨k,z,y⟩:=h a b c d (.ref T) kV Z L N J M;exact BindsTo.of_defaults Y (X _ _ I) Y z y
def S0(F:Str)(ρ:Rho):WSt:=⟨[],[],[],0,0,([],BE F ρ)⟩
def FG(df:Dd):Rho:=Cs (df.1.2.1.map (·.1)) df.1.2.1.length
end L2
namespace K4
open PySem L2
section
variable{C CK CG CO CW CD:Addr}
abbrev wop:pX:=["book","F","worths","most"]
abbrev OO:pX:=["book","F","worths","most","whole"]
def A7(A:WA):(Vv bw A mo bg).lookup ("outcome":Str)=none:=by cases bw <;> rfl
def CF(A:WA):(Vv true A mo bg).lookup ("done":Str)=none:=rfl
structure RgA(H:Hp)(C CK bk gv:Addr)(ks:List (Str×Shp))(d:Str->Nat)(ds:List Dd)(df:Dd)(gs:List Str):Prop where
 bi:BI H C CK bk ks d ds
 hd:df∈ds
 hg:H gv=some (.tup (gs.map V.str))
 ln:gs.length=df.1.2.1.length
 l3:df.1.2.1.length<=3
 nd:(df.1.2.1.map (·.1)).Nodup
 ok:∀(i:Nat)(p:Str×Str)(u:Str),df.1.2.1[i]?=some p->gs[i]?=some u->okW ks (.tag u) p.2
def RgA.oks(r:RgA H C CK bk gv J d M df gs):∀(i:Nat)(p:Str×Str)(u:W),df.1.2.1[i]?=some p->(gs.map W.tag)[i]?=some u->okW J u p.2/\u.dep<3:=λi p u L Z=>by
 rw[ZH]at Z;obtain⟨g,G,rfl⟩:=Zj.mp Z;exact⟨r.ok i p g L G,by simp[W.dep]⟩
def yo:Yh wop wop (Yd MI):=Y2
def Ir:Yh ["book","F","worths","most","whole","walk","outcome"] OO (Yd Bn):=Y2
inductive yO(P:Program)(w:World)(C CK CG CO CW:Addr)(H:Hp)(Q:VK):List V->Prop
 |mk (bk gv:Addr) (ks:List (Str×Shp)) (d:Str->Nat) (ds:List Dd) (df:Dd) (gs:List Str) (mo:Nat) (ra:RgA H C CK bk gv ks d ds df gs) (m1:1<=mo) (m2:mo<=500)
  (q:∀(A:GA)(B:WA) Hm H',Same H Hm->A.gs=gs->WK true P w Hm H' C CK CG CO CW A ks d ds B mo (S0 df.1.1 (FG df)) []->Q (.ref B.t) H'):yO P w C CK CG CO CW H Q [.ref bk,.str df.1.1,.ref gv,.int (mo:Nat)]
def IS(P:Program)(w:World)(C CK CG CO CW:Addr):Sp:=λZ H Q _=>yO P w C CK CG CO CW H Q Z
def AG(F:Fun K "walk_of" "walk_of" MI f fd)(DA:Df P w K R base (n+1) "check_asking" bfw (E7 C CK .non))(DM:Df P w K R base (n+1) "check_most" ["most","highest"] Sf)(hC:R "MOST_CELLS"=some u1)(rC:RelV (.int 500) u1)(mW:R "Walk"=some (.ref CW))(MW:Mk K CW c)(GW:Ye P w K R base CX0 n c d1 ["self","ground","most"] (SV CW))(bW:Binds K d1 ["self","ground","most"] [])(mG:R "Ground"=some (.ref CG))(MG:Mk K CG g2)(GG:Ye P w K R base CX0 n g2 d2 ["self","book","F","worths"] (IZ P w C CK CG))(bG:Binds K d2 ["self","book","F","worths"] []):Ye P w K R base CX0 (n+2) f fd wop (IS P w C CK CG CO CW):=by
 refine F.oi yo λG3 A m s H vs Q E X h=>?_;obtain⟨bk,gv,ks,d,ds,df,gs,mo,Z,m1,m2,q⟩:=h;refine⟨_,YY (VR<|Vh DA X<|pa3 (pv 0) (pv 1)<|pv 2)
  (YY (VR<|Vh DM X<|pa2 (pv 3)<|Ji rfl hC rC)
  (YZ<|Yj<|X1 MW GW X rfl mW bW .nil Y3 (pa2 (X1 MG GG X rfl mG bG .nil Y3 (pa3 (pv 0) (pv 1)<|pv 2))<|pv 3))),?_⟩
 show let T0:=_;let T1:=Yn _ T0;Yn _ T1 _ _ _
 intros
 refine⟨bk,gv,_,ks,d,ds,df,gs.map W.tag,Z.bi,Z.hd,Z.hg,WQ _,by rw[ZA];exact Z.ln,Z.l3,Z.oks,λT t=>?_⟩;refine⟨mo,500,by omega,by omega,?_⟩;intro x N U k G2;have r:Same T (upd (upd T N<|.own x) x<|.ins CG N []):=λb o e=>by rw[Yg (Yb e U),Yg (Yb e k)];exact e
 have u:upd (upd T N<|.own x) x (.ins CG N []) x=some (.ins CG N []):=Yf;generalize upd (upd T N<|.own x) x (.ins CG N [])=H2 at u r |-;refine⟨T,x,N,bk,gv,ks,d,ds,df,gs,U,r,u,Z.bi.mono t,Z.hd,t _ _ Z.hg,Z.ln,Z.l3,Z.nd,λG I e1 e2 e3 L=>⟨Y,?_⟩⟩;rw[Z.ln]at L;intro y M S g J2;have v:Same I (upd (upd I M<|.own y) y<|.ins CW M []):=λb o e=>by rw[Yg (Yb e S),Yg (Yb e g)];exact e
 have ty:upd (upd I M<|.own y) y (.ins CW M []) y=some (.ins CW M []):=Yf;generalize upd (upd I M<|.own y) y (.ins CW M [])=H4 at ty v |-;refine⟨I,y,M,x,mo,S,v,ty,λB H5 f1 f2 J l ws=>⟨Y,?_⟩⟩;rw[<-f1];have D:=L.sm;have j:WF true T B:=⟨D.free J.t,D.free J.uw,λz=>D.free<|J.wr z,λz=>D.free<|J.wn z,λz=>D.free<|J.hs z,J.d1,J.d2,J.d3⟩
 have na:∀a,avW true B a->I a=none:=λa z=>by
  rcases z.2 with rfl|rfl|rfl
  .exact J.wr rfl
  .exact J.wn rfl
  .exact J.hs rfl
 obtain⟨xs,c,_⟩:=L.gg.bs;obtain⟨G1,g3,_⟩:=L.gg.st;refine q G B T H5 t e3 ⟨⟨D.trans l,L.bi,L.f1,L.f2,L.f3,L.gg.avoids na l⟩,by rw[f2,e1],j,λz=>?_,Yb c J.uw,by rw[e3,Z.ln];exact Z.l3,⟨[],[],ws,⟨Y,Z6⟩,Y,λp h=>(by cases h)⟩,Y,λi O e h=>(by simp at h),qw,λO h=>(by cases h)⟩;have:=na _ z;rw[g3]at this;cases this
inductive OZ(P:Program)(w:World)(C CK:Addr)(n:Nat)(H:Hp)(Q:VK):List V->Prop
 |mk (bk gv:Addr) (ks:List (Str×Shp)) (d:Str->Nat) (ds:List Dd) (df:Dd) (gv':List Str) (mo:Nat) (full:Bool) (j:Nat) (R:J7) (SR:WSt) (ra:RgA H C CK bk gv ks d ds df gv') (m1:1<=mo) (m2:mo<=500) (gs:Wlk true ds gv' mo n j (.st (.want 0)) (S0 df.1.1 (FG df)) R SR) (dn:Oa SR)
  (q:∀t r l us Hm H',Same H Hm->Same H H'->H' t=some (.tup [r,.ref l])->R.out Hm H' r->H l=none->H' l=some (.lst us)->HasL H' us (dnL SR)->Q (.ref t) H'):OZ P w C CK n H Q [.ref bk,.str df.1.1,.ref gv,.int (mo:Nat),.bl full]
def BN(P:Program)(w:World)(C CK:Addr)(n:Nat):Sp:=λZ H Q _=>OZ P w C CK n H Q Z
def J7.out_tl{R:J7}(h:R.out G H v)(t:TL H L):R.out G L v:=by
 cases R with
 |hd Z=>exact Has.tl t _ h
 |dry=>obtain⟨Z,e,J⟩:=h;exact⟨Z,e,t.1 _ _ J⟩
 |st x=>obtain⟨Z,e,J⟩:=h;exact⟨Z,e,t.1 _ _ J⟩
 |taken x=>obtain⟨Z,e,J⟩:=h;exact⟨Z,e,t.1 _ _ J⟩
def Ps(k:WCl K CW)(F:N0 K "asked" "asked" Bn f fd)(DW:Df P w K O base L "walk_of" wop (IS P w C CK CG CO CW))(i:VM K CW "outcome" g1)(G1:Ye P w K O base CX0 L g1 d1 ["self","whole"] (BG true P w C CK CG CO CW n))(b1:Binds K d1 ["self","whole"] [])(o:VM K CW "done" g2)(G2:Ye P w K O base CX0 L g2 d2 ["self"] (R9 P w C CK CG CO CW))(b2:Binds K d2 ["self"] []):Ye P w K O base CX0 (L+1) f fd OO (BN P w C CK n):=by
 refine F.oi Ir λJ2 A M s H vs Q E U h=>?_;obtain⟨bk,gv,I,d,y,df,X,N,full,j,R,p,e,D,T,gs,dn,q⟩:=h;refine⟨_,YY (Y0 5 Ir.nd<|Vh DW U<|pa4 (pv 0) (pv 1) (pv 2)<|pv 3)
  (YY (Y0 6 Ir.nd<|Y5 (pv 5) k.cl i G1 U b1 .nil Y3<|pa1<|pv 4)
  (YZ<|Yj<|Yi<|pa2 (pv 6)<|Vg (pv 5) k.cl o G2 U b2 .nil Y3)),?_⟩
 show let T0:=_;let T1:=Yn _ T0;Yn _ T1 _ _ _
 intros
 refine⟨bk,gv,I,d,y,df,X,N,e,D,T,λc B m H1 G eg g=>?_⟩;refine⟨_,_,g.insB,A7 _,m,c,I,d,y,B,N,_,[],j,R,p,_,g,by rw[eg];exact gs,λv z H2 Z a=>?_⟩;refine⟨_,_,Z.insB,CF _,m,c,I,d,y,B,N,p,z,Z,dn,λl u H3 b r fl hl S=>⟨sl 2,λt x=>?_⟩⟩;refine up_in x _ λH4 J g4=>?_;exact q t v l u m H4 G ((G.trans b).trans J) g4 (J7.out_tl a<|r.trans J.tl) (G.free fl) (J _ _ hl)<|S.mono J
end
section
variable{f g C CK N fI:Addr}
structure DRt(ks:List (Str×Shp))(ds:List Dd)(x:Dd):Prop where
 ok:vv x
 kd:kdn ks (Vq (ds.map (·.1))) 13 (kvP x.1.2.1) x.2=some x.1.2.2
inductive SBK(C CK:Addr)(H:Hp)(Q:VK):List V->Prop
 |mk (A:BA) (kv:List (Key×V)) (ks:List (Str×Shp)) (c d:Str->Nat) (ds:List Dd) (bd:BD H C CK A kv ks d ds) (kg:KG ks) (kk:KK 30 c d ks) (k6:ks.length<=6) (ho:∀x∈ds,QS (ks.map (·.1)) c 50 x.1) (dok:∀x∈ds,DRt ks ds x) (q:∀H',Same H H'->Q .non H'):SBK C CK H Q [.ref A.t]
def Sh(C CK:Addr):Sp:=λZ H Q _=>SBK C CK H Q Z
def AW(B:Blt j)(me:j "enumerate"=none)(TB:BCl K C)(F:Fun K "check_bodies" "Book.check_bodies" MR f fd)(mH:VM K C "names" g)(GH:Ye P w K j base CX0 n g gd ["self"] (U5 C CK))(bH:Binds K gd ["self"] [])(DK:Df P w K j base n "kind_or_place" ["book","around","body"] (RC C CK 13)):Ye P w K j base CX0 (n+1) f fd ["self"] (Sh C CK):=by
 refine F.oi Jz λR6 A o s H vs Q E hr h=>?_;obtain⟨S,kv,ks,c,d,t,bd,kg,kk,k6,ho,O1,q⟩:=h;have hu:=JI hr;refine⟨_,YZ (JC Zv Y (Xz Y me (pa1<|Vg (pv 0) TB.cl mH GH hr bH .nil Y3)) (VU (n:=2) rfl (Yk (Yl 1 Jz.nd)<|Yk (Yl 2 Jz.nd) VJ))
   (YY (Jh (JN hu (Yt (pv 0) rfl) (pv 2) λ_ _=>rfl)<|VU (n:=3) rfl (Yk (Yl 3 Jz.nd)<|Yk (Yl 4 Jz.nd)<|Yk (Yl 5 Jz.nd) VJ))
   (YY (Jh (Vh DK hr<|pa3 (pv 0) (VW (Wy rfl) rfl B.dict UL (pa1<|pv 3))<|pv 5)<|VU (n:=2) rfl (Yk (Yl 6 Jz.nd)<|Yk (Yl 7 Jz.nd) VJ))
   (YY (Y4 (Ys Wj (pv 6) Vo<|Yz _) (YZ JU) Yo)
   (YZ<|Y4 (Ys UJ (pv 6) (pv 4)<|Yz _) (YZ JU) Yo))))),?_⟩
 dsimp only[Vb,Cx.nox,Cx.wish];show let T0:=_;let T1:=VH _ T0 _;let T2:=_;let T3:=Yn (VH _ T2 _) T1;let T4:=Yn _ T3;let T5:=Yn _ T4;U1 _ _ T5 _ _ _
 intros
 show let a:=_;let b:=VH _ a _;let c:=_;let d:=Yn (VH _ c _) b;let e:=Yn _ d;let f:=Yn _ e;U1 _ _ f _ _ _
 intros
 refine⟨_,_,bd.ins,zt _,S.t,ks,d,t,Y,⟨S,kv,Y,bd⟩,λnl H1 s1 R3 T=>?_⟩;exists nl,false,_,Y,Z3 T
 let I:xi:=λi U D=>Same H1 D/\∃(z1 z2 z3 z4 z5 z6 z7:xm),U=[some (.ref S.t),z1,z2,z3,z4,z5,z6,z7]
 refine Mq (tp:=false) (xs:=t.map λx=>V.str x.1.1) I ⟨Z8 _,_,_,_,_,_,_,_,Y⟩ (λi U D _ z=>Z3<|z.1 _ _ T) ?_ ?_
 .rintro BB' RR i x U D r hx ⟨si,z1,z2,z3,z4,z5,z6,z7,rfl⟩ hr'
  rw[ZH]at hx
  cases hc:t[i]? with
  |none=>rw[hc]at hx;cases hx
  |some Z=>
   rw[hc]at hx;cases hx;have hm:=ZJ hc;have o1:=ho Z hm;have X:=O1 Z hm;refine up_in hr' _ λHR sR gR=>?_;have M:=bd.mono<|(s1.trans si).trans sR;obtain⟨v,e1,e2⟩:=M.at hm;obtain⟨ta,u,wv,rfl,G2,R,G1⟩:=X8 e2;exists _,Z2 gR,Y;exists C,_,_,_,M.ins,TB.cl,TB.td,FZ _,_,e1;exists _,Z2 G2,Y;unfold psD at R;obtain⟨l,xp,rfl,hl,O⟩:=Yr R;obtain⟨tp,rfl,G⟩:=KM (K:=K) O;replace G:Rc K HR tp (kvP Z.1.2.1):=G;have R1:(kvP Z.1.2.1).length=Z.1.2.1.length:=ZA _;have J:=o1.nd
   have J2:((kvP Z.1.2.1).map (·.1)).Nodup:=by
    unfold kvP;rw[jk];unfold List.Nodup at J |-;rw[qX]at J |-;exact J.imp λG3 q=>G3<|Sum.inr.inj q
   refine⟨l,tp,_,Y,hl,G,J2,λaA M2=>?_⟩;refine up_in M2 _ λH3 p g3=>?_;have l3:=o1.len;have R5:=X.ok.dep;have R4:=X.ok.size;refine⟨S.t,aA,wv,ks,c,d,t,kvP Z.1.2.1,Z.2,Y,⟨S,kv,Y,M.mono p⟩,kk,λf ps k e=>?_,λq' hq=>?_,λm L=>(ho m L).len,.inl g3,by omega,G1.mono p,X.ok.ok,by omega,by omega,λr4 p4 H4 s4 y _=>?_⟩
   .obtain ⟨m,L,e'⟩:=ZW.mp<|Ee e
    have:=(ho m L).own;rw[e']at this;exact this
   .obtain ⟨pr,hpr,rfl⟩:=ZW.mp hq
    exact⟨pr.1,pr.2,Y,o1.kin pr hpr⟩
   rw[X.kd]at y;replace y:H4 r4=some (.tup [.str Z.1.2.2,p4]):=y;exists _,Z2 y,Y;refine⟨Y,_,Y,Y1 (by simp) ?_⟩;refine⟨Y,_,Y,Y1 (by simp) ?_⟩;exact⟨((si.trans sR).trans p).trans s4,_,_,_,_,_,_,_,Y⟩
 .rintro U D ⟨si,_⟩
  exact q D<|s1.trans si
inductive SBN(C CK:Addr)(H:Hp)(Q:VK):List V->Prop
 |mk (x dx kl dl:Addr) (xs zs:List V) (ks:List (Str×Shp)) (c d:Str->Nat) (ds:List Dd) (hx:H x=some (.ins C dx [])) (hkl:H kl=some (.lst xs)) (hxs:HasL H xs (ks.map NY)) (kk:KK 30 c d ks) (nd:(ks.map (·.1)).Nodup) (kg:KG ks) (tg:∀k∈ks,∃ts,k.2=.tags ts) (k0:0<ks.length) (k6:ks.length<=6) (hdl:H dl=some (.lst zs)) (hzs:HasL H zs (ds.map WH)) (d0:0<ds.length) (d8:ds.length<=8) (wd:Wds 97 (ds.map λx=>x.1.1)) (ho:∀x∈ds,QS (ks.map (·.1)) c 50 x.1) (dok:∀x∈ds,DRt ks ds x)
  (q:∀H',(∀b o,b≠x->H b=some o->H' b=some o)->BI H' C CK x ks d ds->Q .non H'):SBN C CK H Q [.ref x,.ref kl,.ref dl]
def Sg(C CK:Addr):Sp:=λZ H Q _=>SBN C CK H Q Z
def AV(hm:m+1<=n)(L:BCl K C)(F:Fun K "__init__" "Book.__init__" Bk f fd)(T7:Mk K CK gi)(mC:mg "Kinds"=some (.ref CK))(GI:Ye P w K mg base CX0 m gi M2 ["self","told"] (BH CK))(bI:Binds K M2 ["self","told"] [])(m1:VM K C "take_heads" g1)(G1:Ye P w K mg base CX0 n g1 d1 ["self","definitions"] (Id C CK))(b1:Binds K d1 ["self","definitions"] [])(m2:VM K C "check_bodies" g2)(G2:Ye P w K mg base CX0 n g2 d2 ["self"] (Sh C CK))(b2:Binds K d2 ["self"] []):
  Ye P w K mg base CX0 (n+1) f fd ["self","kinds","definitions"] (Sg C CK):=by
 refine F.oi O8 λD0 A J2 s H vs Q E hr h=>?_;obtain⟨x,J,kl,dl,xs,zs,U,c,d,ds,hx,R4,R1,kk,nd,kg,tg,k0,k6,R6,O1,d0,d8,wd,ho,R7,q⟩:=h;have R3:Vn (m+1) _:=hr.mono hm;refine⟨_,YY (VX (pv 0) (X1 T7 GI R3 Y mC bI .nil Y3 (pa1<|pv 1)) rfl)
  (YY (VX (pv 0) Vz rfl) (YY (VX (pv 0) Vz rfl) (YY (VX (pv 0) Vz rfl)
  (YY (VR<|Y5 (pv 0) L.cl m1 G1 hr b1 .nil Y3<|pa1<|pv 2)
  (YZ<|VR<|Vg (pv 0) L.cl m2 G2 hr b2 .nil Y3))))),?_⟩
 dsimp only[Vb,Cx.nox,Cx.wish];show let T0:=_;let T1:=Yn _ T0;let T2:=Yn _ T1;let T3:=Yn _ T2;let T4:=Yn _ T3;Yn _ T4 _ _ _
 intros
 refine λt R ht R5 T9=>?_;have tx:upd (upd H R<|.own t) t (.ins CK R []) t=some (.ins CK R []):=Yf;have l:Same H (upd (upd H R<|.own t) t<|.ins CK R []):=λb o e=>by rw[Yg (Yb e ht),Yg (Yb e R5)];exact e
 generalize upd (upd H R<|.own t) t (.ins CK R [])=H7 at tx l |-;have T8:x≠t:=Yb hx ht;refine⟨t,R,kl,xs,U,c,d,Y,tx,l _ _ R4,R1.mono l,kk,nd,kg,tg,k0,k6,λZ f8 G3=>⟨Y,?_⟩⟩;have s8:Same H Z:=λb o e=>f8 b o (Yb e ht)<|l b o e;have x8:=s8 _ _ hx;refine⟨x,C,J,_,Y,x8,L.cl,L.so,by decide,?_⟩;have u:upd Z x (.ins C J<|VT "sorts" (.ref t) []) x=some (.ins C J<|VT "sorts" (.ref t) []):=Yf;have i:∀b o,b≠x->Z b=some o->upd Z x (.ins C J<|VT "sorts" (.ref t) []) b=some o:=λb o n e=>by rw[Yg n];exact e
 generalize upd Z x (.ins C J<|VT "sorts" (.ref t) [])=H9 at u i |-;intro S B;refine⟨x,C,J,_,Y,by rw[Yg (Yb u B)];exact u,L.cl,L.td,(by show 1<1000;decide),?_⟩;obtain⟨r,a1,n1,r1⟩:=Jp (f:="told") (o:=.dK []) u B;generalize upd (upd H9 S<|.dK []) x (.ins C J<|VT "told" (.ref S)<|VT "sorts" (.ref t) [])=H1 at r a1 r1 |-;intro X O;refine⟨x,C,J,_,Y,by rw[Yg (Yb r O)];exact r,L.cl,L.rd,(by show 2<1000;decide),?_⟩;obtain⟨v,a2,n2,r2⟩:=Jp (f:="rows") (o:=.dK []) r O;generalize upd (upd H1 X<|.dK []) x (.ins C J<|VT "rows" (.ref X)<|VT "told" (.ref S)<|VT "sorts" (.ref t) [])=H2 at v a2 r2 |-;intro p3 j;refine⟨x,C,J,_,Y,by rw[Yg (Yb v j)];exact v,L.cl,L.tn,(by show 3<1000;decide),?_⟩;obtain⟨x3,a3,n3,a⟩:=Jp (f:="turns") (o:=.dK []) v j;generalize upd (upd H2 p3<|.dK []) x (.ins C J<|VT "turns" (.ref p3)<|VT "rows" (.ref X)<|VT "told" (.ref S)<|VT "sorts" (.ref t) [])=H3 at x3 a3 a |-
 let T:BA:=⟨x,J,t,S,X,p3⟩
 have M:∀{b:Addr}{o:HO},X2 Z x b=some o->b≠x/\Z b=some o:=λ{b o} h=>by
  unfold X2 at h
  by_cases e:b=x
  .rw [Zp e]at h;cases h
  .rw [Zq e]at h;exact⟨e,h⟩
 have fr:∀b o,b≠x->Z b=some o->H3 b=some o:=λb o n e=>a b o n<|r2 b o n<|r1 b o n<|i b o n e;have sm:Same (X2 Z x) H3:=λb o h=>fr b o (M h).1 (M h).2
 have free:∀p:Addr,(∀o,p≠x->Z p=some o->False)->X2 Z x p=none:=λp h=>by
  cases e:X2 Z x p with
  |none=>rfl
  |some o=>exact(h o (M e).1 (M e).2).elim
 have T6:=r2 _ _ n1 a1;have T5:=a _ _ n1 T6;have R8:=a _ _ n2 a2;have bb:BB (X2 Z x) H3 C CK T U d:=⟨x3,sm,G3.out x8,free S λo n e=>(by have:=i _ _ n e;rw[B]at this;cases this),free X λo n e=>(by have:=r1 _ _ n<|i _ _ n e;rw[O]at this;cases this),Yb a1 O,Zs n1,Zs n2⟩;have bt:BT H3 T [] [] U []:=⟨T5,R8,rfl,Z6,(λy hy=>nomatch hy),ZG _⟩;have D:∀{b:Addr}{o:HO},H b=some o->o≠.ins C J []->X2 Z x b=some o:=λ{b o} h n=>By (Jl h hx n)<|s8 _ _ h;have tl:TL H (X2 Z x):=⟨λb xs h=>D h (by intro z;cases z),λb xs h=>D h (by intro z;cases z)⟩;refine⟨_,_,x3,vV T,X2 Z x,T,dl,zs,U,c,d,ds,Y,bb,bt,kk,k6,D R6 (by intro z;cases z),HasL.tl tl _ O1,d0,d8,wd,ho,λH4 kv rv G I=>?_⟩;have k:BD H4 C CK T kv U d ds:=⟨G.ins,G.so.mono G.sm,I.td,I.ke,I.va,wd.nd⟩;refine⟨_,_,G.ins,vZ T,T,kv,U,c,d,ds,k,kg,kk,k6,ho,R7,λH5 s5=>?_⟩;exact q H5 (λb o n e=>s5 _ _<|G.sm _ _<|By n<|s8 _ _ e) ⟨T,kv,rfl,k.mono s5⟩
end
end K4
namespace L2
open PySem
def C0(R:(M.map λx:Dd=>x.1.1).Nodup)(h:x∈M):Ke M x.1.1 N->N=x.1.2.1.map (·.1):=by
 rintro⟨y,O,e,rfl⟩;obtain⟨i,J⟩:=jn.mp h;obtain⟨j,Z⟩:=jn.mp O;have L:=(ZF.mp J).1;have G:=(ZF.mp Z).1;have n:=jD.mp R
 have:i=j:=by
  rcases qY i j with q|q|q
  .exact Zr (by rw[qb,qb,(ZF.mp J).2,(ZF.mp Z).2];exact e.symm) (n i j (by rw[ZA];exact L) (by rw[ZA];exact G) q)
  .exact q
  .exact Zr (by rw[qb,qb,(ZF.mp J).2,(ZF.mp Z).2];exact e) (n j i (by rw[ZA];exact G) (by rw[ZA];exact L) q)
 subst this;rw[J]at Z;cases Z
 rfl
def RF(f:c∉cs)(h:Xc cs c n cs'):n=cs.length+1/\cs'=cs++[c]:=by
 rcases h with⟨k,G,_⟩|⟨_,J,Z⟩
 .exact Zr (ZJ G) f
 .exact ⟨J,Z⟩
def Du(b:Bd):b.at []=some b:=by unfold Bd.at;rfl
def WOk(bw:Bool)(S:WSt):Prop:=(bw=true->(∀e∈S.u,e.k∈S.r.map (·.1))/\S.r.length<=900/\S.wc<=9000)/\S.u.length<=9000
theorem Qp{β:Type}{x:Nat}:∀{r:List (Nat×β)},x∉r.map (·.1)->r.lookup x=none
 |[],_=>rfl
 |p::r,h=>by
  rw[jq,beq_eq_false_iff_ne.mpr λz=>h (by rw[z];exact Za)];exact Qp λz=>h<|ZM _ z
def Y8(l:pX)(j:Nat):Str:=(l[j]?).getD<|Str.ofString ""
def Vr{l:pX}(h:j<l.length):l[j]?=some (Y8 l j):=by unfold Y8;rw[ZD h];rfl
def Cg(bw:Bool)(ds:List Dd)(gs:pX)(mo:Nat)(x:J7)(S:WSt)(Po:J7->WSt->Prop):Prop:=∃j J Z,Wlk bw ds gs mo 8 j x S J Z/\Po J Z
def Cg.go(G:WOk bw S)(m:bw=true->k∉S.h.map (·.1)/\k∉S.r.map (·.1))(R:S.s.2 k=some sta)(hd:df∈J)(B:df.1.1=sta.f)(L:df.2.ok)(T:k<=S.s.1.length)(M:S.bg<mo)(g:Gos J gs sta.f df.2 k 8 j (.body sta.pl sta.ρ) [] S.s r l' Z)(N:S.s.1.length<=Z.1.length)(q:Cg bw J gs mo (.st r) {upW bw k S with u:=S.u++[⟨k,sta.f,df.2,l'⟩],bg:=S.bg+1,s:=Z} Po):Cg bw J gs mo (.st<|.want k) S Po:=by
 obtain⟨O,E,D,h,p⟩:=q;refine⟨O+1,E,D,?_,p⟩;unfold Wlk;exact⟨G.1,G.2,.new m<|.go sta df j r l' Z R hd B L T M g N h⟩
def Cg.tkn(Z:WOk true S)(h:S.h.lookup k=some t)(q:Cg true G gs mo (.taken t) {S with wc:=S.wc+1} Po):Cg true G gs mo (.st<|.want k) S Po:=by
 obtain⟨J,M,L,g,p⟩:=q;refine⟨J+1,M,L,?_,p⟩;unfold Wlk;exact⟨Z.1,Z.2,.tkn Y t h g⟩
def Cg.head(J:S.u=u++[e])(n:bw=true->e.k∉S.h.map (·.1)/\S.h.length<=900)(q:Cg bw G gs mo (.taken t) (K4.upH bw e.k t {S with u:=u}) Po):Cg bw G gs mo (.st<|.head t) S Po:=by
 obtain⟨Z,M,L,g,p⟩:=q;refine⟨Z+1,M,L,?_,p⟩;unfold Wlk;exact⟨u,e,J,n,g⟩
def Cg.taken(M:S.u=u++[e])(g:Gos J gs e.F e.b e.k 8 m (.head t) e.l S.s r l' Z)(G:S.s.1.length<=Z.1.length)(q:Cg bw J gs mo (.st r) {S with u:=u++[{e with l:=l'}],s:=Z} Po):Cg bw J gs mo (.taken t) S Po:=by
 obtain⟨L,O,N,h,p⟩:=q;refine⟨L+1,O,N,?_,p⟩;unfold Wlk;exact .inr ⟨u,e,m,r,l',Z,M,g,G,h⟩
def Cg.fin(Z:S.u=[])(q:Po (.hd t) S):Cg bw J gs mo (.taken t) S Po:=by
 refine⟨1,.hd t,S,?_,q⟩;unfold Wlk;exact .inl ⟨Z,Y,Y⟩
theorem EA:∀l:pX,Bd.oks (l.map Bd.tag)/\Bd.deps (l.map Bd.tag)<=1
 |[]=>by simp[Bd.oks,Bd.deps]
 |a::l=>by
  obtain⟨Z,J⟩:=EA l;rw[ZV];unfold Bd.oks Bd.deps;exact⟨⟨by simp[Bd.ok],Z⟩,by simp only[Bd.dep];omega⟩
theorem Wlk.cut:∀(j:Nat)(x:J7)(S:WSt),Wlk true Q gs mo n j x S (.hd t) SR->S.bg<=mo'->mo'<SR.bg->∃J Z,Wlk true Q gs mo' n J x S .dry Z/\Z.bg=mo'
 |0,x,S,h,_,_=>by unfold Wlk at h;exact h.elim
 |j+1,x,S,h,lb,lt=>by
  unfold Wlk at h
  cases x with
  |dry=>exact Zr h.1 (by intro z;cases z)
  |hd N=>exact h.elim
  |taken N=>
   rcases h with⟨_,_,e⟩|⟨u,e,m,r,D,R,E,g,B,h⟩
   .subst e
    exact Zr (qi lb lt)<|jt _
   .obtain ⟨J,Z,L,G⟩:=Wlk.cut j _ _ h lb lt
    refine⟨J+1,Z,?_,G⟩;unfold Wlk;exact .inr ⟨u,e,m,r,D,R,E,g,B,L⟩
  |st y=>
   cases y with
   |body _ _=>exact h.elim
   |thing _=>exact h.elim
   |head N=>
    obtain⟨u,e,E,M,h⟩:=h;obtain⟨J,Z,L,G⟩:=Wlk.cut j _ _ h lb lt;refine⟨J+1,Z,?_,G⟩;unfold Wlk;exact⟨u,e,E,M,L⟩
   |want k=>
    obtain⟨M,T,c⟩:=h
    cases c with
    |tkn X N e h=>
     obtain⟨J,Z,L,G⟩:=Wlk.cut j _ _ h lb lt;refine⟨J+1,Z,?_,G⟩;unfold Wlk;exact⟨M,T,.tkn X N e L⟩
    |new m d=>
     cases d with
     |dry e h=>
      cases j with
      |zero=>unfold Wlk at h;exact h.elim
      |succ j=>unfold Wlk at h;exact Zr h.1 (by intro z;cases z)
     |go O q I r D R U hd P F C A g B h=>
      by_cases z:S.bg=mo'
      .refine ⟨2,upW true k S,?_,z⟩
       unfold Wlk;exact⟨M,T,.new m<|.dry z ⟨rfl,rfl⟩⟩
      .have l3:S.bg<mo':=Nat.lt_of_le_of_ne lb z
       obtain⟨J,Z,L,G⟩:=Wlk.cut j _ _ h l3 lt;refine⟨J+1,Z,?_,G⟩;unfold Wlk;exact⟨M,T,.new m<|.go O q I r D R U hd P F C l3 g B L⟩
def RI{u:List UE}{j:Nat}(h:JH u=some j):∃e∈u,e.k=j:=by
 unfold JH at h;obtain⟨e,J,Z⟩:=Zj.mp h;exact⟨e,List.mem_of_getLast? J,Z⟩
structure IV(S:WSt):Prop where
 hr:∀x∈S.h.map (·.1),x∈S.r.map (·.1)
 hk:∀x∈S.h.map (·.1),x<=S.s.1.length
 ur:∀e∈S.u,e.k∈S.r.map (·.1)
 uk:∀e∈S.u,e.k<=S.s.1.length
 rw:∀p∈S.r,∀j,p.2=some j->j<=S.s.1.length
 lu:S.h.length+S.u.length=S.bg
 nd:(S.h.map (·.1)).Nodup
def IV.up(i:IV S):IV (upW true k S):=by
 have Z:(upW true k S).r.map (·.1)=S.r.map (·.1)++[k]:=by
  show(S.r++[(k,JH S.u)]).map (·.1)=_;rw[ZK]
  rfl
 refine⟨λx h=>by rw[Z];exact jh _<|i.hr x h,i.hk,λe h=>by rw[Z];exact jh _<|i.ur e h,i.uk,λp h j e=>?_,i.lu,i.nd⟩;rcases ZX.mp (show p∈S.r++[(k,JH S.u)]from h)with z|z
 .exact i.rw p z j e
 .rw [ZQ]at z
  subst z;obtain⟨G,J,rfl⟩:=RI e;exact i.uk G J
theorem Wlk.iv:∀(j:Nat)(x:J7)(S:WSt),Wlk true ds gs mo n j x S R SR->IV S->IV SR/\∀t,R=.hd t->SR.u=[]
 |0,x,S,h,_=>by unfold Wlk at h;exact h.elim
 |j+1,x,S,h,i=>by
  unfold Wlk at h
  cases x with
  |dry=>
   rw[h.1,h.2];exact⟨i,λt e=>by cases e⟩
  |hd L=>exact h.elim
  |taken L=>
   rcases h with⟨I,_,T⟩|⟨u,Z,m,r,E,C,G,g,J,h⟩
   .rw [T]
    exact⟨i,λ_ _=>I⟩
   .refine Wlk.iv j _ _ h ?_
    have M:∀x∈u++[{Z with l:=E}],∃y∈S.u,x.k=y.k:=λx h=>by
     rcases ZX.mp h with z|z
     .exact ⟨x,by rw[G];exact jh _ z,Y⟩
     .rw [ZQ]at z
      subst z;exact⟨Z,by rw[G];exact ZU _<|ZQ.mpr rfl,Y⟩
    refine⟨i.hr,λx h=>Zb (i.hk x h) J,λx h=>?_,λx h=>?_,λp h j e=>Zb (i.rw p h j e) J,?_,i.nd⟩
    .obtain ⟨y,hy,q⟩:=M x h
     rw[q];exact i.ur y hy
    .obtain ⟨y,hy,q⟩:=M x h
     rw[q];exact Zb (i.uk y hy) J
    .have lu:=i.lu
     rw[G,ZL]at lu;show S.h.length+(u++[_]).length=S.bg;rw[ZL];exact lu
  |st y=>
   cases y with
   |body _ _=>exact h.elim
   |thing _=>exact h.elim
   |head L=>
    obtain⟨u,Z,G,B,h⟩:=h;have M:Z∈S.u:=by rw[G];exact ZU _<|ZQ.mpr rfl
    have D:∀x∈u,x∈S.u:=λx h=>by rw[G];exact jh _ h
    have F:∀x∈(S.h++[(Z.k,L)]).map (·.1),x∈S.h.map (·.1)\/x=Z.k:=λx h=>by
     rw[ZK]at h;rcases ZX.mp h with z|z
     .exact .inl z
     .exact .inr (ZQ.mp z)
    refine Wlk.iv j _ _ h ⟨λx h=>?_,λx h=>?_,λx h=>i.ur x<|D x h,λx h=>i.uk x<|D x h,i.rw,?_,?_⟩
    .rcases F x h with z|z
     .exact i.hr x z
     .rw [z];exact i.ur Z M
    .rcases F x h with z|z
     .exact i.hk x z
     .rw [z];exact i.uk Z M
    .have lu:=i.lu
     rw[G,ZL,vy]at lu;show(S.h++[_]).length+u.length=S.bg;rw[ZL,vy];omega
    .show ((S.h++[(Z.k,L)]).map (·.1)).Nodup
     rw[ZK];refine ji.mpr ⟨i.nd,by simp,λa Q b A z=>?_⟩;have O:b=Z.k:=ZQ.mp A;subst O;subst z;exact(B rfl).1 Q
   |want k=>
    obtain⟨B,v,c⟩:=h
    cases c with
    |tkn A L T h=>exact Wlk.iv j _ _ h ⟨i.hr,i.hk,i.ur,i.uk,i.rw,i.lu,i.nd⟩
    |new m d=>
     cases d with
     |dry T h=>exact Wlk.iv j _ _ h i.up
     |go U df w r E C o hd s f P X g J h=>
      have N:=i.up (k:=k);refine Wlk.iv j _ _ h ⟨N.hr,λx h=>Zb (i.hk x h) J,λx h=>?_,λx h=>?_,λp h j e=>Zb (N.rw p h j e) J,?_,i.nd⟩
      .rcases ZX.mp (show x∈S.u++[_]from h)with z|z
       .exact N.ur x z
       .rw [ZQ]at z
        subst z;show k∈(S.r++[(k,JH S.u)]).map (·.1);rw[ZK];exact ZU _<|ZQ.mpr rfl
      .rcases ZX.mp (show x∈S.u++[_]from h)with z|z
       .exact Zb (i.uk x z) J
       .rw [ZQ]at z
        subst z;exact Zb P J
      .have lu:=i.lu
       show S.h.length+(S.u++[_]).length=S.bg+1;rw[ZL,vy];omega
def IV.S0:IV (S0 F ρ):=⟨λx h=>(by cases h),λx h=>(by cases h),λx h=>(by cases h),λx h=>(by cases h),λx h=>(by cases h),rfl,qw⟩
structure CP where
 ns:List Str
 tg:List Str
 kd:Str
 own:Str
 oth:Str
 l1:Nat->Bool
 l2:Nat->Bool
abbrev Ux(R:CP)(x:Str):Bd:=.choose (.name x) R.tg (R.tg.map Bd.tag)
def hdB(R:CP)(x:Str)(b:Bool):Bd:=if b=true then Ux R x else .name x
def psB(R:CP)(k:Nat):Bd:=.ask (Y8 R.ns<|k+1) [hdB R R.own (R.l1 k),hdB R R.oth (R.l2 k)]
def loB(R:CP)(k:Nat):Bd:=.ask (Y8 R.ns 0) [.name R.own,.tag (Y8 R.tg<|k+1)]
def upB(R:CP)(k:Nat):Bd:=.ask (Y8 R.ns 0) [.tag (Y8 R.tg<|k+1),.tag (Y8 R.tg 0)]
def upC(R:CP):Bd:=.choose (.name R.own) R.tg<|(List.range R.tg.length).map λk=>if k+1=R.tg.length then .name R.own else upB R k
def laB(R:CP):Bd:=.choose (.name R.oth) R.tg<|(List.range R.tg.length).map λk=>if k+1=R.tg.length then upC R else loB R k
def cpB(R:CP)(k:Nat):Bd:=if k+1=R.ns.length then laB R else psB R k
def cpD(R:CP)(k:Nat):Dd:=((Y8 R.ns k,[(R.own,R.kd),(R.oth,R.kd)],R.kd),cpB R k)
def cps(R:CP):List Dd:=(List.range R.ns.length).map<|cpD R
structure CK1(R:CP)(ds:List Dd):Prop where
 n1:1<=R.ns.length
 n8:R.ns.length<=8
 t2:2<=R.tg.length
 t4:R.tg.length<=4
 tn:R.tg.Nodup
 no:R.own≠R.oth
 fn:(ds.map λx=>x.1.1).Nodup
 mm:∀j,j<R.ns.length->cpD R j∈ds
 ok:∀x∈ds,x.2.ok
abbrev rh2(R:CP)(p q:Tg):Rho:=U6 [R.own,R.oth] [p,q]
def Uj:rh2 R p q R.own=some p:=by simp[rh2,U6]
def GX(n:R.own≠R.oth):rh2 R p q R.oth=some q:=by
 have:(R.oth==R.own)=false:=beq_eq_false_iff_ne.mpr λz=>n z.symm;simp[rh2,U6,this,jq]
def QX(O:b.at pl=some (hdB R x c))(G:ρ x=some th0)(B:((num,pl):Mk1)∉s.1)(h:TAp A F b num ρ (n+1) pl s th N):
  th=(if c=true then .cell (s.1.length+1)else th0)/\N=if c=true then(s.1++[(num,pl)],stP s.2 (s.1.length+1) ⟨F,pl,ρ⟩)else s:=by
 unfold TAp at h;obtain⟨d,Z,M⟩:=h;rw[O]at Z;unfold hdB at Z
 by_cases z:c=true
 .rw [Zp z]at Z
  cases Z;obtain⟨E,D,J,L,T⟩:=M;obtain⟨rfl,rfl⟩:=RF B J;rw[Zp z,Zp z];exact⟨L,T⟩
 .rw [Zq z]at Z
  cases Z;obtain⟨J,L⟩:=M;rw[G]at J;cases J;rw[Zq z,Zq z];exact⟨Y,L⟩
def N8(G:b.at pl=some (.tag t))(h:TAp M F b num ρ (n+1) pl s th J):th=.tag t/\J=s:=by
 unfold TAp at h;obtain⟨d,Z,L⟩:=h;rw[G]at Z;cases Z;exact L
def J4(l:pZ):Prop:=l.length<=2/\∀i∈l,0<=i/\i<=(4:Int)
def J4.nil:J4 []:=⟨Zc _,λi h=>by cases h⟩
def J4.snoc(o:J4 l)(h:l.length<=1)(z:0<=i/\i<=(4:Int)):J4 (l++[i]):=⟨by rw[ZL,vy];omega,λj Z=>by
 rcases ZX.mp Z with q|q
 .exact o.2 j q
 .rw [ZQ]at q
  subst q;exact z⟩
structure XW(cs:List Mk1):Prop where
 nd:cs.Nodup
 le:∀(k:Nat)(c:Mk1),cs[k]?=some c->c.1<=k
 sm:∀c∈cs,J4 c.2
def XW.nil:XW []:=⟨qw,λk c h=>by simp at h,λc h=>by cases h⟩
def XW.snoc(o:XW cs)(h:num<=cs.length)(n:((num,pl):Mk1)∉cs)(J:J4 pl):XW (cs++[(num,pl)]):=by
 refine⟨ji.mpr ⟨o.nd,by simp,λa M b Z z=>?_⟩,λk c e=>?_,λc L=>?_⟩
 .rw [ZQ]at Z
  subst Z;subst z;exact n M
 .rcases jS k cs.length with q|q
  .rw [vz q]at e
   exact o.le k c e
  .rw [vx q]at e
   have G:k-cs.length=0:=by
    have:=(ZF.mp e).1;simp at this;omega
   rw[G]at e;cases e;exact Zb h q
 .rcases ZX.mp L with q|q
  .exact o.sm c q
  .rw [ZQ]at q
   subst q;exact J
structure IB(S:WSt):Prop where
 hr:∀x∈S.h.map (·.1),x∈S.r.map (·.1)
 ur:∀e∈S.u,e.k∈S.r.map (·.1)
 rk:∀p∈S.r.map (·.1),p<=S.s.1.length
 uh:∀e∈S.u,e.k∉S.h.map (·.1)
 un:(S.u.map (·.k)).Nodup
 lr:S.r.length=S.bg
 lw:S.wc=S.bg
 lu:S.h.length+S.u.length=S.bg
 rw:∀p∈S.r,∀j,p.2=some j->j<=S.s.1.length
 cg:XW S.s.1
 ln:S.s.1.length<=3*S.bg
def IB.wok(i:IB S)(h:S.bg<=900):WOk true S:=⟨λ_=>⟨i.ur,by have:=i.lr;omega,by have:=i.lw;omega⟩,by have:=i.lu;omega⟩
abbrev goS(k:Nat)(F:Str)(b:Bd)(l':List WEn)(s':Ss)(S:WSt):WSt:={upW true k S with u:=S.u++[⟨k,F,b,l'⟩],bg:=S.bg+1,s:=s'}
def Nd:(goS k F b l' Z S).r.map (·.1)=S.r.map (·.1)++[k]:=by
 show(S.r++[(k,JH S.u)]).map (·.1)=_;rw[ZK]
 rfl
def IB.go(i:IB S)(n:k∉S.r.map (·.1))(B:k<=S.s.1.length)(G:S.s.1.length<=J.1.length)(E:XW J.1)(T:J.1.length<=3*(S.bg+1)):IB (goS k F b l' J S):=by
 have Z:∀{x:Nat},x∈S.r.map (·.1)->x∈(goS k F b l' J S).r.map (·.1):=λh=>by rw[Nd];exact jh _ h
 have R:=i.lr;have O:=i.lw;have A:=i.lu;refine⟨λx h=>Z<|i.hr x h,λe h=>?_,λp h=>?_,λe h=>?_,?_,?_,?_,?_,λp h j N=>?_,E,T⟩
 .rcases ZX.mp h with z|z
  .exact Z (i.ur e z)
  .rw [ZQ]at z
   subst z;rw[Nd];exact ZU _<|ZQ.mpr rfl
 .rw [Nd]at h
  rcases ZX.mp h with z|z
  .exact Zb (i.rk p z) G
  .rw [ZQ]at z
   subst z;exact Zb B G
 .rcases ZX.mp h with z|z
  .exact i.uh e z
  .rw [ZQ]at z
   subst z;exact λq=>n<|i.hr _ q
 .show ((S.u++[_]).map _).Nodup
  rw[ZK,ji];refine⟨i.un,by simp,λa D b M=>?_⟩;rw[jP,ZQ]at M;subst M;obtain⟨e,L,rfl⟩:=ZW.mp D;exact λz=>n<|z ▸ i.ur e L
 .show (S.r++[_]).length=S.bg+1
  rw[ZL,vy,R]
 .show S.wc+1=S.bg+1
  rw[O]
 .show S.h.length+(S.u++[_]).length=S.bg+1
  rw[ZL,vy];omega
 .have h':p∈S.r++[(k,JH S.u)]:=h
  rcases ZX.mp h' with z|z
  .exact Zb (i.rw p z j N) G
  .rw [ZQ]at z
   subst z;obtain⟨e,L,rfl⟩:=RI N;exact Zb (i.rk _<|i.ur e L) G
def IB.head(i:IB S)(J:S.u=u++[e]):IB (K4.upH true e.k t {S with u:=u}):=by
 have G:=i.un;rw[J,ZK,ji]at G;have M:=i.lu;have N:(S.h++[(e.k,t)]).map (·.1)=S.h.map (·.1)++[e.k]:=by rw[ZK];rfl
 have O:e∈S.u:=by rw[J];exact ZU _<|ZQ.mpr rfl
 have L:∀x∈u,x∈S.u:=λx h=>by rw[J];exact jh _ h
 refine⟨λx h=>?_,λe h=>i.ur e<|L e h,i.rk,λx h=>?_,G.1,i.lr,i.lw,?_,i.rw,i.cg,i.ln⟩
 .have Z:x∈(S.h++[(e.k,t)]).map (·.1):=h
  rw[N]at Z;rcases ZX.mp Z with z|z
  .exact i.hr x z
  .rw [ZQ]at z
   subst z;exact i.ur e O
 .intro q
  have Z:x.k∈(S.h++[(e.k,t)]).map (·.1):=q;rw[N]at Z;rcases ZX.mp Z with z|z
  .exact i.uh x (L x h) z
  .rw [ZQ]at z
   exact G.2.2 _ (jW h) _ (by simp) z
 .show (S.h++[_]).length+u.length=S.bg
  rw[J]at M;simp at M |-;omega
def IB.takn(i:IB S)(G:S.u=u++[e])(L:S.s.1.length<=s'.1.length)(R:XW s'.1)(N:s'.1.length<=3*S.bg):IB {S with u:=u++[{e with l:=l'}],s:=s'}:=by
 have Z:=i.un;have J:=i.lu;rw[G]at Z J
 have M:∀x∈u++[{e with l:=l'}],∃y∈S.u,x.k=y.k:=λx h=>by
  rcases ZX.mp h with z|z
  .exact ⟨x,by rw[G];exact jh _ z,Y⟩
  .rw [ZQ]at z
   subst z;exact⟨e,by rw[G];exact ZU _<|ZQ.mpr rfl,Y⟩
 refine⟨i.hr,λx h=>?_,λp h=>Zb (i.rk p h) L,λx h=>?_,?_,i.lr,i.lw,?_,λp h j O=>Zb (i.rw p h j O) L,R,N⟩
 .obtain ⟨y,hy,q⟩:=M x h
  rw[q];exact i.ur y hy
 .obtain ⟨y,hy,q⟩:=M x h
  rw[q];exact i.uh y hy
 .rw [ZK]at Z |-
  exact Z
 .rw [ZL]at J |-
  exact J
theorem IJ:∀l:pX,Bd.sizes (l.map Bd.tag)=l.length
 |[]=>by simp[Bd.sizes]
 |a::l=>by rw[ZV];unfold Bd.sizes;rw[IJ l];simp[Bd.size];omega
def Ac{b:Bd}{Z:pZ}(N:R.tg.length<=4)(h:b.at Z=some (Ux R x))(O:Z.length<=2)(J:ρ x=some th0)(T:s.1.length<=5000)(g:Gos M gs F b k 8 m (.thing th0) [(Ux R x,Z,ρ)] s r l' G):Gos M gs F b k 8 (m+1+1) (.body Z ρ) [] s r l' G:=by
 have L:b.at (Z++[0])=some (.name x):=Bd.at_snoc Z h (by decide) rfl;refine .push h ?_ (by omega) (by show 0<=400;decide)<|.name L J (by omega) (by rw[ZL,vy];omega) (by show 1<=400;decide) g;unfold Bd.size;rw[IJ];simp only[Bd.size];omega
def Ab{b:Bd}{Z:pZ}{t:Nat}(M:R.tg.length<=4)(G:R.tg.Nodup)(h:b.at Z=some (Ux R x))(N:Z.length<=2)(J:t<R.tg.length)(O:s.1.length<=5000):Gos T gs F b k 8 2 (.head<|Y8 R.tg t) [(Ux R x,Z,ρ)] s (.head<|Y8 R.tg t) [] s:=by
 have L:b.at (Z++[1+(t:Int)])=some (.tag<|Y8 R.tg t):=by
  refine Bd.at_snoc Z h (by omega) ?_;show(_::_)[(1+(t:Int)).toNat]?=_;rw[show(1+(t:Int)).toNat=t+1 by omega];show(R.tg.map Bd.tag)[t]?=_;rw[ZH,Vr J]
  rfl
 exact .cho (l:=[]) G (by omega) (by rw[ZA]) (Vr J) (by omega)<|.tag L (by omega) (by rw[ZL,vy];omega) (by show 0<=400;decide) .stopH
inductive Ch(R:CP)(st:Nat->Option Sta)(m:Nat):Tg->Nat->List Nat->Prop
 |tag {t:Nat}(ht:t<R.tg.length):Ch R st m (.tag (Y8 R.tg t)) t []
 |giv {i:Nat}(hi:i<2):Ch R st m (.giv i) 0 []
 |lnk {j q t:Nat}{x:Str}{pl:List Int}{ρ:Rho}{th:Tg}{ks:List Nat}(hj:j<R.ns.length) (hs:st q=some ⟨Y8 R.ns j,pl,ρ⟩) (hq:q<=m) (p2:pl.length<=2) (hb:(cpB R j).at pl=some (Ux R x)) (hρ:ρ x=some th) (c:Ch R st m th t ks):Ch R st m (.cell q) t (q::ks)
def Ch.lt(Z:1<=R.tg.length)(v:Ch R st m th t J):t<R.tg.length:=by
 induction v with
 |tag h=>exact h
 |giv=>exact Z
 |lnk _ _ _ _ _ _ _ ih=>exact ih
def Ch.mono(v:Ch R st m th t G)(h:∀q x,st q=some x->st' q=some x)(T:m<=m'):Ch R st' m' th t G:=by
 induction v with
 |tag h=>exact .tag h
 |giv h=>exact .giv h
 |lnk M L O J N Z _ ih=>exact .lnk M (h _ _ L) (by omega) J N Z ih
def Ch.le(v:Ch R st m th t Z):∀k∈Z,k<=m:=by
 induction v with
 |tag=>intro k h;cases h
 |giv=>intro k h;cases h
 |lnk _ _ J _ _ _ _ ih=>
  intro k h;rcases Zd.mp h with z|z
  .rw [z];exact J
  .exact ih k z
abbrev g2(R:CP):pX:=[Y8 R.tg 0,Y8 R.tg 0]
def Lu(R:CP)(Z:i<2):(g2 R)[i]?=some (Y8 R.tg 0):=by
 match i,Z with
 |0,_=>rfl
 |1,_=>rfl
structure Af(S S':WSt)(ks:List Nat):Prop where
 i:IB S'
 s:S'.s=S.s
 u:S'.u=S.u
 bg:S'.bg=S.bg+ks.length
 r:S'.r.map (·.1)=S.r.map (·.1)++ ks
def As(K:CK1 R r)(hm:mo<=800)(b:J7->WSt->Prop)(v:Ch R st m o t J):∀(q:Nat)(S:WSt),o=.cell q->IB S->S.s.2=st->m<=S.s.1.length->S.s.1.length<=5000->S.bg+J.length<=mo->J.Nodup->(∀x∈J,x∉S.r.map (·.1))->
  (∀B:WSt,Af S B J->B.h.lookup q=some (Y8 R.tg t)->Cg true r (g2 R) mo (.taken<|Y8 R.tg t) B b)->Cg true r (g2 R) mo (.st<|.want q) S b:=by
 induction v with
 |tag=>intro q S e;cases e
 |giv=>intro q S e;cases e
 | @lnk j Z t x X ρ o J hj d A E I N v ih=>
  intro q S e i P T M c nd s k;cases e;have g:=v.lt (by have:=K.t2;omega);have D:=K.t4;have Q:=i.wok (Zb (Zb (jy _ _) c)<|by omega);have L:Z∉S.r.map (·.1):=s _ Za;have p:Z∉S.h.map (·.1):=λz=>L<|i.hr _ z;have C:=j5.mp nd;rw[Zf]at c;have bl:S.bg+1<=mo:=by omega
  have hl:=i.lu
  have O:∀(m1:Nat)(l:List WEn)(G:WSt),Af (goS Z (Y8 R.ns j) (cpB R j) l S.s S) G J->Cg true r (g2 R) mo (.st<|.head<|Y8 R.tg t) G b:=λm1 l G a=>by
   have U:G.u=S.u++[⟨Z,Y8 R.ns j,cpB R j,l⟩]:=a.u;have f:Z∉G.h.map (·.1):=a.i.uh ⟨Z,Y8 R.ns j,cpB R j,l⟩ (by rw[U];exact ZU _<|ZQ.mpr rfl);have n:=a.i.lu;have h3:G.bg=S.bg+1+J.length:=a.bg;refine Cg.head U (λ_=>⟨f,by omega⟩)<|k _ ⟨a.i.head U,a.s,rfl,?_,?_⟩ ?_
   .show G.bg=_
    rw[a.bg];show S.bg+1+J.length=S.bg+(Z::J).length;rw[Zf];omega
   .show G.r.map (·.1)=_
    rw[a.r,Nd,qx]
    rfl
   .show (G.h++[(Z,Y8 R.tg t)]).lookup Z=_
    rw[List.lookup_append,Qp f];simp
  have F:=K.mm j hj
  cases v with
  |tag=>
   refine Cg.go (sta:=⟨Y8 R.ns j,X,ρ⟩) (df:=cpD R j) Q (λ_=>⟨p,L⟩) (by rw[P];exact d) F Y (K.ok _ F) (Zb A T) bl (Ac D I E N M<|.thT<|Ab D K.tn I E g M) (ZG _) ?_;exact O 0 _ _ ⟨i.go L (Zb A T) (ZG _) i.cg (by have:=i.ln;omega),Y,Y,Y,(jL _).symm⟩
  |giv hi=>
   refine Cg.go (sta:=⟨Y8 R.ns j,X,ρ⟩) (df:=cpD R j) Q (λ_=>⟨p,L⟩) (by rw[P];exact d) F Y (K.ok _ F) (Zb A T) bl (Ac D I E N M<|.thG (Lu R hi)<|Ab D K.tn I E g M) (ZG _) ?_;exact O 0 _ _ ⟨i.go L (Zb A T) (ZG _) i.cg (by have:=i.ln;omega),Y,Y,Y,(jL _).symm⟩
  |lnk=>
   refine Cg.go (sta:=⟨Y8 R.ns j,X,ρ⟩) (df:=cpD R j) Q (λ_=>⟨p,L⟩) (by rw[P];exact d) F Y (K.ok _ F) (Zb A T) bl (Ac D I E N M<|.thC .stopW) (ZG _) ?_;refine ih _ _ Y (i.go L (Zb A T) (ZG _) i.cg (by have:=i.ln;omega)) P T M (by show S.bg+1+_<=mo;rw[Zf]at c |-;omega) C.2 (λy h=>?_) λB a _=>?_
   .rw [Nd]
    intro w;rcases ZX.mp w with w|w
    .exact s y (ZM _ h) w
    .rw [ZQ]at w
     subst w;exact C.1 h
   have U:B.u=S.u++[⟨Z,Y8 R.ns j,cpB R j,[(Ux R x,X,ρ)]⟩]:=a.u;have u:B.s=S.s:=a.s;refine Cg.taken U (by rw[u];exact Ab D K.tn I E g M) (by rw[u];exact ZG _)<|O 0 [] _ ⟨a.i.takn U (by rw[u];exact ZG _) i.cg (by have f:=i.ln;have n:B.bg=S.bg+1+_:=a.bg;rw[n];omega),rfl,rfl,a.bg,a.r⟩
def Ro{O N:Bd}{j:Nat}(K:CK1 R G)(E:j<R.ns.length)(A:b.at pl=some (.ask (Y8 R.ns j) [O,N]))(Q:((num,pl):Mk1)∉s.1)(h:TAp G F b num ρ (n+2) pl s th D):
  ∃o p L J,TAp G F b num ρ (n+1) (pl++[0]) (s.1++[(num,pl)],s.2) o L/\TAp G F b num ρ (n+1) (pl++[1]) L p J/\th=.cell (s.1.length+1)/\D=(J.1,stP J.2 (s.1.length+1) ⟨Y8 R.ns j,[],rh2 R o p⟩):=by
 unfold TAp at h;obtain⟨c,M,X⟩:=h;rw[A]at M;cases M;obtain⟨m,z,C,U,S⟩:=X;obtain⟨rfl,rfl⟩:=RF Q C;obtain⟨Z,B,q,t,p,I⟩:=S;obtain rfl:=C0 K.fn (K.mm _ E) p;have T:Thr _ (0+1+1) _ Z B:=t
 cases T with
 |snoc h e=>
  cases h with
  |snoc P y=>
   cases P;exact⟨_,_,_,_,y,e,U,I⟩
structure Ar(R:CP)(num:Nat)(pl:List Int)(s s':Ss)(th:Tg)(t:Nat)(nw ks:List Nat):Prop where
 ch:Ch R s'.2 s'.1.length th t (nw++ ks)
 le:s'.1.length=s.1.length+nw.length
 gt:∀k∈nw,k=s'.1.length/\s.1.length<k
 old:∀q,q<=s.1.length->s'.2 q=s.2 q
 n1:nw.length<=1
 hn:∀q,s'.1.length<q->s'.2 q=none
 mkd:∀c∈s'.1,c∈s.1\/c=(num,pl)
def arS(c:Bool)(F:Str)(num:Nat)(pl:pZ)(ρ:Rho)(s:Ss):Ss:=if c=true then(s.1++[(num,pl)],stP s.2 (s.1.length+1) ⟨F,pl,ρ⟩)else s
def arT(c:Bool)(th0:Tg)(s:Ss):Tg:=if c=true then .cell (s.1.length+1)else th0
def LY{k:Nat}{x:Str}{c:Bool}(J:k<R.ns.length)(N:∀q,s.1.length<q->s.2 q=none)(T:c=true->(cpB R k).at pl=some (Ux R x))(O:c=true->pl.length<=2)(M:c=true->ρ x=some th0)(v:Ch R s.2 s.1.length th0 t ks):
  Ar R num pl s (arS c (Y8 R.ns k) num pl ρ s) (arT c th0 s) t (if c=true then[s.1.length+1]else[]) ks:=by
 unfold arS arT
 by_cases z:c=true
 .rw [Zp z,Zp z,Zp z]
  have L:∀q,q<=s.1.length->stP s.2 (s.1.length+1) ⟨Y8 R.ns k,pl,ρ⟩ q=s.2 q:=λq h=>by
   unfold stP;rw[Zq (by omega)]
  have G:∀q x,s.2 q=some x->stP s.2 (s.1.length+1) ⟨Y8 R.ns k,pl,ρ⟩ q=some x:=λq x h=>by
   unfold stP;rw[Zq λy=>by rw[N q (by omega)]at h;cases h];exact h
  have Z:(s.1++[(num,pl)]).length=s.1.length+1:=by simp
  exists ?_,Z,?_,L,by simp,?_
  .show Ch R _ (s.1++[(num,pl)]).length _ t (_::ks)
   rw[Z];refine .lnk (x:=x) J ?_ (ZG _) (O z) (T z) (M z) (v.mono G<|by omega);show stP _ _ _ _=_;unfold stP;rw[Zp rfl]
  .intro k J
   rw[ZQ]at J;subst J;exact⟨Z.symm,jj _⟩
  .intro q hq
   show stP _ _ _ q=none;have:s.1.length+1<q:=by rw[<-Z];exact hq
   unfold stP;rw[Zq (by omega)];exact N q<|by omega
  .intro c hc
   rcases ZX.mp hc with w|w
   .exact .inl w
   .exact .inr (ZQ.mp w)
 .rw [Zq z,Zq z,Zq z]
  exact⟨v,Y,λk h=>(by cases h),λ_ _=>Y,by simp,N,λ_ h=>.inl h⟩
structure Nx(R:CP)(num j:Nat)(s s':Ss)(a b:Nat)(no np ko kp:List Nat):Prop where
 at1:∃o p,s'.2 (s.1.length+1)=some ⟨Y8 R.ns j,[],rh2 R o p⟩/\Ch R s'.2 s'.1.length o a (no++ ko)/\Ch R s'.2 s'.1.length p b (np++ kp)
 le:s'.1.length=s.1.length+1+no.length+np.length
 gt:∀k∈no++ np,s.1.length+1<k
 nd:(no++ np).Nodup
 hn:∀q,s'.1.length<q->s'.2 q=none
 mkd:∀c∈s'.1,c∈s.1\/c.1=num
def LB{l:List Nat}(h:l.length<=1):l.Nodup:=by
 match l,h with
 |[],_=>simp
 |[_],_=>simp
def zI{a b:Nat}{N T E D:List Nat}(C:∀q,s.1.length<q->s.2 q=none)(J:Ar R num pl0 (s.1++[(num,pl)],s.2) s1 o a N E)(Z:Ar R num pl1 s1 s2 p b T D):
  Nx R num j s (s2.1,stP s2.2 (s.1.length+1) ⟨Y8 R.ns j,[],rh2 R o p⟩) a b N T E D:=by
 have B:(s.1++[(num,pl)]).length=s.1.length+1:=by simp
 have t:s1.1.length=s.1.length+1+N.length:=by rw[J.le];show(s.1++[(num,pl)]).length+_=_;rw[B]
 have Q:=Z.le
 have P:s2.2 (s.1.length+1)=none:=by
  rw[Z.old _ (by omega),J.old _ (by show _<=(s.1++[(num,pl)]).length;rw[B];exact ZG _)];exact C _<|jj _
 have M:∀q x,s2.2 q=some x->stP s2.2 (s.1.length+1) ⟨Y8 R.ns j,[],rh2 R o p⟩ q=some x:=λq x h=>by
  unfold stP;rw[Zq λz=>by rw[z,P]at h;cases h];exact h
 have O:∀q x,s1.2 q=some x->s2.2 q=some x:=λq x h=>by
  rw[Z.old q (qa λz=>by rw[J.hn q z]at h;cases h)];exact h
 have A:∀k∈N,s.1.length+1<k/\k=s1.1.length:=λk G=>by
  obtain⟨O,M⟩:=J.gt k G;have L:(s.1++[(num,pl)]).length<k:=M;rw[B]at L;exact⟨L,O⟩
 have F:∀k∈T,s1.1.length<k:=λk G=>(Z.gt k G).2;refine⟨⟨o,p,?_,J.ch.mono (λq x h=>M q x<|O q x h) (by show _<=s2.1.length;omega),Z.ch.mono M<|ZG _⟩,by show s2.1.length=_;omega,λk G=>?_,?_,λq U=>?_,λc X=>?_⟩
 .show stP _ _ _ _=_
  unfold stP;rw[Zp rfl]
 .rcases ZX.mp G with w|w
  .exact (A k w).1
  .have:=F k w
   omega
 .rw [ji]
  refine⟨LB J.n1,LB Z.n1,λx S y I=>?_⟩;have O:=(A x S).2;have M:=F y I;omega
 .show stP _ _ _ q=none
  have:s2.1.length<q:=U;unfold stP;rw[Zq (by omega)];exact Z.hn q this
 .rcases Z.mkd c X with w|w
  .rcases J.mkd c w with w|w
   .rcases ZX.mp w with w|w
    .exact .inl w
    .rw [ZQ.mp w]
     exact .inr Y
   .rw [w]
    exact .inr Y
  .rw [w]
   exact .inr Y
def W9(num:Nat)(pl:pZ)(s:Ss):Ss:=(s.1++[(num,pl)],s.2)
def Tt(c:Bool)(F:Str)(num:Nat)(pl:pZ)(ρ:Rho)(s:Ss):Ss:=arS c F num (pl++[0]) ρ<|W9 num pl s
def zJ(c d:Bool)(F:Str)(num:Nat)(pl:pZ)(ρ:Rho)(s:Ss):Ss:=arS d F num (pl++[1]) ρ<|Tt c F num pl ρ s
def nxS(R:CP)(c d:Bool)(F:Str)(num:Nat)(pl:pZ)(ρ:Rho)(j:Nat)(o p:Tg)(s:Ss):Ss:=
 ((zJ c d F num pl ρ s).1,stP (zJ c d F num pl ρ s).2 (s.1.length+1) ⟨Y8 R.ns j,[],rh2 R (arT c o<|W9 num pl s)<|arT d p<|Tt c F num pl ρ s⟩)
def LU{c:Bool}{x:Nat}:(if c=true then[x]else[]).length=c.toNat:=by cases c <;> rfl
def B6{k j a b:Nat}{c d:Bool}(E:k<R.ns.length)(N:(c || d)=true->pl.length<=1)(L:∀q,s.1.length<q->s.2 q=none)(A:c=true->(cpB R k).at (pl++[0])=some (Ux R R.own)/\ρ R.own=some o)(F:d=true->(cpB R k).at (pl++[1])=some (Ux R R.oth)/\ρ R.oth=some p)(S:Ch R s.2 s.1.length o a ko)(I:Ch R s.2 s.1.length p b kp):
  ∃T O,T.length=c.toNat/\O.length=d.toNat/\Nx R num j s (nxS R c d (Y8 R.ns k) num pl ρ j o p s) a b T O ko kp:=by
 have G:∀q,(W9 num pl s).1.length<q->(W9 num pl s).2 q=none:=λq D=>L q (by unfold W9 at D;simp at D;omega);have B:s.1.length<=(W9 num pl s).1.length:=by unfold W9;simp
 have Z:=LY (R:=R) (num:=num) (pl:=pl++[0]) (k:=k) (x:=R.own) (c:=c) (t:=a) (ks:=ko) (s:=W9 num pl s) (ρ:=ρ) (th0:=o) E G (λz=>(A z).1) (λz=>by rw[ZL,vy];exact jF<|N (by rw[z];rfl)) (λz=>(A z).2)<|S.mono (λ_ _ h=>h) B;have U:=Z.le
 have J:Ch R (Tt c (Y8 R.ns k) num pl ρ s).2 (Tt c (Y8 R.ns k) num pl ρ s).1.length p b kp:=I.mono (λq x h=>by
  refine(Z.old q ?_).trans h;refine Zb (qa λz=>?_) B;rw[L q z]at h;cases h) (by unfold Tt;omega)
 have M:=LY (R:=R) (num:=num) (pl:=pl++[1]) (k:=k) (x:=R.oth) (c:=d) (t:=b) (ks:=kp) (s:=Tt c (Y8 R.ns k) num pl ρ s) (ρ:=ρ) (th0:=p) E Z.hn (λz=>(F z).1) (λz=>by rw[ZL,vy];exact jF<|N (by rw[z];cases c <;> rfl)) (λz=>(F z).2) J;exact⟨_,_,LU,LU,zI (pl:=pl) L Z M⟩
def zw(Z:∀q:pZ,((num,q):Mk1)∉s.1):((num,pl++[0]):Mk1)∉(W9 num pl s).1:=λw=>by
 rcases ZX.mp w with w|w
 .exact Z _ w
 .rw [ZQ]at w
  have:=congrArg (λp:Mk1=>p.2.length) w;simp at this
def zu(J:∀q:pZ,((num,q):Mk1)∉s.1):((num,pl++[1]):Mk1)∉(Tt c F num pl ρ s).1:=λw=>by
 have Z:((num,pl++[1]):Mk1)∉(W9 num pl s).1:=λw=>by
  rcases ZX.mp w with w|w
  .exact J _ w
  .rw [ZQ]at w
   have:=congrArg (λp:Mk1=>p.2.length) w;simp at this
 unfold Tt arS at w
 split at w
 .rcases ZX.mp w with w|w
  .exact Z w
  .rw [ZQ]at w
   have:=congrArg (λp:Mk1=>p.2) w;simp at this
 .exact Z w
def B7(o:XW s.1)(h:num<=s.1.length)(J:∀q:pZ,((num,q):Mk1)∉s.1)(Z:J4 pl)(L:(c || d)=true->pl.length<=1):XW (nxS R c d F num pl ρ j o' p s).1:=by
 have M:XW (W9 num pl s).1:=o.snoc h (J pl) Z
 have N:num<=(W9 num pl s).1.length:=by
  show num<=(s.1++[_]).length;rw[ZL];omega
 have st:∀{c:Bool}{s:Ss}{q:pZ},XW s.1->num<=s.1.length->((num,q):Mk1)∉s.1->(c=true->J4 q)->XW (arS c F num q ρ s).1/\num<=(arS c F num q ρ s).1.length:=λ{c s q} o h n Z=>by
  unfold arS
  by_cases z:c=true
  .rw [Zp z]
   exists o.snoc h n<|Z z;show num<=(s.1++[_]).length;rw[ZL];omega
  .rw [Zq z]
   exact⟨o,h⟩
 have G:=st (c:=c) (q:=pl++[0]) M N (zw J) λz=>Z.snoc (L (by rw[z];rfl)) (by decide);exact(st (c:=d) (s:=Tt c F num pl ρ s) (q:=pl++[1]) G.1 G.2 (zu J) λz=>Z.snoc (L (by rw[z];cases c <;> rfl))<|by decide).1
def Cw{k:Nat}(K:CK1 R S)(F:k+1<R.ns.length)(G:∀q:pZ,((num,q):Mk1)∉s.1)(h:TAp S (Y8 R.ns k) (cpB R k) num (rh2 R o p) (n+2) [] s th O):
  th=.cell (s.1.length+1)/\O=nxS R (R.l1 k) (R.l2 k) (Y8 R.ns k) num [] (rh2 R o p) (k+1) o p s:=by
 have J:(cpB R k).at []=some (.ask (Y8 R.ns<|k+1) [hdB R R.own (R.l1 k),hdB R R.oth (R.l2 k)]):=by
  rw[Du];unfold cpB;rw[Zq (by omega)]
  rfl
 obtain⟨X,C,N,U,M,L,I,A⟩:=Ro K F J (G []) h;obtain⟨E,D⟩:=QX (Bd.at_snoc [] J (by decide) rfl) Uj (zw G) M;have Z:N=Tt (R.l1 k) (Y8 R.ns k) num [] (rh2 R o p) s:=D;subst Z;obtain⟨B,T⟩:=QX (Bd.at_snoc [] J (by decide) rfl) (GX K.no) (zu G) L;exists I;rw[A,E,B,T]
 rfl
def zV{b:Bd}{t:Nat}(K:CK1 R A)(Z:b.at pl=some (loB R t))(B:∀q:pZ,((num,q):Mk1)∉s.1)(h:TAp A F b num (rh2 R o p) (n+2) pl s th N):
  th=.cell (s.1.length+1)/\N=nxS R false false F num pl (rh2 R o p) 0 o (.tag<|Y8 R.tg<|t+1) s:=by
 obtain⟨C,U,S,I,J,M,E,D⟩:=Ro K K.n1 Z (B pl) h;unfold TAp at J;obtain⟨c,L,T⟩:=J;rw[Bd.at_snoc pl Z (by decide) rfl]at L;cases L;obtain⟨G,rfl⟩:=T;obtain⟨O,rfl⟩:=N8 (Bd.at_snoc pl Z (by decide) rfl) M;rw[Uj]at G;cases G;exact⟨E,by rw[D,O];rfl⟩
def CJ{b:Bd}{t:Nat}(K:CK1 R D)(Z:b.at pl=some (upB R t))(O:∀q:pZ,((num,q):Mk1)∉s.1)(h:TAp D F b num ρ (n+2) pl s th L):
  th=.cell (s.1.length+1)/\L=nxS R false false F num pl ρ 0 (.tag<|Y8 R.tg<|t+1) (.tag<|Y8 R.tg 0) s:=by
 obtain⟨S,I,A,E,G,J,B,T⟩:=Ro K K.n1 Z (O pl) h;obtain⟨N,rfl⟩:=N8 (Bd.at_snoc pl Z (by decide) rfl) G;obtain⟨M,rfl⟩:=N8 (Bd.at_snoc pl Z (by decide) rfl) J;exact⟨B,by rw[T,N,M];rfl⟩
abbrev fuS(S:WSt)(k:Nat)(F:Str)(b:Bd)(l:List WEn)(s':Ss):WSt:={S with u:=S.u++[⟨k,F,b,l⟩],s:=s'}
def Cm(ds:List Dd)(gs:pX)(mo:Nat)(S:WSt)(k:Nat)(F:Str)(b:Bd)(x:Stp)(l:List WEn)(Po:J7->WSt->Prop):Prop:=
 ∃m r J Z,Gos ds gs F b k 8 m x l S.s r J Z/\S.s.1.length<=Z.1.length/\Cg true ds gs mo (.st r) (fuS S k F b J Z) Po
def Cm.start(J:WOk true S)(m:k∉S.h.map (·.1)/\k∉S.r.map (·.1))(N:S.s.2 k=some sta)(hd:df∈Z)(R:df.1.1=sta.f)(G:df.2.ok)(O:k<=S.s.1.length)(L:S.bg<mo)(q:Cm Z gs mo {upW true k S with bg:=S.bg+1} k sta.f df.2 (.body sta.pl sta.ρ) [] Po):Cg true Z gs mo (.st<|.want k) S Po:=by
 obtain⟨B,r,D,T,g,M,h⟩:=q;exact Cg.go J (λ_=>m) N hd R G O L g M h
def Cm.taken(J:S.u=u++[⟨k,F,b,l⟩])(q:Cm G gs mo {S with u:=u} k F b (.head t) l Po):Cg true G gs mo (.taken t) S Po:=by
 obtain⟨M,r,N,L,g,Z,h⟩:=q;exact Cg.taken J g Z h
def Cm.push(h:b.at pl=some (.choose e Z J))(R:S.s.1.length+(Bd.choose e Z J).size<=9000)(M:pl.length+8<=400)(O:l.length<=400)(q:Cm B gs mo S k F b (.body (pl++[0]) ρ) (l++[(.choose e Z J,pl,ρ)]) Po):Cm B gs mo S k F b (.body pl ρ) l Po:=by
 obtain⟨L,r,T,G,g,N,c⟩:=q;exact⟨L+1,r,T,G,.push h R M O g,N,c⟩
def Cm.name(h:b.at pl=some (.name x))(e:ρ x=some th)(N:S.s.1.length+1<=9000)(G:pl.length+8<=400)(M:l.length<=400)(q:Cm R gs mo S k F b (.thing th) l Po):Cm R gs mo S k F b (.body pl ρ) l Po:=by
 obtain⟨J,r,O,Z,g,L,c⟩:=q;exact⟨J+1,r,O,Z,.name h e N G M g,L,c⟩
def Cm.cho{j:Nat}(G:Z.Nodup)(M:Z.length<=50)(R:E.length=Z.length)(B:Z[j]?=some t)(O:pl.length<=400)(q:Cm D gs mo S k F b (.body (pl++[1+(j:Int)]) ρ) l Po):Cm D gs mo S k F b (.head t) (l++[(.choose e Z E,pl,ρ)]) Po:=by
 obtain⟨L,r,T,J,g,N,c⟩:=q;exact⟨L+1,r,T,J,.cho G M R B O g,N,c⟩
def Cm.ask{f:Str}{M:List Bd}(h:b.at pl=some (.ask f M))(O:OkT L ρ 9 (.ask f M))(B:S.s.1.length+(Bd.ask f M).size<=9000)(R:pl.length+8<=400)(N:∀Z J,TAp L F b k ρ 9 pl S.s Z J->Z=.cell c/\J=G)(T:S.s.1.length<=G.1.length)(q:Cg true L gs mo (.st<|.want c) (fuS S k F b [] G) Po):Cm L gs mo S k F b (.body pl ρ) [] Po:=by
 refine⟨2,.want c,[],G,.ask h O B R (by show 0<=400;decide) (m:=1) λZ J t=>?_,T,q⟩;obtain⟨rfl,rfl⟩:=N Z J t;exact .thC .stopW
def Cm.stop(q:Cg true Z gs mo (.st<|.head t) (fuS S k F b [] S.s) Po):Cm Z gs mo S k F b (.head t) [] Po:=⟨0,.head t,[],S.s,.stopH,ZG _,q⟩
structure Am(R:CP)(S S':WSt)(th:Tg)(t:Nat)(ks:List Nat):Prop where
 s:S'.s=S.s
 u:S'.u=S.u
 bg:S'.bg=S.bg+ks.length
 r:S'.r.map (·.1)=S.r.map (·.1)++ ks
 kn:∀q,th=.cell q->S'.h.lookup q=some (Y8 R.tg t)
def IB.full(i:IB (fuS S k F b l s'))(e:s'=S.s):IB (fuS S k F b l' S.s):=by
 have h:=i.takn (u:=S.u) (e:=⟨k,F,b,l⟩) (l':=l') (s':=s') rfl (ZG _) i.cg i.ln;subst e;exact h
def Cm.thing(K:CK1 R N)(A:mo<=800)(v:Ch R S.s.2 S.s.1.length th t ks)(i:IB (fuS S k F b l S.s))(E:S.s.1.length<=5000)(B:S.bg+ks.length<=mo)(T:ks.Nodup)(O:∀x∈ks,x∉S.r.map (·.1))(q:∀Z,Am R S Z th t ks->IB (fuS Z k F b l Z.s)->Cm N (g2 R) mo Z k F b (.head<|Y8 R.tg t) l Po):Cm N (g2 R) mo S k F b (.thing th) l Po:=by
 cases th with
 |tag x=>
  cases v with
  |tag U=>
   obtain⟨G,r,M,J,g,L,c⟩:=q S ⟨rfl,rfl,rfl,(jL _).symm,λq z=>by cases z⟩ i;exact⟨G+1,r,M,J,.thT g,L,c⟩
 |giv n=>
  cases v with
  |giv I=>
   obtain⟨G,r,M,J,g,L,c⟩:=q S ⟨rfl,rfl,rfl,(jL _).symm,λq z=>by cases z⟩ i;exact⟨G+1,r,M,J,.thG (Lu R I) g,L,c⟩
 |cell n=>
  exists 1,.want n,l,S.s,.thC .stopW,ZG _;refine As K A Po v n (fuS S k F b l S.s) Y i Y (ZG _) E B T O λZ a D=>?_;refine Cm.taken (u:=S.u) a.u<|q {Z with u:=S.u} ⟨a.s,rfl,a.bg,a.r,λq z=>by cases z;exact D⟩ ?_
  have e:(fuS {Z with u:=S.u} k F b l Z.s)=Z:=by
   have h:Z.u=S.u++[⟨k,F,b,l⟩]:=a.u;show{Z with u:=S.u++[⟨k,F,b,l⟩],s:=Z.s}=Z;rw[<-h]
  show IB (fuS {Z with u:=S.u} k F b l Z.s);rw[e];exact a.i
def J5(R:CP):Nat->Nat
 |0=>0
 |k+1=>J5 R k+1+(R.l1 k).toNat+(R.l2 k).toNat
def U2(R:CP):Nat:=J5 R (R.ns.length-1)+1
def mny(R:CP):Nat:=R.tg.length*R.tg.length*U2 R
def FI(R:CP):∀{i j:Nat},i<=j->J5 R i<=J5 R j:=λ{i j} h=>by
 induction h with
 |refl=>exact ZG _
 |step h ih=>exact Zb ih (by show J5 R _<=J5 R _+1+_+_;omega)
def LK{a b T:Nat}(Z:a<T)(J:b<T):a*T+b+1<=T*T:=by
 have:=qL T (Z:a+1<=T);rw[jN]at this;omega
def EV{L M N j:Nat}(h:L+1<=M)(Z:j+1<=N):L*N+j+1<=M*N:=by
 have:=qL N h;rw[jN]at this;omega
def OL{a b j:Nat}(J:a<R.tg.length)(Z:b<R.tg.length)(G:j<R.ns.length):(a*R.tg.length+b)*U2 R+J5 R j+1<=mny R:=
 EV (LK J Z) (jF<|FI R<|by omega)
structure St5(R:CP)(S:WSt)(k j a b:Nat)(ko kp:List Nat):Prop where
 i:IB S
 st:∃o p,S.s.2 k=some ⟨Y8 R.ns j,[],rh2 R o p⟩/\Ch R S.s.2 S.s.1.length o a ko/\Ch R S.s.2 S.s.1.length p b kp
 hk:k<=S.s.1.length
 kn:k∉S.r.map (·.1)
 nd:(ko++ kp).Nodup
 nr:∀x∈ko++ kp,x∉S.r.map (·.1)/\x≠k
 mkd:∀c∈S.s.1,c.1<k
 hn:∀q,S.s.1.length<q->S.s.2 q=none
 ul:∀e∈S.u,e.l=[]
 bg:S.bg+ko.length+kp.length=(a*R.tg.length+b)*U2 R+J5 R j
 len:S.s.1.length<=3*S.bg
def Ru{a b j:Nat}{G J N M:List Nat}(i:IB S')(x:Nx R k j s S'.s a b N M G J)(F:∀y∈G++ J,y<=s.1.length)(E:∀y∈S'.r.map (·.1),y<=s.1.length)(P:k<=s.1.length)(S:(G++ J).Nodup)(I:∀y∈G++ J,y∉S'.r.map (·.1))(mk:∀c∈s.1,c.1<k)(A:∀e∈S'.u,e.l=[])(C:S'.bg+(N++ G).length+(M++ J).length=(a*R.tg.length+b)*U2 R+J5 R j)(D:S'.s.1.length<=3*S'.bg):St5 R S' (s.1.length+1) j a b (N++ G) (M++ J):=by
 have X:=x.le
 have B:∀y∈(N++ G)++ (M++ J),y∈N++ M\/y∈G++ J:=λy Z=>by
  simp only[ZX]at Z |-;rcases Z with(h|h)|(h|h)
  .exact .inl (.inl h)
  .exact .inr (.inl h)
  .exact .inl (.inr h)
  .exact .inr (.inr h)
 refine⟨i,x.at1,by omega,λz=>by have:=E _ z;omega,?_,λy Z=>?_,λc U=>?_,x.hn,A,C,D⟩
 .have n1:=ji.mp x.nd
  have T:=ji.mp S
  have O:∀y∈N++ M,∀z∈G++ J,y≠z:=λy Z z L=>by
   have:=x.gt y Z;have:=F z L;omega
  rw[ji,ji,ji];refine⟨⟨n1.1,T.1,λy Z z L=>O y (jh _ Z) z<|jh _ L⟩,⟨n1.2.1,T.2.1,λy Z z L=>O y (ZU _ Z) z<|ZU _ L⟩,λy Z z L=>?_⟩;rcases ZX.mp Z with h|h
  .rcases ZX.mp L with w|w
   .exact n1.2.2 y h z w
   .exact O y (jh _ h) z (ZU _ w)
  .rcases ZX.mp L with w|w
   .exact (O z (ZU _ w) y<|jh _ h).symm
   .exact T.2.2 y h z w
 .rcases B y Z with h|h
  .have g:=x.gt y h
   exact⟨λz=>by have:=E _ z;omega,by omega⟩
  .have g:=F y h
   exact⟨I y h,by omega⟩
 .rcases x.mkd c U with h|h
  .have:=mk c h
   omega
  .omega
def Ef{x:Str}{c:Bool}(Z:R.tg.length<=4):(hdB R x c).size<=6:=by
 unfold hdB
 split
 .unfold Bd.size
  rw[IJ];simp only[Bd.size];omega
 .simp [Bd.size]
def Qr(M:R.tg.length<=4):(laB R).size<=70/\(upC R).size<=20:=by
 have G:∀k,(loB R k).size<=3:=λk=>by unfold loB;simp[Bd.size,Bd.sizes]
 have J:∀k,(upB R k).size<=3:=λk=>by unfold upB;simp[Bd.size,Bd.sizes]
 have go:∀(f:Nat->Bd)(n:Nat),(∀k,(f k).size<=n)->∀l:List Nat,Bd.sizes (l.map f)<=n*l.length:=λf n L l=>by
  induction l with
  |nil=>simp[Bd.sizes]
  |cons a l ih=>
   rw[ZV,Zf];unfold Bd.sizes;have:=L a;rw[Nat.mul_succ];omega
 have Z:(upC R).size<=14:=by
  have:=go (λk=>if k+1=R.tg.length then .name R.own else upB R k) 3 (λk=>by
   show Bd.size (if _ then _ else _)<=3
   split
   .simp [Bd.size]
   .exact J k)<|List.range R.tg.length
  rw[js]at this;unfold upC Bd.size;simp only[Bd.size];omega
 have:=go (λk=>if k+1=R.tg.length then upC R else loB R k) 14 (λk=>by
  show Bd.size (if _ then _ else _)<=14
  split
  .exact Z
  .exact Zb (G k) (by decide))<|List.range R.tg.length
 rw[js]at this;refine⟨?_,by omega⟩;unfold laB Bd.size;simp only[Bd.size];omega
def Kj{G J:Bd}{j:Nat}(K:CK1 R Z)(L:j<R.ns.length)(O:OkT Z ρ 8 G)(N:OkT Z ρ 8 J):OkT Z ρ 9 (.ask (Y8 R.ns j) [G,J]):=by
 unfold OkT;refine⟨⟨_,K.mm _ L,Y,Y,(by show 2<=3;decide),?_⟩,λa M=>?_⟩
 .show [R.own,R.oth].Nodup
  simp[K.no]
 .rcases Zd.mp M with h|h
  .rw [h];exact O
  .rw [ZQ]at h
   rw[h];exact N
def Ki{x:Str}{c:Bool}(h:∃Z,ρ x=some Z):OkT J ρ 8 (hdB R x c):=by
 unfold hdB
 split
 .unfold OkT;trivial
 .unfold OkT;exact h
def EJ{S:WSt}{k:Nat}:(S.r++[(k,JH S.u)]).map (·.1)=S.r.map (·.1)++[k]:=by
 rw[ZK]
 rfl
def vO{a b j:Nat}(K:CK1 R I)(hm:mo<=800)(hM:mny R<=mo)(C:J7->WSt->Prop)(t:St5 R S k j a b ko kp)(u:a<R.tg.length)(f:b<R.tg.length)(F:j+1<R.ns.length)(q:∀U E M L,St5 R U E (j+1) a b M L->Cg true I (g2 R) mo (.st<|.want E) U C):Cg true I (g2 R) mo (.st<|.want k) S C:=by
 obtain⟨o,p,g,T,O⟩:=t.st;have i:=t.i;have bl:=OL (j:=j) u f (by omega);have tb:=t.bg;have l:=t.len;have D:=K.mm j (by omega);have A:∀q:pZ,((k,q):Mk1)∉S.s.1:=λq z=>Zr (t.mkd _ z)<|jt _
 have Z:(cpB R j).at []=some (psB R j):=by
  rw[Du];unfold cpB;rw[Zq (by omega)]
 have w:R.l1 j=true->(cpB R j).at ([]++[0])=some (Ux R R.own)/\rh2 R o p R.own=some o:=λz=>⟨by
  have h:(cpB R j).at ([]++[0])=some (hdB R R.own<|R.l1 j):=Bd.at_snoc [] Z (by decide) rfl;rw[h];unfold hdB;rw[Zp z],Uj⟩
 have v:R.l2 j=true->(cpB R j).at ([]++[1])=some (Ux R R.oth)/\rh2 R o p R.oth=some p:=λz=>⟨by
  have h:(cpB R j).at ([]++[1])=some (hdB R R.oth<|R.l2 j):=Bd.at_snoc [] Z (by decide) rfl;rw[h];unfold hdB;rw[Zp z],GX K.no⟩
 obtain⟨no,np,m,Q,B⟩:=B6 (num:=k) (j:=j+1) (by omega:j<R.ns.length) (λ_=>by show 0<=1;decide) t.hn w v T O;have r:=B.le;have e1:(R.l1 j).toNat<=1:=by cases R.l1 j <;> decide
 have e2:(R.l2 j).toNat<=1:=by cases R.l2 j <;> decide
 have G:=t.hk;have s0:=Ef (R:=R) (x:=R.own) (c:=R.l1 j) K.t4;have P:=Ef (R:=R) (x:=R.oth) (c:=R.l2 j) K.t4;refine Cm.start (sta:=⟨Y8 R.ns j,[],rh2 R o p⟩) (df:=cpD R j) (i.wok<|by omega) ⟨λz=>t.kn<|i.hr _ z,t.kn⟩ g D rfl (K.ok _ D) G (by omega) ?_;refine Cm.ask Z (Kj K F (Ki ⟨_,Uj⟩)<|Ki ⟨_,GX K.no⟩) ?_ (by show 0+8<=400;decide) (λn P X=>Cw K F A X) (by show S.s.1.length<=_;omega) ?_
 .show S.s.1.length+(Bd.ask _ _).size<=9000
  unfold Bd.size Bd.sizes Bd.sizes Bd.sizes;omega
 refine q _ _ _ _<|Ru (s:=S.s) (k:=k) (i.go t.kn G (by omega) (B7 i.cg G A .nil λ_=>by show 0<=1;decide) (by show(nxS _ _ _ _ _ _ _ _ _ _ _).1.length<=_;omega)) B (λy J=>?_) (λy J=>?_) G t.nd (λy J=>?_) t.mkd (λe d=>?_) ?_ ?_
 .rcases ZX.mp J with h|h
  .exact T.le y h
  .exact O.le y h
 .have hy':y∈(S.r++[(k,JH S.u)]).map (·.1):=J
  rw[EJ]at hy';rcases ZX.mp hy' with h|h
  .exact i.rk y h
  .rw [ZQ]at h
   rw[h];exact G
 .intro z
  have N:y∈(S.r++[(k,JH S.u)]).map (·.1):=z;rw[EJ]at N;rcases ZX.mp N with h|h
  .exact (t.nr y J).1 h
  .exact (t.nr y J).2 (ZQ.mp h)
 .rcases ZX.mp d with h|h
  .exact t.ul e h
  .rw [ZQ]at h
   rw[h]
 .show S.bg+1+_+_=_+(J5 R j+1+_+_)
  rw[ZL,ZL,m,Q];omega
 .show (nxS _ _ _ _ _ _ _ _ _ _ _).1.length<=3*(S.bg+1)
  omega
abbrev wS(S:WSt):WSt:={S with wc:=S.bg}
theorem CM(M:Nat)(T:M<=800)(G:J7->WSt->Prop)(L:∀J:WSt,J.bg=M->J.u=[]->IB (wS J)->G (.hd t) J):∀(n:Nat)(S:WSt),S.u.length=n->S.bg=M->IB (wS S)->(∀e∈S.u,e.l=[])->Cg true E gs mo (.taken t) S G
 |0,S,h,b,i,hl=>Cg.fin (jf h)<|L _ b (jf h) i
 |n+1,S,h,b,i,hl=>by
  have Z:S.u≠[]:=λz=>by rw[z]at h;cases h
  have e:=(jg Z).symm;have B:=hl _<|kE Z;have D:S.h.length+S.u.length=S.bg:=i.lu;have N:(S.u.getLast Z).k∉S.h.map (·.1):=i.uh _<|kE Z;have O:=(i.takn (S:=wS S) (u:=S.u.dropLast) (e:=S.u.getLast Z) (l':=[]) (s':=S.s) e (ZG _) i.cg i.ln).head (t:=t) (u:=S.u.dropLast) rfl;refine Cg.taken e (by rw[B];exact .stopH) (ZG _)<|Cg.head rfl (λ_=>⟨N,by show S.h.length<=900;omega⟩) ?_;exact CM M T G L n _ (by show S.u.dropLast.length=n;rw[jr,h];rfl) b O λe R=>hl e<|ph _ R
def Az(M:Nat)(T:M<=800)(J:J7->WSt->Prop)(N:∀Z:WSt,Z.bg=M->Z.u=[]->IB (wS Z)->J (.hd t) Z)(i:IB (wS<|fuS S k F b [] S.s))(R:S.bg=M)(G:∀e∈S.u,e.l=[]):Cm ds gs mo S k F b (.head t) [] J:=by
 refine Cm.stop ?_;have B:S.h.length+(S.u++[_]).length=S.bg:=i.lu;have L:k∉S.h.map (·.1):=i.uh ⟨k,F,b,[]⟩<|ZU _<|ZQ.mpr rfl;have O:=i.head (t:=t) (u:=S.u) (e:=⟨k,F,b,[]⟩) rfl;exact Cg.head Y (λ_=>⟨L,by show S.h.length<=900;omega⟩) (CM M T J N _ _ Y R O G)
def zd(Z:IB (fuS S k F b [] S.s))(M:Nat)(I:M<=800)(J:J7->WSt->Prop)(v:Ch R st m th t Q)(C:∀q,th=.cell q->S.h.lookup q=some (Y8 R.tg t))(O:∀G:WSt,G.bg=M->G.u=[]->IB (wS G)->J (.hd<|Y8 R.tg t) G)(A:S.bg=M)(L:∀e∈S.u,e.l=[]):Cm ds (g2 R) mo S k F b (.thing th) [] J:=by
 have E:IB (wS<|fuS S k F b [] S.s):=⟨Z.hr,Z.ur,Z.rk,Z.uh,Z.un,Z.lr,rfl,Z.lu,Z.rw,Z.cg,Z.ln⟩
 cases th with
 |tag x=>
  cases v with
  |tag j=>
   obtain⟨T,r,D,N,g,B,c⟩:=Az M I J O E A L (ds:=ds) (gs:=g2 R) (mo:=mo);exact⟨T+1,r,D,N,.thT g,B,c⟩
 |giv n=>
  cases v with
  |giv X=>
   obtain⟨T,r,D,N,g,B,c⟩:=Az M I J O E A L (ds:=ds) (gs:=g2 R) (mo:=mo);exact⟨T+1,r,D,N,.thG (Lu R X) g,B,c⟩
 |cell n=>
  have U:=Z.wok (by show S.bg<=900;omega);refine⟨1,.want n,[],S.s,.thC .stopW,ZG _,Cg.tkn U (C n Y) ?_⟩;refine Cm.taken (u:=S.u) Y ?_;exact Az (S:={S with wc:=S.wc+1}) M I J O E A L
def LM{j:Nat}(h:j+1=R.ns.length):(cpB R j).at []=some (laB R):=by
 rw[Du];unfold cpB;rw[Zp h]
def ze{j b:Nat}(h:j+1=R.ns.length)(Z:b<R.tg.length):(cpB R j).at ([]++[1+(b:Int)])=some (if b+1=R.tg.length then upC R else loB R b):=by
 refine Bd.at_snoc [] (LM h) (by omega) ?_;show(_::_)[(1+(b:Int)).toNat]?=_;rw[show(1+(b:Int)).toNat=b+1 by omega];show((List.range R.tg.length).map _)[b]?=_;rw[ZH,qc Z]
 rfl
def CL{b:Bd}{Z:pZ}{a:Nat}(h:b.at Z=some (upC R))(J:a<R.tg.length):b.at (Z++[1+(a:Int)])=some (if a+1=R.tg.length then .name R.own else upB R a):=by
 refine Bd.at_snoc Z h (by omega) ?_;show(_::_)[(1+(a:Int)).toNat]?=_;rw[show(1+(a:Int)).toNat=a+1 by omega];show((List.range R.tg.length).map _)[a]?=_;rw[ZH,qc J]
 rfl
def LL{j:Nat}(h:j+1=R.ns.length):J5 R j+1=U2 R:=by
 unfold U2;rw[show R.ns.length-1=j by omega]
def SS{a b T:Nat}(Z:a+1=T)(J:b+1=T):a*T+b+1=T*T:=by
 have:(a+1)*T=T*T:=by rw[Z]
 rw[jN]at this;omega
def Qb{a b T:Nat}(Z:b+1=T):a*T+b+1=(a+1)*T+0:=by
 rw[jN];omega
def Qq{a b j:Nat}(K:CK1 R ds)(hm:mo<=800)(hM:mny R<=mo)(v:J7->WSt->Prop)(t:St5 R S k j a b ko kp)(ha:a<R.tg.length)(hb:b<R.tg.length)(r:j+1=R.ns.length)(pw:∀SR:WSt,SR.bg=mny R->SR.u=[]->IB (wS SR)->v (.hd<|Y8 R.tg<|R.tg.length-1) SR)(ql:b+1<R.tg.length->∀f Q D B,St5 R f Q 0 a (b+1) D B->Cg true ds (g2 R) mo (.st<|.want Q) f v)(qu:b+1=R.tg.length->a+1<R.tg.length->∀f Q D B,St5 R f Q 0 (a+1) 0 D B->Cg true ds (g2 R) mo (.st<|.want Q) f v):Cg true ds (g2 R) mo (.st<|.want k) S v:=by
 obtain⟨o,p,hs,F,vp⟩:=t.st;have i:=t.i;have bl:=OL (j:=j) ha hb (by omega);have tb:=t.bg;have tl:=t.len;have jw:=LL r;have md:=K.mm j (by omega);have T:=t.hk;have t4:=K.t4;have n:∀q:pZ,((k,q):Mk1)∉S.s.1:=λq z=>Zr (t.mkd _ z)<|jt _;have w:=ji.mp t.nd;obtain⟨z1,z2⟩:=Qr (R:=R) K.t4;have eb:(cpD R j).2=cpB R j:=rfl;have I:J4 ([]++[1+(b:Int)]):=J4.nil.snoc (by decide) (by omega);have G1:J4 ([]++[1+(b:Int)]++[1+(a:Int)]):=I.snoc (by show 1<=1;decide) (by omega);have en:(cpB R j).at ([]++[0])=some (.name R.oth):=Bd.at_snoc [] (LM r) (by decide) rfl;refine Cm.start (sta:=⟨Y8 R.ns j,[],rh2 R o p⟩) (df:=cpD R j) (i.wok<|by omega) ⟨λz=>t.kn<|i.hr _ z,t.kn⟩ hs md rfl (K.ok _ md) T (by omega) ?_;refine Cm.push (LM r) (by show S.s.1.length+(laB R).size<=9000;omega) (by show 0+8<=400;decide) (by show 0<=400;decide)<|Cm.name en (GX K.no) (by show S.s.1.length+1<=9000;omega) (by show 1+8<=400;decide) (by show 1<=400;decide) ?_;have i1:IB (goS k (Y8 R.ns j) (cpB R j) ([]++[(laB R,[],rh2 R o p)]) S.s S):=i.go t.kn T (ZG _) i.cg (by omega);refine Cm.thing (t:=b) (ks:=kp) K hm vp i1 (by show S.s.1.length<=5000;omega) (by show S.bg+1+kp.length<=_;omega) w.2.1 (λy J z=>?_) λZ x i2=>?_
 .have z':y∈(S.r++[(k,JH S.u)]).map (·.1):=z
  rw[EJ]at z';have:=t.nr y<|ZU _ J;rcases ZX.mp z' with h|h
  .exact this.1 h
  .exact this.2 (ZQ.mp h)
 have M:Z.s=S.s:=x.s;have u2:Z.u=S.u:=x.u;have b2:Z.bg=S.bg+1+kp.length:=x.bg
 have r2:Z.r.map (·.1)=S.r.map (·.1)++[k]++ kp:=by
  have h:Z.r.map (·.1)=(S.r++[(k,JH S.u)]).map (·.1)++ kp:=x.r;rw[h,EJ]
 have P:∀y∈ko,y∉Z.r.map (·.1):=λy J z=>by
  rw[r2]at z;have:=t.nr y<|jh _ J;rcases ZX.mp z with h|h
  .rcases ZX.mp h with h|h
   .exact this.1 h
   .exact this.2 (ZQ.mp h)
  .exact w.2.2 y J y h rfl
 have C:∀y∈Z.r.map (·.1),y<=S.s.1.length:=λy J=>by
  rw[r2]at J;rcases ZX.mp J with h|h
  .rcases ZX.mp h with h|h
   .exact i.rk y h
   .rw [ZQ.mp h];exact T
  .exact vp.le y h
 refine Cm.cho (l:=[]) K.tn (by omega) (by rw[ZA,js]) (Vr hb) (by show 0<=400;decide) ?_;have E:=ze r hb
 by_cases zb:b+1=R.tg.length
 .rw [Zp zb]at E
  have G3:(cpB R j).at ([]++[1+(b:Int)]++[0])=some (.name R.own):=Bd.at_snoc _ E (by decide) rfl;refine Cm.push (l:=[]) E (by show Z.s.1.length+(upC R).size<=9000;rw[M];omega) (by show 1+8<=400;decide) (by show 0<=400;decide)<|Cm.name G3 Uj (by rw[M];omega) (by show 2+8<=400;decide) (by show 1<=400;decide) ?_;have G2:IB (fuS Z k (Y8 R.ns j) (cpB R j) ([]++[(upC R,[]++[1+(b:Int)],rh2 R o p)]) Z.s):=i2.full rfl;have J2:Ch R Z.s.2 Z.s.1.length o a ko:=by rw[M];exact F
  refine Cm.thing (t:=a) (ks:=ko) K hm J2 G2 (by rw[M];omega) (by omega) w.1 P λL g i3=>?_;have U:L.s=S.s:=g.s.trans M;have u3:L.u=S.u:=g.u.trans u2;have b3:L.bg=S.bg+1+kp.length+ko.length:=by rw[g.bg,b2]
  have e3:L.bg=(a*R.tg.length+b+1)*U2 R:=by
   rw[jN];omega
  refine Cm.cho (l:=[]) K.tn (by omega) (by rw[ZA,js]) (Vr ha) (by show 1<=400;decide) ?_;have G:=CL E ha
  by_cases za:a+1=R.tg.length
  .rw [Zp za]at G
   have em:L.bg=mny R:=by
    rw[e3];unfold mny;rw[SS za zb]
   refine Cm.name (l:=[]) G Uj (by rw[U];omega) (by show 2+8<=400;decide) (by show 0<=400;decide) ?_;have ea:a=R.tg.length-1:=by omega
   rw[<-ea]at pw;exact zd (i3.full Y) (mny R) (Zb hM hm) v F g.kn pw em λe m=>t.ul e (by rw[<-u3];exact m)
  .rw [Zq za]at G
   obtain⟨no,np,n1,n2,X⟩:=B6 (R:=R) (ρ:=rh2 R o p) (num:=k) (j:=0) (k:=j) (c:=false) (d:=false) (pl:=[]++[1+(b:Int)]++[1+(a:Int)]) (s:=S.s) (by omega) (λz=>by cases z) t.hn (λz=>by cases z) (λz=>by cases z) (.tag (by omega:a+1<R.tg.length)) (.tag (by omega:0<R.tg.length));have xl:=X.le;have O:no.length=0:=n1;have N:np.length=0:=n2;refine Cm.ask G (Kj K K.n1 (by unfold OkT;trivial) (by unfold OkT;trivial)) (by rw[U];show _+(upB R a).size<=9000;unfold upB;simp[Bd.size,Bd.sizes];omega) (by show 2+8<=400;decide) (λth s1 A=>by rw[U]at A;exact CJ K G n A) (by rw[U];omega) ?_;refine qu zb (by omega) _ _ _ _<|Ru (s:=S.s) (k:=k) (i3.takn (u:=L.u) rfl (by show L.s.1.length<=_;rw[U];omega) (B7 i.cg T n G1 λz=>by cases z) (by show(nxS _ _ _ _ _ _ _ _ _ _ _).1.length<=3*L.bg;omega)) X (λy J=>by cases J) (λy J=>?_) T (by simp) (λy J=>by cases J) t.mkd (λe m=>?_) ?_ ?_
   .have h:y∈L.r.map (·.1):=J
    rw[g.r]at h;rcases ZX.mp h with h|h
    .exact C y h
    .exact F.le y h
   .rcases ZX.mp m with h|h
    .exact t.ul e (by rw[<-u3];exact h)
    .rw [ZQ]at h
     rw[h]
   .show L.bg+_+_=((a+1)*R.tg.length+0)*U2 R+0
    rw[ZL,ZL,O,N,<-Qb zb,e3]
    rfl
   .show (nxS _ _ _ _ _ _ _ _ _ _ _).1.length<=3*L.bg
    omega
 .rw [Zq zb]at E
  obtain⟨no,np,n1,n2,X⟩:=B6 (R:=R) (ρ:=rh2 R o p) (num:=k) (j:=0) (k:=j) (c:=false) (d:=false) (pl:=[]++[1+(b:Int)]) (s:=S.s) (by omega) (λz=>by cases z) t.hn (λz=>by cases z) (λz=>by cases z) F (.tag (by omega:b+1<R.tg.length));have xl:=X.le;have O:no.length=0:=n1;have N:np.length=0:=n2;refine Cm.ask E (Kj K K.n1 (by unfold OkT;exact⟨_,Uj⟩) (by unfold OkT;trivial)) (by rw[M];show _+(loB R b).size<=9000;unfold loB;simp[Bd.size,Bd.sizes];omega) (by show 1+8<=400;decide) (λth s1 A=>by rw[M]at A;exact zV K E n A) (by rw[M];omega) ?_;refine ql (by omega) _ _ _ _<|Ru (s:=S.s) (k:=k) (i2.takn (u:=Z.u) rfl (by show Z.s.1.length<=_;rw[M];omega) (B7 i.cg T n I λz=>by cases z) (by show(nxS _ _ _ _ _ _ _ _ _ _ _).1.length<=3*Z.bg;omega)) X (λy J=>F.le y<|by simpa using J) C T (by simpa using w.1) (λy J=>P y<|by simpa using J) t.mkd (λe m=>?_) ?_ ?_
  .rcases ZX.mp m with h|h
   .exact t.ul e (by rw[<-u2];exact h)
   .rw [ZQ]at h
    rw[h]
  .show Z.bg+_+_=(a*R.tg.length+(b+1))*U2 R+0
   have e0:(a*R.tg.length+(b+1))*U2 R=(a*R.tg.length+b)*U2 R+U2 R:=jN _ _;rw[ZL,ZL,O,N,e0];show Z.bg+(0+ko.length)+0=_;omega
  .show (nxS _ _ _ _ _ _ _ _ _ _ _).1.length<=3*Z.bg
   omega
def vE(K:CK1 R X)(E:mo<=800)(F:mny R<=mo)(O:J7->WSt->Prop)(A:∀T:WSt,T.bg=mny R->T.u=[]->IB (wS T)->O (.hd<|Y8 R.tg<|R.tg.length-1) T):∀(n a b j k:Nat)(S:WSt)(D B:List Nat),R.tg.length*R.tg.length*R.ns.length<=(a*R.tg.length+b)*R.ns.length+j+n->a<R.tg.length->b<R.tg.length->j<R.ns.length->St5 R S k j a b D B->Cg true X (g2 R) mo (.st<|.want k) S O:=by
 intro n
 induction n with
 |zero=>
  intro a b j k S D B C G L U t;have:=EV (LK G L) U;omega
 |succ n ih=>
  intro a b j k S D B C G L U t
  by_cases z:j+1=R.ns.length
  .have e0:(a*R.tg.length+b+1)*R.ns.length=(a*R.tg.length+b)*R.ns.length+R.ns.length:=jN _ _
   have P:=K.t2
   by_cases zb:b+1=R.tg.length
   .refine Qq K E F O t G L z A (λh=>by omega) λ_ h N I J Z M=>ih _ _ _ _ N J Z ?_ h (by omega) K.n1 M
    rw[<-Qb zb,e0];omega
   .refine Qq K E F O t G L z A (λh N I J Z M=>ih _ _ _ _ N J Z ?_ G h K.n1 M) λh=>Zr h zb
    show _<=(a*R.tg.length+b+1)*R.ns.length+0+n;rw[e0];omega
  .exact vO K E F O t G L (by omega) λN I J Z M=>ih _ _ _ _ N J Z (by omega) G L (by omega) M
def Sz(R:CP):(S0 (Y8 R.ns 0)<|FG<|cpD R 0).s.2 0=some ⟨Y8 R.ns 0,[],rh2 R (.giv 0)<|.giv 1⟩:=by
 show BE _ _ 0=_;unfold BE stP;rw[Zp rfl]
 rfl
def Cd(K:CK1 R J):St5 R (S0 (Y8 R.ns 0)<|FG<|cpD R 0) 0 0 0 0 [] []:=by
 refine⟨⟨λx h=>(by cases h),λx h=>(by cases h),λx h=>(by cases h),λx h=>(by cases h),by show([]:List Nat).Nodup;simp,Y,Y,Y,λp h=>(by cases h),.nil,Zc _⟩,⟨.giv 0,.giv 1,Sz R,.giv<|by decide,.giv<|by decide⟩,ZG _,λh=>(by cases h),by simp,λx h=>(by cases h),λc h=>(by cases h),λq h=>?_,λe h=>(by cases h),?_,ZG _⟩
 .show BE _ _ q=none
  have Z:0<q:=h;unfold BE stP;rw[Zq (by omega)]
 .show 0+0+0=(0*_+0)*U2 R+0
  rw[Nat.zero_mul,Nat.zero_add,Nat.zero_mul]
structure AllB(R:CP)(SR:WSt):Prop where
 hl:SR.h.length=mny R
 nd:(SR.h.map (·.1)).Nodup
 dn:Oa SR
 cg:XW SR.s.1
 ln:SR.s.1.length<=1056
 bg:SR.bg=mny R
theorem EO(R:CP):∀k,J5 R k<=3*k
 |0=>ZG _
 |k+1=>by
  have h:=EO R k;have J:(R.l1 k).toNat<=1:=by cases R.l1 k <;> decide
  have Z:(R.l2 k).toNat<=1:=by cases R.l2 k <;> decide
  show J5 R k+1+_+_<=_;omega
def MZ(K:CK1 R Z):mny R<=352:=by
 have w:U2 R<=22:=by
  have:=EO R<|R.ns.length-1;have:=K.n8;unfold U2;omega
 exact qA (qA K.t4 K.t4) w
def zW{r:List (Nat×Option Nat)}{k:Nat}(h:k∈r.map (·.1)):∃o,r.lookup k=some o/\(k,o)∈r:=by
 induction r with
 |nil=>cases h
 |cons p r ih=>
  rw[jq]
  by_cases z:k=p.1
  .rw [z,beq_self_eq_true]
   exact⟨p.2,Y,Za⟩
  .rw [beq_eq_false_iff_ne.mpr z]
   rw[ZV]at h;rcases Zd.mp h with w|w
   .exact Zr w z
   .obtain ⟨o,h1,h2⟩:=ih w
    exact⟨o,h1,ZM _ h2⟩
def IV.dn(i:IV S)(h:S.bg<=900):Oa S:=⟨λk Z=>by
 obtain⟨o,e,m⟩:=zW<|i.hr k Z
 exact⟨i.hk k Z,o,e,λj J=>i.rw _ m j J⟩,by
 have G:=i.lu;omega⟩
def Q1(K:CK1 R T)(N:mo<=800)(O:mny R<=mo):Cg true T (g2 R) mo (.st<|.want 0) (S0 (Y8 R.ns 0)<|FG<|cpD R 0) λx Z=>x=.hd (Y8 R.tg<|R.tg.length-1)/\AllB R Z:=by
 have B:=K.t2;obtain⟨j,F,Z,h,e,b,L⟩:=vE K N O (λx Z=>x=.hd (Y8 R.tg<|R.tg.length-1)/\Z.bg=mny R/\IB (wS Z)) (λZ b _ i=>⟨rfl,b,i⟩) (R.tg.length*R.tg.length*R.ns.length) 0 0 0 0 _ _ _ (by omega) (by omega) (by omega) K.n1<|Cd K;subst e;obtain⟨J,M⟩:=Wlk.iv j _ _ h .S0;have D:=MZ K;have E:Z.s.1.length<=3*Z.bg:=L.ln;have G:=J.lu;rw[M _ rfl]at G;exact⟨j,_,Z,h,Y,G.trans b,J.nd,J.dn<|by omega,L.cg,by omega,b⟩
def yF(K:CK1 R M):Cg true M (g2 R) (mny R-1) (.st<|.want 0) (S0 (Y8 R.ns 0)<|FG<|cpD R 0) λx L=>x=.dry/\Oa L:=by
 obtain⟨j,B,L,h,e,N⟩:=Q1 (mo:=mny R) K (Zb (MZ K)<|by decide)<|ZG _;subst e;have O:=K.t2;have:=OL (R:=R) (a:=0) (b:=0) (j:=0) (by omega) (by omega) K.n1;obtain⟨J,Z,G,T⟩:=Wlk.cut (mo':=mny R-1) j _ _ h (Zc _) (by rw[N.bg];omega);exact⟨J,_,Z,G,Y,(Wlk.iv J _ _ G .S0).1.dn (by have:=MZ K;omega)⟩
abbrev ks9(R:CP):xq:=[(R.kd,.tags R.tg)]
structure CO(R:CP):Prop where
 n1:1<=R.ns.length
 n8:R.ns.length<=8
 t2:2<=R.tg.length
 t4:R.tg.length<=4
 wk:Wds 97 [R.kd,R.own,R.oth]
 wt:∃tgs r,Wds 65 tgs/\r<4/\R.tg=tgs.take (1+r)
 wn:Wds 97 R.ns
def sh9:Vc (ks9 R) R.kd=some (.tags R.tg):=by simp[Vc]
def OD(R:CP):(cps R).map (λx=>x.1.1)=R.ns:=by
 unfold cps;rw[jk];refine pO λi=>?_;rw[ZH];rcases jS i R.ns.length with h|h
 .rw [qc h]
  exact(Vr h).symm
 .rw [qF (by rw[js];exact h),qF h]
  rfl
def CO.nd(o:CO R):((cps R).map λx=>x.1.1).Nodup:=by rw[OD];exact o.wn.nd
def Mt{j:Nat}(h:j<R.ns.length):cpD R j∈cps R:=jW<|jH.mpr h
def yJ(o:CO R)(h:x∈cps R):Vq ((cps R).map (·.1)) x.1.1=some x.1.2:=LW (ds:=cps R) o.nd h
def CO.no(o:CO R):R.own≠R.oth:=λz=>by
 have Z:=o.wk.nd;simp[z]at Z
def CO.tn(o:CO R):R.tg.Nodup:=by
 obtain⟨Z,r,w,h,e⟩:=o.wt;rw[e];exact w.nd.sublist<|jR _ _
def Md{g:xf}{hd:Hds}(h:x∈R.tg):Kd (ks9 R) hd g R.kd (.tag x):=Kd.tag sh9 h
def IL{R:CP}{k:Nat}(h:k<R.tg.length):Y8 R.tg k∈R.tg:=ZJ<|Vr h
def Qu{g:xf}{hd:Hds}{x:Str}{c:Bool}(e:VF g (Sum.inr x)=some (.str R.kd)):Kd (ks9 R) hd g R.kd (hdB R x c):=by
 unfold hdB
 split
 .exact Kd.choose sh9 (Kd.name e) (by rw[ZA]) λb J=>by
   obtain⟨t,Z,rfl⟩:=ZW.mp J;exact Md Z
 .exact Kd.name e
def LQ{g:xf}{j:Nat}{L G:Bd}(o:CO R)(M:j<R.ns.length)(O:Kd (ks9 R) (Vq<|(cps R).map (·.1)) g R.kd L)(N:Kd (ks9 R) (Vq<|(cps R).map (·.1)) g R.kd G):Kd (ks9 R) (Vq<|(cps R).map (·.1)) g R.kd (.ask (Y8 R.ns j) [L,G]):=by
 refine Kd.ask (ps:=[(R.own,R.kd),(R.oth,R.kd)]) (yJ o<|Mt M) rfl λi a p Z J=>?_
 match i,Z,J with
 |0,Z,J=>cases Z;cases J;exact O
 |1,Z,J=>cases Z;cases J;exact N
 |i+2,Z,J=>simp at Z
def zg{j:Nat}(o:CO R)(N:j<R.ns.length):Kd (ks9 R) (Vq<|(cps R).map (·.1)) (kvP [(R.own,R.kd),(R.oth,R.kd)]) R.kd (cpB R j):=by
 have J:VF (kvP [(R.own,R.kd),(R.oth,R.kd)]) (Sum.inr R.own)=some (.str R.kd):=Va rfl;have L:VF (kvP [(R.own,R.kd),(R.oth,R.kd)]) (Sum.inr R.oth)=some (.str R.kd):=(Vf λq=>o.no<|Sum.inr.inj (show(Sum.inr R.own:Key)=Sum.inr R.oth from q)).trans<|Va rfl;have M:=o.t2;unfold cpB
 split
 .unfold laB
  refine Kd.choose sh9 (Kd.name L) (by rw[ZA,js]) λb G=>?_;obtain⟨k,Z,rfl⟩:=ZW.mp G;have Z:=jH.mp Z
  by_cases z:k+1=R.tg.length
  .simp only[Zp z]
   unfold upC;refine Kd.choose sh9 (Kd.name J) (by rw[ZA,js]) λb G=>?_;obtain⟨k,Z,rfl⟩:=ZW.mp G;have Z:=jH.mp Z
   by_cases z:k+1=R.tg.length
   .simp only[Zp z]
    exact Kd.name J
   .simp only[Zq z]
    exact LQ o o.n1 (Md<|IL<|by omega)<|Md<|IL<|by omega
  .simp only[Zq z]
   exact LQ o o.n1 (Kd.name J)<|Md<|IL<|by omega
 .exact LQ o (by omega) (Qu J) (Qu L)
theorem B9{n:Nat}(f:Nat->Bd)(Z:∀k,(f k).ok/\(f k).dep<=n):∀l:List Nat,Bd.oks (l.map f)/\Bd.deps (l.map f)<=n
 |[]=>by simp[Bd.oks,Bd.deps]
 |a::l=>by
  obtain⟨J,G⟩:=B9 f Z l;have h:=Z a;rw[ZV];unfold Bd.oks Bd.deps;exact⟨⟨h.1,J⟩,by omega⟩
def LZ{x:Str}{c:Bool}(o:CO R):(hdB R x c).ok/\(hdB R x c).dep<=2:=by
 have G:=o.t2;have J:=o.t4;obtain⟨Z,L⟩:=EA R.tg;unfold hdB
 split
 .refine ⟨?_,?_⟩
  .unfold Bd.ok
   exact⟨by simp[Bd.ok],by rw[ZA],⟨by omega,by omega⟩,Z⟩
  .unfold Bd.dep
   simp only[Bd.dep];omega
 .exact ⟨by simp[Bd.ok],by simp[Bd.dep]⟩
def ON{j:Nat}(o:CO R):(cpB R j).ok/\(cpB R j).dep<=5/\(cpB R j).size<=70:=by
 have L:=o.t2;have Z:=o.t4;unfold cpB
 split
 .have hu:(upC R).ok/\(upC R).dep<=3:=by
   obtain⟨J,g2⟩:=B9 (n:=2) (λk=>if k+1=R.tg.length then .name R.own else upB R k) (λk=>by
    show Bd.ok (if _ then _ else _)/\Bd.dep (if _ then _ else _)<=2
    split
    .exact ⟨by simp[Bd.ok],by simp[Bd.dep]⟩
    .unfold upB
     exact⟨by simp[Bd.ok,Bd.oks],by simp[Bd.dep,Bd.deps]⟩)<|List.range R.tg.length
   unfold upC;exists ?_
   .unfold Bd.ok
    exact⟨by simp[Bd.ok],by rw[ZA,js],⟨by omega,by omega⟩,J⟩
   .unfold Bd.dep
    simp only[Bd.dep];omega
  obtain⟨J,g2⟩:=B9 (n:=3) (λk=>if k+1=R.tg.length then upC R else loB R k) (λk=>by
   show Bd.ok (if _ then _ else _)/\Bd.dep (if _ then _ else _)<=3
   split
   .exact hu
   .unfold loB
    exact⟨by simp[Bd.ok,Bd.oks],by simp[Bd.dep,Bd.deps]⟩)<|List.range R.tg.length
  refine⟨?_,?_,(Qr Z).1⟩
  .unfold laB Bd.ok
   exact⟨by simp[Bd.ok],by rw[ZA,js],⟨by omega,by omega⟩,J⟩
  .unfold laB Bd.dep
   simp only[Bd.dep];omega
 .obtain ⟨h1,h2⟩:=LZ (x:=R.own) (c:=R.l1 j) o
  obtain⟨G,O⟩:=LZ (x:=R.oth) (c:=R.l2 j) o;have N:=Ef (R:=R) (x:=R.own) (c:=R.l1 j) Z;have M:=Ef (R:=R) (x:=R.oth) (c:=R.l2 j) Z;unfold psB;exact⟨by simp[Bd.ok,Bd.oks,h1,G],by simp only[Bd.dep,Bd.deps];omega,by simp only[Bd.size,Bd.sizes];omega⟩
def CO.k(o:CO R):CK1 R (cps R):=⟨o.n1,o.n8,o.t2,o.t4,o.tn,o.no,o.nd,λj h=>Mt h,λx h=>by
 obtain⟨j,_,rfl⟩:=ZW.mp h;exact(ON o).1⟩
def c9(R:CP):xr:=λ_=>1+R.tg.length
def CO.kk(o:CO R):KK 30 (c9 R) (λ_=>0) (ks9 R):=by
 rintro i y s h
 cases i with
 |zero=>
  cases h;exact⟨by have:=o.t2;omega,o.t4,Y,Y,o.tn⟩
 |succ i=>simp at h
def CO.kg(o:CO R):KG (ks9 R):=by
 obtain⟨Z,r,w,h,e⟩:=o.wt;have J:=o.wk;exists ⟨by simp,λy h=>J.len y ?_,λy h=>J.abc y ?_⟩,⟨Z,w,?_⟩
 .have:y=R.kd:=by simpa using h
  rw[this];exact Za
 .have:y=R.kd:=by simpa using h
  rw[this];exact Za
 .rintro i y ts hh
  cases i with
  |zero=>cases hh;exact⟨r,h,by rw[e];rfl⟩
  |succ i=>simp at hh
 .rintro i1 i2 y1 y2 a b h1 h2
  cases i1 with
  |zero=>cases h1
  |succ i=>simp at h1
def CO.hd(o:CO R):∀x∈cps R,QS ((ks9 R).map (·.1)) (c9 R) 50 x.1:=by
 have Z:=o.t4;intro x G;obtain⟨j,_,rfl⟩:=ZW.mp G
 have J:∀p∈ [(R.own,R.kd),(R.oth,R.kd)],p.2=R.kd/\p.1∈ [R.kd,R.own,R.oth]:=λp h=>by
  rcases Zd.mp h with h|h
  .subst h;exact⟨Y,by simp⟩
  .rw [ZQ]at h;subst h;exact⟨Y,by simp⟩
 exists by show 2<=3;decide,λp h=>?_,by show R.kd∈_;simp,by show[R.own,R.oth].Nodup;simp[o.no],λp h=>?_
 .rw [(J p h).1];simp
 .have m:=(J p h).2
  exact⟨(o.wk.len _ m).1,(o.wk.len _ m).2,o.wk.abc _ m⟩
 .show _<=50
  have:=qA (jF Z)<|jF Z;show _<=50;simp only[Vy,cpD,c9,ZV,j9,List.foldr_cons,List.foldr_nil,qg,List.foldl_nil];omega
def CO.rt(o:CO R):∀x∈cps R,K4.DRt (ks9 R) (cps R) x:=by
 have G:∀z Z,Vc (ks9 R) z=some (.tags Z)->1<=Z.length:=λz Z e=>(o.kk.at e).1;intro x L;obtain⟨j,J,rfl⟩:=ZW.mp L;have J:=jH.mp J;obtain⟨M,O,N⟩:=ON (j:=j) o;refine⟨⟨M,by show(cpB R j).dep<=_;omega,by show(cpB R j).size<=_;omega⟩,?_⟩;exact Kd.kdn o.kg G 13 _ _ _ (zg o J) (by show(cpB R j).dep<13;omega)
def Nu{Z J:xo}(h:c.1<Z.length):Tv (Z++ J) c=Tv Z c:=by
 unfold Tv;rw[jm,jm,vz h]
theorem yK:∀(n:Nat)(Z:List Mk1),Z.length=n->∀(k:Nat)(c:Mk1),Z[k]?=some c->c.1<=k->(VO Z)[k+1]?=some (Tv (VO Z) c)
 |0,Z,h,k,c,e,_=>by
  obtain rfl:=jf h;cases e
 |n+1,Z,h,k,c,e,l=>by
  have J:Z≠[]:=λz=>by rw[z]at h;cases h
  have M:=(jg J).symm;have G:Z.dropLast.length=n:=by rw[jr,h];rfl
  rw[M]at e |-;generalize Z.dropLast=ds at *;generalize Z.getLast J=x at *;have N:=JT ds;rw[JV]
  by_cases z:k<ds.length
  .rw [vz z]at e
   rw[vz (by omega),Nu (by omega)];exact yK n ds G k c e l
  .rw [vx (by omega)]at e
   have L:k-ds.length=0:=by
    have:=(ZF.mp e).1;simp at this;omega
   rw[L]at e;cases e;rw[vx (by omega),show k+1-(VO ds).length=0 by omega,Nu (by omega)]
   rfl
theorem RW:∀(n:Nat)(Z:List Mk1),Z.length=n->Z.Nodup->(∀(k:Nat)(c:Mk1),Z[k]?=some c->c.1<=k)->(VO Z).Nodup
 |0,Z,h,_,_=>by
  obtain rfl:=jf h;show[Dat.tup []].Nodup;simp
 |n+1,Z,h,nd,hl=>by
  have M:Z≠[]:=λz=>by rw[z]at h;cases h
  have Q:=(jg M).symm;have B:Z.dropLast.length=n:=by rw[jr,h];rfl
  rw[Q]at nd hl |-;generalize Z.dropLast=ds at *;generalize Z.getLast M=x at *;have y:=JT ds;have J:=ji.mp nd;have hd:∀(k:Nat)(c:Mk1),ds[k]?=some c->c.1<=k:=λk c e=>hl k c (by rw[vz (ZF.mp e).1];exact e);have ih:=RW n ds B J.1 hd;have g:x.1<=ds.length:=hl ds.length x (by rw[vx (ZG _),jx];rfl);rw[JV,ji];refine⟨ih,by simp,λa S b D=>?_⟩;rw[ZQ]at D;subst D;intro z;subst z;obtain⟨i,L⟩:=jn.mp S;have t:=(ZF.mp L).1
  cases i with
  |zero=>
   have:∀(m:Nat)(Z:List Mk1),Z.length=m->(VO Z)[0]?=some (.tup []):=λm=>by
    induction m with
    |zero=>intro Z h;obtain rfl:=jf h;rfl
    |succ m ih=>
     intro Z h;have M:Z≠[]:=λz=>by rw[z]at h;cases h
     rw[<-jg M,JV,vz (by rw[JT];omega)];exact ih _ (by rw[jr,h];rfl)
   rw[this _ ds rfl]at L;unfold Tv at L;simp at L
  |succ i=>
   have G:i<ds.length:=by omega
   have R:=ZD G;have I:=yK n ds B i ds[i] R<|hd i _ R;rw[L]at I;have A:=ZT I;unfold Tv at A;have P:=Dat.tup.inj A;have F:=List.cons.inj P;have X:=(List.cons.inj F.2).1;have O:x.1<(VO ds).length:=by omega
   have N:ds[i].1<(VO ds).length:=by have:=hd i _ R;omega
   have E:(VO ds)[x.1]=(VO ds)[ds[i].1]:=by
    have:=F.1;rw[jm,jm,ZD O,ZD N]at this;exact this
   have C:x.1=ds[i].1:=by
    have T:=jD.mp ih;rcases qY x.1 ds[i].1 with q|q|q
    .exact Zr E (T _ _ O N q)
    .exact q
    .exact Zr E.symm (T _ _ N O q)
   have U:x.2=ds[i].2:=by
    have:x.2.map Dat.int=ds[i].2.map Dat.int:=Dat.tup.inj X;exact(List.map_inj_right λi j z=>Dat.int.inj z).mp this
   exact J.2.2 ds[i] (pT G) x (by simp)<|Prod.ext C.symm U.symm
end L2
namespace L2
theorem NX{α:Type}{p q:α}(n:p≠q):∀(i j:Nat)(r Z:List α),List.replicate i p++ q::r=List.replicate j p++ q::Z->i=j/\r=Z
 |0,0,r,Z,h=>⟨rfl,by simpa using h⟩
 |0,j+1,r,Z,h=>by
  rw[jV]at h;exact Zr (List.cons.inj h).1.symm n
 |i+1,0,r,Z,h=>by
  rw[jV]at h;exact Zr (List.cons.inj h).1 n
 |i+1,j+1,r,Z,h=>by
  rw[jV,jV]at h;obtain⟨a,b⟩:=NX n i j r Z (List.cons.inj h).2;exact⟨by rw[a],b⟩
theorem NF{α β:Type}{Z:β->List α}(P:β->Prop)(n:∀a,P a->Z a≠[])(G:∀a b x y,P a->P b->Z a++ x=Z b++ y->a=b/\x=y):∀(u v:List β),(∀a∈u,P a)->(∀a∈v,P a)->u.flatMap Z=v.flatMap Z->u=v
 |[],[],_,_,_=>rfl
 |[],b::v,_,hv,h=>by
  rw[kD,jK]at h;exact Zr (List.append_eq_nil_iff.mp h.symm).1<|n b<|hv b Za
 |a::u,[],hu,_,h=>by
  rw[kD,jK]at h;exact Zr (List.append_eq_nil_iff.mp h).1<|n a<|hu a Za
 |a::u,b::v,hu,hv,h=>by
  rw[jK,jK]at h;obtain⟨M,L⟩:=G a b _ _ (hu a Za) (hv b Za) h;rw[M,NF P n G u v (λx J=>hu x<|ZM _ J) (λx J=>hv x<|ZM _ J) L]
def txs{α β:Type}(p q:α)(seg:β->List α)(ws:List β):List α:=List.replicate ws.length p++ p::q::ws.flatMap seg
def Og{α β:Type}{p q:α}{Z:β->List α}(J:p≠q)(P:β->Prop)(n:∀a,P a->Z a≠[])(G:∀a b x y,P a->P b->Z a++ x=Z b++ y->a=b/\x=y)(u v:List β)(M:∀a∈u,P a)(L:∀a∈v,P a)(h:txs p q Z u=txs p q Z v):u=v:=by
 unfold txs at h
 have e:∀(i:Nat)(r:List α),List.replicate i p++ p::r=List.replicate (i+1) p++ r:=λi r=>by
  rw[kZ,qx]
  rfl
 rw[e,e]at h;exact NF P n G u v M L (NX J _ _ _ _ h).2
def M4{α β:Type}{p q:α}{Z:β->List α}(J:List β)(w:β):txs p q Z (J++[w])=p::(txs p q Z J++ Z w):=by
 unfold txs;rw[ZL,vy,jV,List.flatMap_append,jK,kD,jL];simp
end L2
namespace L2
open PySem
mutual
def Dat.pd:Dat->PyData
 |.non=>.none
 |.bl b=>.bool b
 |.int i=>.int i
 |.str x=>.str x
 |.tup ds=>.tuple<|Dat.pds ds
 |.lst ds=>.list<|Dat.pds ds
def Dat.pds:List Dat->List PyData
 |[]=>[]
 |d::ds=>d.pd::Dat.pds ds
end
def nst(ws:List (pZ)):Dat:=ws.foldl (λd w=>.tup [d,Jr w])<|.tup []
def UK:nst (Z++[w])=.tup [nst Z,Jr w]:=by
 unfold nst;rw[qy]
 rfl
theorem Tp:∀(n:Nat)(Z:List Mk1),Z.length=n->(∀c∈Z,J4 c.2)->∀d∈VO Z,∃J,d=nst J/\J.length<=n/\∀w∈J,J4 w
 |0,Z,h,_,d,hd=>by
  obtain rfl:=jf h;have:d=.tup []:=ZQ.mp hd;exact⟨[],this,ZG _,λw h=>by cases h⟩
 |n+1,Z,h,ho,d,hd=>by
  have G:Z≠[]:=λz=>by rw[z]at h;cases h
  have O:=(jg G).symm;have M:Z.dropLast.length=n:=by rw[jr,h];rfl
  have ih:=Tp n Z.dropLast M λc N=>ho c<|ph _ N;have L:=ho _<|kE G;rw[O,JV]at hd;rcases ZX.mp hd with q|q
  .obtain ⟨J,e,l,o⟩:=ih d q
   exact⟨J,e,qW l,o⟩
  .rw [ZQ]at q
   have:∃J,(VO Z.dropLast).getD (Z.getLast G).1 (.tup [])=nst J/\J.length<=n/\∀w∈J,J4 w:=by
    rw[jm]
    cases e:(VO Z.dropLast)[(Z.getLast G).1]? with
    |none=>exact⟨[],Y,Zc _,λw h=>by cases h⟩
    |some x=>exact ih x<|ZJ e
   obtain⟨J,e,l,o⟩:=this;refine⟨J++[(Z.getLast G).2],?_,by rw[ZL,vy];omega,λw h=>?_⟩
   .rw [q,UK,<-e]
    rfl
   .rcases ZX.mp h with z|z
    .exact o w z
    .rw [ZQ]at z
     rw[z];exact L
abbrev toL(x:Str):List Nat:=x.cps.toList
def Ju(a b:Str):toL (a++ b)=toL a++ toL b:=by
 show(a.cps++ b.cps).toList=_;rw[Array.toList_append]
abbrev wyT(w:pZ):List Nat:=toL (Jr w).pd.shown
def dg(h:0<=i/\i<=(4:Int)):toL ((toString i:String):Str)=[48+i.toNat]:=by
 obtain⟨J,Z⟩:=h;have:i=0\/i=1\/i=2\/i=3\/i=4:=by omega
 rcases this with h|h|h|h|h <;> subst h <;> decide +kernel
def wy0:wyT []=[40,41]:=by
 unfold wyT Jr List.map Dat.pd Dat.pds PyData.shown PyData.shownAll
 decide +kernel
def wy1(h:0<=i/\i<=(4:Int)):wyT [i]=[40,48+i.toNat,44,41]:=by
 show toL (PyData.shown<|Dat.pd<|.tup [.int i])=_;unfold Dat.pd Dat.pds Dat.pds PyData.shown PyData.shownAll PyData.shownAll Dat.pd PyData.shown tupleText Str.join;rw[Ju,Ju,dg h]
 rfl
def wy2(h:0<=i/\i<=(4:Int))(g:0<=j/\j<=(4:Int)):wyT [i,j]=[40,48+i.toNat,44,32,48+j.toNat,41]:=by
 show toL (PyData.shown<|Dat.pd<|.tup [.int i,.int j])=_;unfold Dat.pd Dat.pds Dat.pds Dat.pds PyData.shown PyData.shownAll PyData.shownAll PyData.shownAll Dat.pd PyData.shown tupleText Str.join Str.join;rw[Ju,Ju,Ju,Ju,dg h,dg g]
 rfl
def sgT(w:pZ):List Nat:=44::32::(wyT w++[41])
def Oh(a b:Dat):toL (Dat.tup [a,b]).pd.shown=40::(toL a.pd.shown++ 44::32::(toL b.pd.shown++[41])):=by
 have e:(Dat.tup [a,b]).pd=.tuple [a.pd,b.pd]:=by simp only[Dat.pd,Dat.pds]
 rw[e];generalize a.pd=x;generalize b.pd=y;have Z:(PyData.tuple [x,y]).shown=tupleText [x.shown,y.shown]:=by simp only[PyData.shown,PyData.shownAll]
 rw[Z];generalize x.shown=u;generalize y.shown=v;unfold tupleText Str.join Str.join;rw[Ju,Ju,Ju,Ju];simp only[qx]
 rfl
theorem X4:∀(n:Nat)(Z:List (pZ)),Z.length=n->toL (nst Z).pd.shown=txs 40 41 sgT Z
 |0,Z,h=>by
  obtain rfl:=jf h;exact wy0
 |n+1,Z,h=>by
  have J:Z≠[]:=λz=>by rw[z]at h;cases h
  have L:=(jg J).symm;have G:Z.dropLast.length=n:=by rw[jr,h];rfl
  have ih:=X4 n Z.dropLast G;rw[L,M4,<-ih,UK,Oh]
  rfl
def Gh(o:J4 w):w=[]\/(∃i,w=[i]/\0<=i/\i<=(4:Int)) \/ ∃i j,w=[i,j]/\(0<=i/\i<=(4:Int))/\0<=j/\j<=(4:Int):=by
 obtain⟨l,o⟩:=o
 match w,l,o with
 |[],_,_=>exact .inl Y
 |[i],_,o=>exact .inr<|.inl ⟨i,rfl,o i<|by simp⟩
 |[i,j],_,o=>exact .inr<|.inr ⟨i,j,rfl,o i (by simp),o j<|by simp⟩
 |_::_::_::_,l,_=>simp at l
def Si(a b:pZ)(x y:List Nat)(N:J4 a)(M:J4 b)(h:sgT a++ x=sgT b++ y):a=b/\x=y:=by
 unfold sgT at h;rcases Gh N with rfl|⟨i,rfl,J⟩|⟨i,j,rfl,J,L⟩ <;> rcases Gh M with rfl|⟨k,rfl,Z⟩|⟨k,l,rfl,Z,G⟩
 .exact ⟨rfl,by simpa[wy0]using h⟩
 .rw [wy0,wy1 Z]at h
  simp at h
 .rw [wy0,wy2 Z G]at h
  simp at h
 .rw [wy0,wy1 J]at h
  simp at h
 .rw [wy1 J,wy1 Z]at h
  simp at h;exact⟨by rw[show i=k by omega],h.2⟩
 .rw [wy1 J,wy2 Z G]at h
  simp at h
 .rw [wy0,wy2 J L]at h
  simp at h
 .rw [wy1 Z,wy2 J L]at h
  simp at h
 .rw [wy2 J L,wy2 Z G]at h
  simp at h;exact⟨by rw[show i=k by omega,show j=l by omega],h.2.2⟩
def E8{u v:List (pZ)}(J:∀w∈u,J4 w)(Z:∀w∈v,J4 w)(h:(nst u).pd.shown=(nst v).pd.shown):u=v:=by
 have e:=congrArg toL h;rw[X4 _ u rfl,X4 _ v rfl]at e;exact Og (by decide) J4 (λa _=>by unfold sgT;simp) (λa b x y M L G=>Si a b x y M L G) u v J Z e
theorem Kc:∀w:pZ,Dat.pds (w.map Dat.int)=w.map PyData.int
 |[]=>by unfold List.map Dat.pds;rfl
 |i::w=>by rw[ZV,ZV];unfold Dat.pds;rw[Kc w];unfold Dat.pd;rfl
def N3(w:pZ):(Jr w).pd=.tuple (w.map .int):=by
 unfold Jr Dat.pd;rw[Kc]
theorem D6:∀w:pZ,PyData.depthAll (w.map PyData.int)=0
 |[]=>rfl
 |i::w=>by rw[ZV];unfold PyData.depthAll;rw[D6 w];rfl
theorem D4:∀w:pZ,(∀i∈w,0<=i/\i<=(4:Int))->PyData.showableAll (w.map PyData.int)=true
 |[],_=>rfl
 |i::w,h=>by
  rw[ZV];unfold PyData.showableAll;rw[D4 w λj Z=>h j (ZM _ Z)];have:=h i Za;have:i=0\/i=1\/i=2\/i=3\/i=4:=by omega
  rcases this with h|h|h|h|h <;> subst h <;> decide +kernel
theorem D5:∀w:pZ,PyData.hasDictAll (w.map PyData.int)=false
 |[]=>rfl
 |i::w=>by rw[ZV];unfold PyData.hasDictAll;rw[D5 w];rfl
theorem K9:∀(n:Nat)(Z:List (pZ)),Z.length=n->(∀w∈Z,J4 w)->(nst Z).pd.showable=true/\(nst Z).pd.hasDict=false/\(nst Z).pd.depth<=n+1/\(nst Z).pd.shown.length<=10*n+2
 |0,Z,h,_=>by
  obtain rfl:=jf h
  have e:(nst []).pd=.tuple []:=by
   unfold nst;show Dat.pd (.tup [])=_;unfold Dat.pd Dat.pds
   rfl
  rw[e];exact⟨Y,Y,ZG _,by decide +kernel⟩
 |n+1,Z,h,o=>by
  have J:Z≠[]:=λz=>by rw[z]at h;cases h
  have G:=(jg J).symm;have N:Z.dropLast.length=n:=by rw[jr,h];rfl
  obtain⟨E,D,A,B⟩:=K9 n Z.dropLast N λw R=>o w<|ph _ R;have M:=o _<|kE J
  have O:∀x:Str,x.length=(toL x).length:=λx=>by
   show x.cps.size=_;rw[qM]
  rw[O,X4 n _ N]at B
  have F:(wyT<|Z.getLast J).length<=6:=by
   rcases Gh M with e|⟨i,e,L⟩|⟨i,j,e,L,T⟩
   .rw [e,wy0];decide
   .rw [e,wy1 L];exact jy 4 2
   .rw [e,wy2 L T];exact ZG 6
  exists ?_,?_,?_
  .rw [G,UK]
   unfold Dat.pd Dat.pds Dat.pds Dat.pds;rw[N3];simp only[PyData.showable,PyData.showableAll,E,D4 _ M.2,Bool.and_true]
  .rw [G,UK]
   unfold Dat.pd Dat.pds Dat.pds Dat.pds;rw[N3];simp only[PyData.hasDict,PyData.hasDictAll,D,D5,Bool.or_false]
  .rw [G,UK]
   unfold Dat.pd Dat.pds Dat.pds Dat.pds;rw[N3];simp only[PyData.depth,PyData.depthAll,D6];omega
  .rw [O,X4 (n+1) Z h]
   rw[G,M4];have sl:(sgT<|Z.getLast J).length=(wyT<|Z.getLast J).length+3:=by unfold sgT;simp
   rw[Zf,ZL,sl];omega
mutual
theorem NH{X:Cx}{U:St}{H:Hp}{s:Shared}(I:Inv X J U H s):∀(d:Dat){v:V}{u:Value},d.ti=true->Has H v d->RelV v u->∃Z,Reads s.heap u d.pd Z
 |.non,v,u,_,h,r=>by
  unfold Has at h;subst h;cases r;unfold Dat.pd;exact⟨_,.none⟩
 |.bl b,v,u,_,h,r=>by
  unfold Has at h;subst h;cases r;unfold Dat.pd;exact⟨_,.bool _⟩
 |.int i,v,u,_,h,r=>by
  unfold Has at h;subst h;obtain⟨t,rfl⟩:=r;unfold Dat.pd;exact⟨_,.int _ _⟩
 |.str x,v,u,_,h,r=>by
  unfold Has at h;subst h;obtain⟨t,rfl⟩:=r;unfold Dat.pd;exact⟨_,.str _ _⟩
 |.lst ds,v,u,ti,h,r=>by
  unfold Dat.ti at ti;cases ti
 |.tup ds,v,u,ti,h,r=>by
  unfold Has at h;obtain⟨a,T,rfl,N,O⟩:=h;cases r;unfold Dat.ti at ti;obtain⟨M,G,⟨o,g,c,n,R⟩,_⟩:=I.tuple<|Z2 N;obtain⟨Z,L⟩:=RE I ds ti O G;unfold Dat.pd;exact⟨Z,.tuple g c R L⟩
theorem RE{X:Cx}{U:St}{H:Hp}{s:Shared}(I:Inv X L U H s):∀(J:xo){Z:xg}{G:pW},Dat.tis J=true->HasL H Z J->Vals Z G->∃M,ReadsAll s.heap G (Dat.pds J) M
 |[],Z,G,_,h,r=>by
  cases Z with
  |cons x Z=>unfold HasL at h;exact h.elim
  |nil=>
   cases r;unfold Dat.pds;exact⟨_,.nil⟩
 |d::J,Z,G,ti,h,r=>by
  cases Z with
  |nil=>unfold HasL at h;exact h.elim
  |cons x Z=>
   unfold HasL at h
   cases r with
   |cons T R=>
    unfold Dat.tis at ti;rw[ZZ]at ti;obtain⟨M,O⟩:=NH I d ti.1 h.1 T;obtain⟨B,N⟩:=RE I J ti.2 h.2 R;unfold Dat.pds;exact⟨_,.cons O N⟩
end
def Qg(k:Nat):List V->Hp->VK->Prop:=λJ H Q=>∃a Z,J=[.ref a]/\Has H (.ref a) (nst Z)/\(nst Z).ti=true/\(∀w∈Z,J4 w)/\Z.length<=16*k+190/\Q (.str (nst Z).pd.shown) H
def Fi{X:Cx}(G:Vn k X.A)(y:k<=900):J1 X (.builtin "repr") (Qg k):=by
 intro J s U H D E Q I r h;obtain⟨a,L,rfl,B,M,o,l,q⟩:=h;obtain⟨u,rfl,Z⟩:=vals1 r;obtain⟨m,N⟩:=NH I _ M B Z;cases Z;obtain⟨R,O,P,C⟩:=K9 _ L rfl o;have F:=G.un;have j:sizeLine=16777216:=pJ;refine repr_of_reads' N R (λz=>by rw[O]at z;cases z) G.gd (by omega) (λ_ _ e=>e) (λt A S T=>?_) (by omega);exact⟨.str _,H,I.kept T,⟨_,Y⟩,q⟩
def Dt(h:k<=cs.length):(VO cs)[k]?=some (bD cs k):=by
 have:=JT cs;unfold bD;rw[jm,ZD (show k<(VO cs).length by omega)]
 rfl
def Ds(o:XW cs)(h:k<=cs.length):∃Z,bD cs k=nst Z/\Z.length<=cs.length/\∀w∈Z,J4 w:=Tp _ cs rfl o.sm _ (ZJ<|Dt h)
def A3(o:XW cs)(h:k<=cs.length)(g:j<=cs.length)(e:bD cs k=bD cs j):k=j:=by
 have J:=RW _ cs rfl o.nd o.le;have G:=JT cs;have Z:=Dt h;rw[e,<-Dt g]at Z;exact(List.getElem?_inj (by omega) J).mp Z
abbrev bT(cs:List Mk1)(k:Nat):Str:=(bD cs k).pd.shown
def yL(Z:AllB R SR):((SR.h.map λp=>(Sum.inr (bT SR.s.1 p.1):Key))).Nodup:=by
 have J:=Z.nd;unfold List.Nodup at J |-;rw[qX]at J |-;refine J.imp_of_mem λ{a b} F E D e=>?_;have L:=(Z.dn.ok a.1<|jW F).1;have G:=(Z.dn.ok b.1<|jW E).1;obtain⟨u,N,_,B⟩:=Ds Z.cg L;obtain⟨v,M,_,T⟩:=Ds Z.cg G;have O:(bD SR.s.1 a.1).pd.shown=(bD SR.s.1 b.1).pd.shown:=Sum.inr.inj e;rw[N,M]at O;exact D<|A3 Z.cg L G<|by rw[N,M,E8 B T O]
def Pu(Z:List (pZ)):∃J,nst Z=.tup J:=by
 by_cases n0:Z=[]
 .rw [n0]
  exact⟨[],Y⟩
 .rw [<-jg n0,UK]
  exact⟨_,Y⟩
theorem Ec:∀w:pZ,Dat.tis (w.map Dat.int)=true
 |[]=>by simp[Dat.tis]
 |i::w=>by rw[ZV];unfold Dat.tis;rw[Ec w];simp[Dat.ti]
theorem K8:∀(n:Nat)(Z:List (pZ)),Z.length=n->(nst Z).ti=true
 |0,Z,h=>by
  obtain rfl:=jf h;show(Dat.tup []).ti=true;simp[Dat.ti,Dat.tis]
 |n+1,Z,h=>by
  have J:Z≠[]:=λz=>by rw[z]at h;cases h
  have G:Z.dropLast.length=n:=by rw[jr,h];rfl
  rw[<-jg J,UK];unfold Jr;simp[Dat.ti,Dat.tis,K8 n _ G,Ec]
theorem D8{α:Type}{t:α->Str}{d:α->Dat}:∀{L:List α}{J:xg},HasL H J (L.map λu=>.tup [.str (t u),d u])->∃(G:xa)(Z:xf),J=G.map V.ref/\Rc K H G Z/\Z.map (·.1)=L.map (λu=>Sum.inr<|t u)
 |[],J,h=>by
  obtain rfl:=VB h;exact⟨[],[],Y,⟨Y,λi a k y e=>by simp at e⟩,Y⟩
 |u::L,J,h=>by
  rw[ZV]at h;obtain⟨x,E,rfl,C,U⟩:=Yc h;obtain⟨a,Q,rfl,S,I⟩:=Yr C;obtain⟨j,q,rfl,X,N⟩:=Yc I;obtain⟨T,z,rfl,m,M⟩:=Yc N;obtain rfl:=VB M;obtain rfl:=has_str X;obtain⟨G,Z,rfl,⟨A,F⟩,P⟩:=D8 (K:=K) U;refine⟨a::G,(Sum.inr<|t u,T)::Z,rfl,⟨by simp[A],λi b k y D B=>?_⟩,by rw[ZV,ZV,P]⟩
  cases i with
  |zero=>
   have R:some a=some b:=D;have O:some ((Sum.inr (t u):Key),T)=some (k,y):=B;cases R;cases O;exact Z2 S
  |succ i=>exact F i b k y D B
theorem EQ{R Z:CP}:∀{i:Nat},(∀j,j<i->R.l1 j=Z.l1 j/\R.l2 j=Z.l2 j)->J5 R i=J5 Z i
 |0,_=>rfl
 |i+1,h=>by
  show J5 R i+1+_+_=J5 Z i+1+_+_;rw[EQ λj J=>h j<|by omega,(h i<|by omega).1,(h i<|by omega).2]
abbrev hd9(R:CP)(k:Nat):Str×List (Str×Str)×Str:=(Y8 R.ns k,[(R.own,R.kd),(R.oth,R.kd)],R.kd)
abbrev pD9(R:CP)(k:Nat):Dat:=WH (hd9 R k,psB R k)
def AD{G J:pX}{L own Z:Str}{O N M g2:Nat->Bool}(T:O k=M k)(R:N k=g2 k):pD9 ⟨G,J,L,own,Z,O,N⟩ k=pD9 ⟨G,J,L,own,Z,M,g2⟩ k:=by
 unfold pD9 psB;dsimp only;rw[T,R]
 rfl
def yI(h:1<=R.ns.length):(cps R).map WH=(List.range<|R.ns.length-1).map (pD9 R)++[WH (hd9 R<|R.ns.length-1,laB R)]:=by
 unfold cps
 rw[show List.range R.ns.length=List.range (R.ns.length-1)++[R.ns.length-1] by
  rw[<-jQ]
  congr 1
  omega,ZK,ZK,jk]
 congr 1
 .refine qd λk Z=>?_
  have:=jH.mp Z;show WH (hd9 R k,cpB R k)=_;unfold cpB;rw[Zq (by omega)]
 .rw [jP,jP]
  show[WH (hd9 R _,cpB R _)]=_;unfold cpB;rw[Zp (by omega)]
def Es(Z:pZ)(m:Nat):Uq (Z.map V.int) none (some (m:Int))=(Z.take m).map V.int:=by
 unfold Uq;rw[HT.sIx_none,HT.sIx_nat,List.drop_zero,Nat.sub_zero,ZA,qJ];rcases Nat.le_total m Z.length with h|h
 .rw [jE h]
 .rw [Nat.min_eq_right h,Zg (by rw[ZA];exact ZG _),Zg (by rw[ZA];exact h)]
def QM(Z:pZ)(m:Nat)(G:pY):∃J:pZ,Uq (Z.map V.int) (some (m:Int)) G=J.map V.int/\J.length<=Z.length-m:=by
 unfold Uq;refine⟨_,by rw[<-List.map_drop,<-qJ],?_⟩;rw[ZN,qG,ZA,HT.sIx_nat];refine Zb (Nat.min_le_right _ _) ?_;rcases Nat.le_total m Z.length with h|h
 .rw [jE h]
  exact ZG _
 .rw [Nat.min_eq_right h,jx]
  exact Zc _
theorem RM:∀Z:pZ,HasL H (Z.map V.int)<|Z.map Dat.int
 |[]=>Z6
 |w::Z=>Z4 (by unfold Has;rfl)<|RM Z
theorem NZ:∀Z:pZ,Dat.deps (Z.map Dat.int)<=1
 |[]=>by simp[Dat.deps]
 |w::Z=>by
  rw[ZV];unfold Dat.deps;have:=NZ Z;simp only[Dat.dep];omega
end L2
namespace K4
open PySem L2
section
def O4:Yh ["script","many","found","k","cell"] ["script","many"] (Yd Ma):=Y2
inductive SFo(K:W.Frag)(H:Hp)(Q:VK):List V->Prop
 |mk (a:Addr) (ns:List Int) (m:Nat) (m1:1<=m) (m2:m<=60) (hS:SqL K H a (ns.map V.int)) (hl:ns.length<=63)
  (q:∀(p:Addr)(ms:List Int)(H':Hp),Same H H'->H p=none->H' p=some (.lst (ms.map V.int))->1<=ms.length->ms.length<=m->Q (.ref p) H'):SFo K H Q [.ref a,.int (m:Nat)]
def Sb(K:W.Frag):Sp:=λZ H Q _=>SFo K H Q Z
def zD(B:Blt v)(me:v "enumerate"=none)(F:Fun K "_law_folded" "_law_folded" Ma f fd):Ye P w K v base CX0 (n+4) f fd ["script","many"] (Sb K):=by
 refine F.oi O4 λJ2 A S s H vs Q E hr h=>?_;obtain⟨a,N,m,m1,m2,hS,hl,q⟩:=h;refine⟨_,YY (Y0 2 O4.nd<|VW Ur rfl B.list Jt (pa1<|Vs XM (pv 0) JM<|V6<|pv 1))
  (YY (JC Zv rfl (Xz rfl me (pa1<|Vs XM (pv 0) (V6<|pv 1)<|V6 Ya)) (VU (n:=2) rfl (Yk (Yl 3 O4.nd)<|Yk (Yl 4 O4.nd) VJ))
   (YZ<|Jh (Y9 Vp (Ym Y7 (pv 2) (Y9 JQ (pv 3)<|pv 1) λ_ _=>rfl)<|pv 4)<|MT (pv 2) (Y9 JQ (pv 3)<|pv 1) set_list))
  (YY (Y4 (Ys (B0 hr) (pv 2) (V4 Vj)<|Yz _) (YZ<|VR<|UI Zz Z0 Z1 Ve (pv 2)<|pa1<|Ya) Yo)
  (YZ<|Yj<|pv 2))),?_⟩
 dsimp only[Vb,Cx.nox,Cx.wish];show let T0:=_;let T1:=_;let T2:=Yn (VH _ T1 _) T0;let T3:=_;let T4:=Yn (U1 _ _ T3) T2;Yn _ T4 _ _ _
 intros
 refine⟨_,Y,a,_,Y,hS,λl1 h1=>?_⟩;rw[Es];refine up_in h1 _ λH1 M g1=>⟨l1,_,Y,.inl<|Z3 g1,λJ R=>?_⟩;refine up_in R _ λH2 u g2=>⟨_,Y,63,Y,a,_,Y,u.seq<|M.seq hS,λl h3=>?_⟩;obtain⟨zs,ez,lz⟩:=QM N m<|some 63;rw[ez];refine up_in h3 _ λH3 d g3=>⟨l,false,_,Y,Z3 g3,?_⟩;have C:l≠J:=(Yb g2 h3).symm;have g:=d _ _ g2;have X:(N.take m).length=min m N.length:=ZN
 let I:xi:=λi U p=>SameB J H3 p/\∃(Z:pZ)(D T:xm),U=[some (.ref a),some<|.int (m:Nat),some<|.ref J,D,T]/\Z.length=min m N.length/\p J=some (.lst<|Z.map V.int)
 refine Mq (tp:=false) (xs:=zs.map V.int) I ⟨λ_ _ _ e=>e,N.take m,_,_,Y,X,g⟩ (λi U p _ z=>Z3<|z.1 _ _ C g3) ?_ ?_
 .rintro BB RR i x U H4 r hx ⟨b4,Z,D,T,rfl,lm,g4⟩ hr'
  rw[ZH]at hx;obtain⟨ce,j,rfl⟩:=Zj.mp hx;have iz:=(ZF.mp j).1;have ml:Z.length=m:=by omega
  refine up_in hr' _ λH5 G t=>?_;have O:=G _ _ g4;have im:i % m<Z.length:=by rw[ml];exact kJ _<|by omega
  have em:((i:Nat):Int) % ((m:Nat):Int)=((i % m:Nat):Int):=(Int.natCast_emod i m).symm;exists _,Z2 t,Y;exists by omega,_,V.int<|Z[i % m]'im,Z3 O,by rw[em];exact VE (by rw[ZH,ZD im];rfl),by omega,J,_,_,i % m,rfl,rfl,O,?_
  .rw [em]
   unfold ixN;rw[Zp (by omega),Zp (by rw[ZA];omega),qr]
  .refine fld_in J _ λH6 k y=>⟨λb o n e=>k _ _ n<|G _ _<|b4 _ _ n e,Z.set (i % m)<|Z[i % m]'im+ce,_,_,rfl,by rw[List.length_set];exact lm,?_⟩
   rw[y,List.map_set]
 .rintro U H4 ⟨b4,Z,D,T,rfl,lm,g4⟩
  have L:∀{b o},H b=some o->H4 b=some o:=λe=>b4 _ _ (Yb (M _ _ e) R)<|d _ _<|u _ _<|M _ _ e;have f2:H J=none:=M.free R;refine⟨sl 0,λe he=>?_⟩;refine up_in he _ λH5 G t=>⟨.lst<|Z.map Dat.int,.lst [],?_,?_,?_,_,rfl,?_⟩
  .unfold Has
   exact⟨J,_,Y,G _ _ g4,RM _⟩
  .unfold Has
   exact⟨e,_,Y,t,Z6⟩
  .have:=NZ Z
   simp only[Dat.dep];omega
  rw[S8]
  cases Z with
  |nil=>
   refine VI Y ⟨.inl ⟨Y,_,Z3<|G _ _ g4⟩,J,_,_,rfl,rfl,G _ _ g4,Yx (by simp),?_⟩;refine fld_in J _ λH6 k y=>?_;exact q J [0] H6 (λb o e=>k _ _ (Yb (M _ _ e) R)<|G _ _<|L e) f2 y (by simp)<|by simpa using m1
  |cons c Z=>
   refine Y1 (by simp) ?_;exact q J (c::Z) H5 (λb o e=>G _ _<|L e) f2 (G _ _ g4) (by simp)<|by omega
end
end K4
namespace L2
open PySem PySem.Spec PyProof.Rows
def vd(K:W.Frag)(n:Nat)(t:TGs):TG:=λv U H Q=>JA v λa=>∃Z,SqL K H a Z/\Z.length=n/\t Z U H Q
def AB(F:X.calm=true)(h:PGs X M t)(D:(assignEach M X.env).length=n:=by rfl)(L:(assignEach M X.env).findIdx? (·.1)=none:=by rfl):PG X (.Tuple M k pos) (vd X.K n t):=by
 intro Z s U H v u Q I r J;replace J:=JA.old J;obtain⟨a,C,O,B,E,J⟩:=J;subst C;cases r;obtain⟨G,N,T,j⟩:=I.list B;rw[assign_Tuple];refine Zl<|jZ ?_;unfold unpack;have S:n=G.toArray.size:=by rw[ZO,<-E,N.length]
 rw[D,L,S];refine Zl<|wpAny_holding<|W.kun_itemsOf (I.ok.hd F) T.isList λA R=>?_;have P:Inv X Z U H {s with heap:=A}:=I.kept (t':=s.toks) λb o e=>R b o (Ze<|ZP e) e;exact h Z _ U H O _ Q P (by simpa using N) J
end L2
namespace L2
open PySem
theorem WT:∀Z:pX,HasL H (Z.map V.str)<|Z.map Dat.str
 |[]=>Z6
 |w::Z=>Z4 (by unfold Has;rfl)<|WT Z
def Uu{Z:pX}{k:Nat}{x:Str}(h:Z[k]?=some x):atI (Z.map V.str) (k:Int)=some (.str x):=VE (by rw[ZH,h];rfl)
def Wp(h:H a=some (.tup [.str "name",.str x])):Has H (.ref a) (Bd.name x).dat:=by
 unfold Bd.dat;exact Yu h<|Z4 Yy<|Z5 Yy
def Mv(h:H c=some (.tup [.str "choose",v,.ref b]))(M:Has H v d.dat)(L:H b=some (.tup Z))(G:HasL H Z (Bd.brs N J)):Has H (.ref c) (Bd.choose d J N).dat:=by
 conv=>arg 3;unfold Bd.dat
 exact Yu h<|Z4 Yy<|Z4 M<|Z5<|Yu L G
def Dg(x:Dd):(WH x).ti=true:=by
 have:∀l:List (Str×Str),Dat.tis (l.map λp=>Dat.tup [.str p.1,.str p.2])=true:=λl=>by
  induction l with
  |nil=>simp[Dat.tis]
  |cons a l ih=>rw[ZV];unfold Dat.tis;rw[ih];simp[Dat.ti,Dat.tis]
 simp[WH,Dat.ti,Dat.tis,this,Bd.ti]
theorem Mx{α:Type}(f:α->Bd)(g:α->Str):∀l:List α,Bd.brs (l.map f) (l.map g)=l.map λx=>.tup [.str (g x),(f x).dat]
 |[]=>by unfold List.map Bd.brs;rfl
 |a::l=>by rw[ZV,ZV];unfold Bd.brs;rw[Mx f g l];rfl
def IK(Z:pX):(List.range Z.length).map (Y8 Z)=Z:=by
 refine pO λi=>?_;rw[ZH];rcases jS i Z.length with h|h
 .rw [qc h]
  exact(Vr h).symm
 .rw [qF (by rw[js];exact h),qF h]
  rfl
def Ey(f:Nat->Bd)(Z:pX):Bd.brs ((List.range Z.length).map f) Z=(List.range Z.length).map λi=>.tup [.str (Y8 Z i),(f i).dat]:=by
 have:=Mx f (Y8 Z)<|List.range Z.length
 rwa [IK]at this
def OI(Z:pX):Bd.brs (Z.map Bd.tag) Z=Z.map λt=>.tup [.str t,.tup [.str "tag",.str t]]:=by
 have:=Mx Bd.tag id Z;rw[List.map_id]at this;rw[this];refine qd λt _=>?_;unfold Bd.dat
 rfl
def EB(h:H c=some (.tup [.str "tag",.str x])):Has H (.ref c) (.tup [.str "tag",.str x]):=Yu h<|Z4 Yy<|Z5 Yy
def Tq(h:H c=some (.tup [.str "ask",.str f,.ref b]))(G:H b=some (.tup [v,u]))(J:Has H v d.dat)(Z:Has H u e.dat):Has H (.ref c) (Bd.ask f [d,e]).dat:=by
 conv=>arg 3;unfold Bd.dat
 refine Yu h<|Z4 Yy<|Z4 Yy<|Z5<|Yu G ?_;unfold Bd.dats;refine Z4 J ?_;unfold Bd.dats;refine Z4 Z ?_;unfold Bd.dats;exact Z6
def Rn(h:H c=some (.tup [.str "tag",.str x])):Has H (.ref c) (Bd.tag x).dat:=by
 unfold Bd.dat;exact EB h
def Wr{l:pX}(h:1<=l.length):l.map V.str=l.dropLast.map V.str++[.str (Y8 l<|l.length-1)]:=by
 have Z:l≠[]:=λz=>by rw[z]at h;cases h
 have e:=(jg Z).symm;have J:=Vr (l:=l) (j:=l.length-1) (by omega);rw[<-List.getLast?_eq_getElem?,List.getLast?_eq_getLast Z]at J
 conv=>lhs;rw[e]
 rw[ZK,ZT J]
 rfl
end L2
namespace K4
open PySem L2
section
variable{C CK:Addr}
def AX:List.Nodup [("tag":Str)]:=by decide +kernel
abbrev kpp:pX:=["stream","own","tags"]
def yx:Yh kpp kpp (Yd LN):=Y2
inductive SKp(H:Hp)(Q:VK):List V->Prop
 |mk (p tl:Addr) (x:Str) (R:CP) (st:J0 H p) (ne:tl≠p) (htl:H tl=some (.lst (R.tg.map V.str))) (t4:R.tg.length<=4) (q:∀t u c H',SameB p H H'->J0 H' p->H' t=some (.tup [u,.int ((c:Bool).toNat:Nat)])->Has H' u (hdB R x c).dat->Q (.ref t) H'):SKp H Q [.ref p,.str x,.ref tl]
def SZ:Sp:=λZ H Q _=>SKp H Q Z
def AM(B:Blt v)(F:Fun K "_law_kept" "_law_kept" LN f fd)(DT:Df P w K v base n "_law_take" ["stream","many"] Rx):Ye P w K v base CX0 (n+1) f fd kpp SZ:=by
 refine F.oi yx λJ2 A X s H u Q E hr h=>?_;obtain⟨p,tl,x,R,st,o,z,t4,q⟩:=h;refine⟨_,YY (Y4 (Ys Vi (Vh DT hr<|pa2 (pv 0)<|Ya) Ya<|Yz _) (YZ<|Yj<|Yi<|pa2 (Yi<|pa2 (Yp)<|pv 1)<|Ya) Yo)
  (YZ<|Yj<|Yi<|pa2 (Yi<|pa3 (Yp) (Yi<|pa2 (Yp)<|pv 1)<|VW V3 rfl B.tuple Vm (pa1<|JO ["tag"] [] (UQ<|pv 2) (V7 (i:=0)<|by decide) (λcl C fp s H=>Yl 0 AX rfl (Or.inl rfl) (Or.inr rfl)) λcl C fp s H=>Yi<|pa2 (pv 0)<|Yi<|pa2 (Yp)<|pv 0))<|Ya),?_⟩
 dsimp only[Vb,Cx.nox,Cx.wish];show let T0:=_;let T1:=_;Yn (VH _ T1 _) T0 _ _ _
 intros
 refine⟨p,3,Y,st,by decide,by decide,λr H2 r0 r2 k M=>⟨Y,_,Y,zi (λe=>?_) λe=>?_⟩⟩
 .refine ⟨sl 2,λa T=>?_⟩
  refine up_in T _ λb Z I=>⟨sl 2,λc O=>?_⟩;refine up_in O _ λHc G g=>q c _ false _ (k.sb.trans (Z.trans G).sb) (M.sm<|Z.trans G) g ?_;unfold hdB;rw[Zq (by decide)];exact Wp<|G _ _ I
 .have htl2:=k.sb _ _ o z
  refine⟨sl 2,λa T=>?_⟩;refine up_in T _ λb Z I=>?_;have J:=Z _ _ htl2;exists ⟨_,Z3 J⟩;refine WL (us:=R.tg) (D:=Dat.str) (F:=λt=>.tup [.str t,.tup [.str "tag",.str t]]) (λH' s=>itl<|Z3<|s _ _ J) (WT _) (by omega) (λt y H7 Rr m S hy hR=>?_) λu l H7 fl S hl j=>?_
  .obtain rfl:=has_str hy
   refine⟨sl 2,λa T=>?_⟩;refine up_in T _ λb Z I=>⟨sl 2,λc O=>?_⟩;refine up_in O _ λHc G g=>hR _ _ (Z.trans G) ?_;exact Yu g<|Z4 Yy<|Z5<|EB<|G _ _ I
  .refine ⟨l,u,rfl,.inl ⟨Z3 hl,λt ht=>?_⟩⟩
   refine up_in ht _ λH4 U g4=>⟨sl 3,λc O=>?_⟩;refine up_in O _ λH5 N g5=>⟨sl 2,λd hd=>?_⟩;refine up_in hd _ λH6 L g6=>q d _ true _ (k.sb.trans (Z.trans<|S.trans<|U.trans<|N.trans L).sb) (M.sm<|Z.trans<|S.trans<|U.trans<|N.trans L) g6 ?_;unfold hdB;rw[Zp rfl];refine Mv (L _ _ g5) (Wp<|L _ _<|N _ _<|U _ _<|S _ _ I) (L _ _<|N _ _ g4) ?_;rw[OI];exact j.mono<|U.trans<|N.trans L
abbrev ctp:pX:=["f","own","other","tags"]
def O5:Yh ["f","own","other","tags","lower","upper","k"] ctp (Yd DJ):=Y2
inductive SCt(H:Hp)(Q:VK):List V->Prop
 |mk (tl:Addr) (R:CP) (htl:H tl=some (.lst (R.tg.map V.str))) (t2:2<=R.tg.length) (t4:R.tg.length<=4) (q:∀u H',Same H H'->Has H' u (laB R).dat->Q u H'):SCt H Q [.str (Y8 R.ns 0),.str R.own,.str R.oth,.ref tl]
def Se:Sp:=λZ H Q _=>SCt H Q Z
def loF(R:CP)(k:Nat):Dat:=.tup [.str (Y8 R.tg k),(loB R k).dat]
def upF(R:CP)(k:Nat):Dat:=.tup [.str (Y8 R.tg k),(upB R k).dat]
def zF(B:Blt mg)(F:Fun K "_law_counting" "_law_counting" DJ f fd):Ye P w K mg base CX0 (n+1) f fd ctp Se:=by
 refine F.oi O5 λI1 A D0 s H vs Q E hr h=>?_;obtain⟨tl,R,x,t2,t4,q⟩:=h;refine⟨_,YY (Y0 4 O5.nd<|V4<|Vj)
  (YY (Y0 5 O5.nd<|V4<|Vj)
  (YY (JC Zv rfl (UA rfl B.range (pa1<|Y9 MV (VD Y6 rfl B.len Zu (pa1<|pv 3))<|Ya)) (Yl 6 O5.nd)
   (YY (VR<|UI Zz Z0 Z1 Ve (pv 4)<|pa1<|Yi<|pa2 (Ym Y7 (pv 3) (pv 6) λ_ _=>rfl)<|Yi<|pa3 (Yp) (pv 0)<|Yi<|pa2 (Yi<|pa2 (Yp)<|pv 1)<|Yi<|pa2 (Yp)<|Ym Y7 (pv 3) (Y9 Vp (pv 6)<|Ya) λ_ _=>rfl)
  (YZ<|VR<|UI Zz Z0 Z1 Ve (pv 5)<|pa1<|Yi<|pa2 (Ym Y7 (pv 3) (pv 6) λ_ _=>rfl)<|Yi<|pa3 (Yp) (pv 0)<|Yi<|pa2 (Yi<|pa2 (Yp)<|Ym Y7 (pv 3) (Y9 Vp (pv 6)<|Ya) λ_ _=>rfl)<|Yi<|pa2 (Yp)<|Ym Y7 (pv 3)<|Ya)))
  (YY (VR<|UI Zz Z0 Z1 Ve (pv 5)<|pa1<|Yi<|pa2 (Ym Y7 (pv 3)<|X0 Ue Ya)<|Yi<|pa2 (Yp)<|pv 1)
  (YY (VR<|UI Zz Z0 Z1 Ve (pv 4)<|pa1<|Yi<|pa2 (Ym Y7 (pv 3)<|X0 Ue Ya)<|Yi<|pa3 (Yp) (Yi<|pa2 (Yp)<|pv 1)<|VW V3 rfl B.tuple Vm (pa1<|pv 5))
  (YZ<|Yj<|Yi<|pa3 (Yp) (Yi<|pa2 (Yp)<|pv 2)<|VW V3 rfl B.tuple Vm (pa1<|pv 4)))))),?_⟩
 show let T0:=_;let T1:=Yn _ T0;let T2:=Yn _ T1;let T3:=_;let T4:=Yn _ T3;let T5:=Yn (U1 _ _ T4) T2;let T6:=Yn _ T5;Yn _ T6 _ _ _
 intros
 try dsimp only[Vb,Cx.nox,Cx.wish]
 refine⟨sl 0,λO h4=>?_⟩;refine up_in h4 _ λH1 s1 g1=>⟨sl 0,λN h5=>?_⟩;refine up_in h5 _ λH2 s2 g2=>?_;have d:O≠N:=Yb g1 h5;have g4:=s2 _ _ g1;have X:=s2 _ _<|s1 _ _ x;have c:tl≠O:=Yb x h4;have p:tl≠N:=Yb (s1 _ _ x) h5
 have Z:∀(l:List Nat)(f:Nat->Bd),Dat.tis (l.map λk=>.tup [.str (Y8 R.tg k),(f k).dat])=true:=λl f=>by
  induction l with
  |nil=>simp[Dat.tis]
  |cons a l ih=>rw[ZV];unfold Dat.tis;rw[ih];simp[Dat.ti,Dat.tis,Bd.ti]
 have T9:atI (R.tg.map V.str) 0=some (.str<|Y8 R.tg 0):=Uu (k:=0)<|Vr<|by omega
 let I:xi:=λi U H'=>(∀b o,b≠O->b≠N->H2 b=some o->H' b=some o)/\∃(vl vu:xg)(x6:xm),U=[some (.str<|Y8 R.ns 0),some<|.str R.own,some<|.str R.oth,some<|.ref tl,some<|.ref O,some<|.ref N,x6]/\vl.length=i/\vu.length=i/\H' O=some (.lst vl)/\H' N=some (.lst vu)/\HasL H' vl ((List.range i).map<|loF R)/\HasL H' vu ((List.range i).map<|upF R)
 refine⟨tl,_,Y,.inl<|Z3 X,((R.tg.length-1:Nat):Int),by rw[ZA];show[V.int (((R.tg.length:Nat):Int)-1)]=_;rw[show((R.tg.length:Nat):Int)-1=((R.tg.length-1:Nat):Int) by omega],by omega,by omega,?_⟩;refine Tc (n:=R.tg.length-1) I ⟨λ_ _ _ _ e=>e,[],[],none,Y,Y,Y,g4,g2,Z6,Z6⟩ ?_ ?_
 .rintro BB RR i U H3 hi ⟨fr,vl,vu,x6,rfl,lv,lu,g4,g5,r,v⟩
  have J:=fr _ _ c p X;rw[show(0:Int)+(i:Int)=((i:Nat):Int) by omega];have R6:atI (R.tg.map V.str) (i:Int)=some (.str<|Y8 R.tg i):=Uu (Vr<|by omega);have R5:atI (R.tg.map V.str) ((i:Int)+1)=some (.str<|Y8 R.tg<|i+1):=Uu (k:=i+1) (Vr<|by omega);refine⟨.inl ⟨Y,_,Z3 g4⟩,_,_,Z3 J,R6,sl 2,λa1 O1=>?_⟩;refine up_in O1 _ λHa sa ga=>⟨_,_,Z3<|sa _ _ J,R5,sl 2,λa2 M2=>?_⟩;refine up_in M2 _ λHb sb gb=>⟨sl 2,λa3 F9=>?_⟩;refine up_in F9 _ λHc sc gc=>⟨sl 3,λa4 F8=>?_⟩;refine up_in F8 _ λHd sd gd=>⟨sl 2,λa5 F7=>?_⟩;refine up_in F7 _ λHe se ge=>?_;have D:=sa.trans<|sb.trans<|sc.trans<|sd.trans se;have F2:Has He (.ref a5) (loF R i):=Yu ge<|Z4 Yy<|Z5<|Tq (se _ _ gd) (se _ _<|sd _ _ gc) (Wp<|se _ _<|sd _ _<|sc _ _<|sb _ _ ga)<|Rn<|se _ _<|sd _ _<|sc _ _ gb;refine⟨O,_,_,Y,Y,D _ _ g4,Yx<|by omega,?_⟩;refine fld_in O _ λHf bf gf=>?_;have m:=JS bf<|D _ _ g4;have L:∀b o,b≠O->H3 b=some o->Hf b=some o:=λb o n e=>bf _ _ n<|D _ _ e;have G:=L _ _ c J;have R1:=L _ _ d.symm g5;have T7:=Z7 (VS m _ (Z _ _)<|r.mono D) (Z5<|VL m _ (by simp[loF,Dat.ti,Dat.tis,Bd.ti]) F2);have R8:=VS m _ (Z _ _)<|v.mono D;refine⟨.inl ⟨Y,_,Z3 R1⟩,_,_,Z3 G,R6,_,_,Z3 G,R5,sl 2,λc1 G3=>?_⟩;refine up_in G3 _ λJa ja ka=>⟨_,_,Z3<|ja _ _ G,T9,sl 2,λc2 G2=>?_⟩;refine up_in G2 _ λJb jb kb=>⟨sl 2,λc3 G1=>?_⟩;refine up_in G1 _ λJc u kc=>⟨sl 3,λc4 J2=>?_⟩;refine up_in J2 _ λJd j kd=>⟨sl 2,λc5 F6=>?_⟩;refine up_in F6 _ λJe je ke=>?_;have M:=ja.trans<|jb.trans<|u.trans<|j.trans je;have D3:Has Je (.ref c5) (upF R i):=Yu ke<|Z4 Yy<|Z5<|Tq (je _ _ kd) (je _ _<|j _ _ kc) (Rn<|je _ _<|j _ _<|u _ _<|jb _ _ ka)<|Rn<|je _ _<|j _ _<|u _ _ kb;refine⟨N,_,_,Y,Y,M _ _ R1,Yx<|by omega,?_⟩;refine fld_in N _ λJf bj gj=>?_;have t:=JS bj<|M _ _ R1;exists λb o n1 n2 e=>bj _ _ n2<|M _ _<|L b _ n1<|fr b o n1 n2 e,_,_,_,rfl,by rw[ZL,lv];rfl,by rw[ZL,lu];rfl,bj _ _ d<|M _ _ gf,gj,?_
  .rw [jQ,ZK]
   have:=Z (List.range i++[i])<|loB R;exact VS t _ (by rw[<-ZK];exact this)<|T7.mono M
  .rw [jQ,ZK]
   exact Z7 (VS t _ (Z _ _)<|R8.mono M)<|Z5<|VL t _ (by simp[upF,Dat.ti,Dat.tis,Bd.ti]) D3
 rintro U H3 ⟨fr,vl,vu,x6,rfl,lv,lu,g4,g5,r,v⟩;have J:=fr _ _ c p X
 have er:List.range R.tg.length=List.range (R.tg.length-1)++[R.tg.length-1]:=by
  rw[<-jQ]
  congr 1
  omega
 have last:∀{K:W.Frag},atI (R.tg.map V.str) (-1)=some (.str<|Y8 R.tg<|R.tg.length-1):=λ{K}=>by
  rw[Wr (by omega)];exact Uc _ _
 have upper:Bd.brs ((List.range R.tg.length).map λk=>if k+1=R.tg.length then .name R.own else upB R k) R.tg=(List.range<|R.tg.length-1).map (upF R)++[.tup [.str (Y8 R.tg<|R.tg.length-1),(Bd.name R.own).dat]]:=by
  rw[Ey,er,ZK]
  congr 1
  .refine qd λk hk=>?_
   have:=jH.mp hk;rw[Zq (by omega)]
   rfl
  .rw [jP]
   rw[Zp (by omega)]
 have lower:Bd.brs ((List.range R.tg.length).map λk=>if k+1=R.tg.length then upC R else loB R k) R.tg=(List.range<|R.tg.length-1).map (loF R)++[.tup [.str (Y8 R.tg<|R.tg.length-1),(upC R).dat]]:=by
  rw[Ey,er,ZK]
  congr 1
  .refine qd λk hk=>?_
   have:=jH.mp hk;rw[Zq (by omega)]
   rfl
  .rw [jP]
   rw[Zp (by omega)]
 refine⟨.inl ⟨Y,_,Z3 g5⟩,1,Y,_,.str<|Y8 R.tg<|R.tg.length-1,Z3 J,last (K:=K),sl 2,λa1 O1=>?_⟩;refine up_in O1 _ λHa sa ga=>⟨sl 2,λa2 M2=>?_⟩;refine up_in M2 _ λHb sb gb=>?_;have S:=sa.trans sb;refine⟨N,_,_,Y,Y,S _ _ g5,Yx<|by omega,?_⟩;refine fld_in N _ λHc bc gc=>?_;have g:=JS bc<|S _ _ g5;have L:∀b o,b≠N->H3 b=some o->Hc b=some o:=λb o n e=>bc _ _ n<|S _ _ e;have T8:=VS g _ (Z _ _)<|r.mono S;have y:HasL Hc (vu++[.ref a2]) ((List.range<|R.tg.length-1).map (upF R)++[.tup [.str (Y8 R.tg<|R.tg.length-1),(Bd.name R.own).dat]]):=Z7 (VS g _ (Z _ _)<|v.mono S) (Z5 (VL g _ (by simp[Dat.ti,Dat.tis,Bd.ti]) (Yu gb<|Z4 Yy<|Z5<|Wp<|sb _ _ ga):Has Hc (.ref a2) (.tup [.str (Y8 R.tg<|R.tg.length-1),(Bd.name R.own).dat])));rw[<-upper]at y;have R3:=L _ _ d g4;have G:=L _ _ p J;refine⟨.inl ⟨Y,_,Z3 R3⟩,1,Y,_,.str<|Y8 R.tg<|R.tg.length-1,Z3 G,last (K:=K),sl 2,λc1 G3=>?_⟩;refine up_in G3 _ λJa ja ka=>⟨N,_,Y,.inl ⟨Z3<|ja _ _ gc,λc2 G2=>?_⟩⟩;refine up_in G2 _ λJb jb kb=>⟨sl 3,λc3 G1=>?_⟩;refine up_in G1 _ λJc u kc=>⟨sl 2,λc4 J2=>?_⟩;refine up_in J2 _ λJd j kd=>?_;have T:=ja.trans<|jb.trans<|u.trans j;have F1:Has Jd (.ref c3) (upC R).dat:=Mv (j _ _ kc) (Wp<|j _ _<|u _ _<|jb _ _ ka) (j _ _<|u _ _ kb)<|y.mono T;refine⟨O,_,_,Y,Y,T _ _ R3,Yx<|by omega,?_⟩;refine fld_in O _ λJe be ge=>?_;have R4:=JS be<|T _ _ R3;have z:HasL Je (vl++[.ref c4]) ((List.range<|R.tg.length-1).map (loF R)++[.tup [.str (Y8 R.tg<|R.tg.length-1),(upC R).dat]]):=Z7 (VS R4 _ (Z _ _)<|T8.mono T) (Z5 (VL R4 _ (by simp[Dat.ti,Dat.tis,Bd.ti]) (Yu kd<|Z4 Yy<|Z5 F1):Has Je (.ref c4) (.tup [.str (Y8 R.tg<|R.tg.length-1),(upC R).dat])));rw[<-lower]at z;refine⟨sl 2,λd1 F5=>?_⟩;refine up_in F5 _ λLa pa ma=>⟨O,_,Y,.inl ⟨Z3<|pa _ _ ge,λd2 F4=>?_⟩⟩;refine up_in F4 _ λLb pb mb=>⟨sl 3,λd3 F3=>?_⟩;refine up_in F3 _ λLc pc mc=>?_;have R7:=pa.trans<|pb.trans pc;refine q (.ref d3) Lc (λb o e=>?_)<|Mv mc (Wp<|pc _ _<|pb _ _ ma) (pc _ _ mb)<|z.mono R7;have n4:b≠O:=Yb e h4;have n5:b≠N:=Yb (s1 _ _ e) h5;exact R7 _ _<|be _ _ n4<|T _ _<|L _ _ n5<|fr _ _ n4 n5<|s2 _ _<|s1 _ _ e
end
end K4
namespace L2
open PySem
def II(Z:pZ)(J:1<=Z.length)(G:Z.length<=3):(Z++[0,0]).take 3=[(Z++[0,0]).getD 0 0,(Z++[0,0]).getD 1 0,(Z++[0,0]).getD 2 0]:=by
 cases Z with
 |nil=>cases J
 |cons a t=>
  cases t with
  |nil=>rfl
  |cons b t=>
   cases t with
   |nil=>rfl
   |cons c t=>rfl
def zX{l:pX}(h:l.length=3):l=[Y8 l 0,Y8 l 1,Y8 l 2]:=by
 obtain⟨a,t,rfl,Z⟩:=V0 h;obtain⟨b,u,rfl,J⟩:=V0 Z;obtain⟨c,v,rfl,G⟩:=V0 J;obtain rfl:=jf G
 rfl
def Wds.tk(w:Wds o Z)(k:Nat):Wds o (Z.take k):=⟨w.nd.sublist<|jR _ _,λy h=>w.len y<|Zk h,λy h=>w.abc y<|Zk h⟩
def IQ(s:J0 H p)(b:SameB a H Z)(n:a≠p):J0 Z p:=let⟨w,x,y,z,h⟩:=s;⟨w,x,y,z,b _ _ n.symm h⟩
def GZ{k:Nat}(c:Int)(Z:0<k):c % (k:Int)=((c % (k:Int)).toNat:Int)/\(c % (k:Int)).toNat<k:=by
 have G:=j7 c (show(k:Int)≠0 by omega);have J:=jO c (show(0:Int)<k by omega);exact⟨by omega,by omega⟩
def c64{n:Nat}(h:n<=100): -(2 ^ 64)<(n:Int)/\(n:Int)<2 ^ 64:=by omega
def Ly(f:Nat->Bool)(i:Nat)(b:Bool):∃F:Nat->Bool,F i=b/\∀j,j<i->F j=f j:=⟨λj=>if j=i then b else f j,Zp rfl,λj h=>Zq<|by omega⟩
def zy(h:H t=some (.tup [.str "dry"])):Has H (.ref t) (.tup [.str "dry"]):=Yu h<|Z5 Yy
inductive DnE(H:Hp)(cs:List Mk1)(k:Nat)(o:Dat):V->Prop
 |mk (t b1:Addr) (y2:V) (ws:List (List Int)) (ht:H t=some (.tup [.ref b1,y2])) (h1:Has H (.ref b1) (nst ws)) (h2:(nst ws).ti=true) (h3:∀w∈ws,J4 w) (h4:ws.length<=1100) (ew:bD cs k=nst ws) (e2:Has H y2 o):DnE H cs k o (.ref t)
def yG{p:Nat×Str}(N:AllB R SR)(I:p∈SR.h)(A:Has H y (.tup [bD SR.s.1 p.1,o])):DnE H SR.s.1 p.1 o y:=by
 obtain⟨E,P,rfl,J,Z⟩:=Yr A;obtain⟨Q,z,rfl,M,L⟩:=Yc Z;obtain⟨D,j,rfl,U,G⟩:=Yc L;obtain rfl:=VB G;obtain⟨O,T,q,F⟩:=Ds N.cg (N.dn.ok p.1<|jW I).1;have t:=N.ln;rw[T]at M;have B:=M;obtain⟨m,S⟩:=Pu O;rw[S]at B;obtain⟨C,X,rfl,_,_⟩:=Yr B;exact .mk E C D O J M (K8 _ _ Y) F (by omega) T U
end L2
namespace K4
open PySem L2
section
variable{C CK:Addr}
abbrev lwN:pX:=["script","cells","stream","tags","names","kind","own","other","definitions","handed","k","first","one","second","two","last","book","many","most","full","outcome","done","births"]
def V5:Yh lwN ["script"] (Yd DI):=Y2
def Ql:List.Nodup [("birth":Str),"wanter"]:=by decide +kernel
def Dp:bootBuiltins "repr"=some (.builtin "repr"):=by decide +kernel
inductive yR(K:W.Frag)(H:Hp)(Q:VK):List V->Prop
 |mk (a:Addr) (ns:List Int) (hS:SqL K H a (ns.map V.int)) (hl:ns.length<=63) (q:∀H',Q (.bl true) H'):yR K H Q [.ref a]
def ED(K:W.Frag):Sp:=λZ H Q _=>yR K H Q Z
def AL(B:Blt mg)(nrep:mg "repr"=none)(F:Fun K "law" "law" DI f fd)(DS:Df P w K mg base (n+119) "_law_stream" ["cell"] NC)(DW:Df P w K mg base (n+119) "_law_words" ["stream","many","letters","ways"] GP)(DM:Df P w K mg base (n+119) "_law_small" ["stream","many"] Ry)(DO:Df P w K mg base (n+119) "_law_folded" ["script","many"] (Sb K))(DK:Df P w K mg base (n+119) "_law_kept" kpp SZ)(DC:Df P w K mg base (n+119) "_law_counting" ctp Se)(mA:mg "asked"=some (.ref gA))(kA:W.keepIn K (.ref gA)=true)(GA:Ye P w K mg base CX0 (n+119) gA gAd OO (BN P w C CK 8))(b5:Binds K gAd OO [])(b4:Binds K gAd OO [.bool false])(mBk:mg "Book"=some (.ref C))(MB:Mk K C g)(GB:Ye P w K mg base CX0 (n+118) g gd ["self","kinds","definitions"] (Sg C CK))(bB:Binds K gd ["self","kinds","definitions"] []):Ye P w K mg base CX0 (n+120) f fd ["script"] (ED K):=by
 refine F.oi V5 λcdv A outer s H vs Q E hr h=>?_;obtain⟨a,ns,hS,hl,q⟩:=h;refine⟨_,YY (Y0 1 V5.nd<|Vs XM (Y9 Kh (Vh DO hr<|pa2 (pv 0)<|Ya)<|V4<|pa2 (Ya)<|Ya) JM<|V6<|Ya)
  (YY (Y0 2 V5.nd<|Vh DS hr<|pa1<|Ym Y7 (pv 1)<|Ya)
  (YY (Y0 3 V5.nd<|Vs XM (Vh DW hr<|pa4 (pv 2) (Ya) (Yp)<|Ya) JM<|V6<|Y9 Vp (Ya)<|Y9 JQ (Ym Y7 (pv 1)<|Ya)<|Ya)
  (YY (Y0 4 V5.nd<|Vs XM (Vh DM hr<|pa2 (pv 2)<|Ya) JM<|V6<|Y9 Vp (Ya)<|Y9 JQ (Ym Y7 (pv 1)<|Ya)<|Ya)
  (YY (Jh (Vh DM hr<|pa2 (pv 2)<|Ya)<|AB (n:=3) rfl (Yk (Yl 5 V5.nd)<|Yk (Yl 6 V5.nd)<|Yk (Yl 7 V5.nd) VJ))
  (YY (Y0 8 V5.nd<|V4<|Vj)
  (YY (Y0 9 V5.nd<|Ya)
  (YY (JC Zv rfl (UA rfl B.range (pa1<|Y9 MV (VD Y6 rfl B.len Zu (pa1<|pv 4))<|Ya)) (Yl 10 V5.nd)
   (YY (Jh (Vh DK hr<|pa3 (pv 2) (pv 6)<|pv 3)<|VU (n:=2) rfl (Yk (Yl 11 V5.nd)<|Yk (Yl 12 V5.nd) VJ))
  (YY (Jh (Vh DK hr<|pa3 (pv 2) (pv 7)<|pv 3)<|VU (n:=2) rfl (Yk (Yl 13 V5.nd)<|Yk (Yl 14 V5.nd) VJ))
  (YY (Y0 9 V5.nd<|Y9 Vp (Y9 Vp (pv 9)<|pv 12)<|pv 14)
  (YZ<|VR<|UI Zz Z0 Z1 Ve (pv 8)<|pa1<|Yi<|pa4 (Ym Y7 (pv 4) (pv 10) λ_ _=>rfl) (Yi<|pa2 (Yi<|pa2 (pv 6)<|pv 5)<|Yi<|pa2 (pv 7)<|pv 5) (pv 5)<|Yi<|pa3 (Yp) (Ym Y7 (pv 4) (Y9 Vp (pv 10)<|Ya) λ_ _=>rfl)<|Yi<|pa2 (pv 11)<|pv 13)))))
  (YY (Y0 15 V5.nd<|Vh DC hr<|pa4 (Ym Y7 (pv 4)<|Ya) (pv 6) (pv 7)<|pv 3)
  (YY (VR<|UI Zz Z0 Z1 Ve (pv 8)<|pa1<|Yi<|pa4 (Ym Y7 (pv 4)<|X0 Ue Ya) (Yi<|pa2 (Yi<|pa2 (pv 6)<|pv 5)<|Yi<|pa2 (pv 7)<|pv 5) (pv 5)<|pv 15)
  (YY (Y0 16 V5.nd<|X1 MB GB hr rfl mBk bB .nil Y3 (pa2 (V4<|pa1<|Yi<|pa2 (pv 5)<|Yi<|pa2 (Yp)<|VW V3 rfl B.tuple Vm (pa1<|pv 3))<|pv 8))
  (YY (Y0 17 V5.nd<|Y9 Ul (Y9 Ul (VD Y6 rfl B.len Zu (pa1<|pv 3))<|VD Y6 rfl B.len Zu (pa1<|pv 3))<|Y9 Vp (VD Y6 rfl B.len Zu (pa1<|pv 4))<|pv 9)
  (YY (JC Zv rfl (UQ<|V4<|pa3 (pv 17) (Y9 Vp (pv 17)<|Ya)<|Ya) (Yl 18 V5.nd)
   (YZ (JC Zv rfl (UQ<|V4<|pa2 (XX)<|XX) (Yl 19 V5.nd)
   (YY (Jh (JP GA hr rfl mA kA b5 .nil Y3 (pa5 (pv 16) (Ym Y7 (pv 4)<|Ya) (Yi<|pa2 (Ym Y7 (pv 3)<|Ya)<|Ym Y7 (pv 3)<|Ya) (pv 18)<|pv 19))<|VU (n:=2) rfl (Yk (Yl 20 V5.nd)<|Yk (Yl 21 V5.nd) VJ))
  (YY (Y0 22 V5.nd<|VW (Dn rfl) rfl B.dict UL (pa1<|JO ["birth","wanter"] [] (UQ<|pv 21) TR (λcl C fp s H=>VU (n:=2) rfl (Yk (Yl 0 Ql rfl (Or.inl rfl) (Or.inr rfl))<|Yk (Yl 1 Ql rfl (Or.inl rfl) (Or.inr rfl)) VJ)) λcl C fp s H=>Yi<|pa2 (VD (r:=Qg 60) (Fi (hr.mono (show 60<=n+119 by omega))<|by decide) rfl nrep Dp (pa1<|pv 0))<|pv 1))
  (YZ<|Y4 (PW.pt<|UZ (Ys (Bz hr) (pv 20) (Yi<|pa2 (Yp)<|Ym Y7 (pv 3)<|X0 Ue Ya)<|Yz _)<|UZ (Ys UJ (VD Fj rfl B.len Zu (pa1<|pv 22)) (pv 17)<|Yz _)<|UG<|Ys UJ (VD Y6 rfl B.len Zu (pa1<|pv 21)) (pv 17)<|Yz _) (YZ<|JU) Yo))))))
  (YZ<|Yj<|Jj (B0 hr) (Ym (r:=VZ K) Yq (JP GA hr rfl mA kA b4 (.cons (show RelV (V.bl false) (Value.bool false)from rfl) .nil) Y3 (pa4 (pv 16) (Ym Y7 (pv 4)<|Ya) (Yi<|pa2 (Ym Y7 (pv 3)<|Ya)<|Ym Y7 (pv 3)<|Ya)<|Y9 MV (pv 17)<|Ya))<|Ya) (Yi<|pa1<|Yp) rfl))))))))))))),?_⟩
 show let T0:=_;let T1:=_;let T2:=VH _ T1 _;let T3:=Yn _ T2;let T4:=Yn _ T3;let T5:=U1 _ _ T4;let T6:=Yn (U1 _ _ T5) T0;let T7:=Yn _ T6;let T8:=Yn _ T7;let T9:=Yn _ T8;let T10:=Yn _ T9;let T11:=_;let T12:=Yn _ T11;let T13:=Yn _ T12;let T14:=Yn _ T13;let T15:=Yn (U1 _ _ T14) T10;let T16:=Yn _ T15;let T17:=Yn _ T16;let T18:=Yn _ T17;let T19:=Yn _ T18;let T20:=Yn _ T19;let T21:=Yn _ T20;Yn _ T21 _ _ _
 intros
 try dsimp only[Vb,Cx.nox,Cx.wish]
 refine⟨a,ns,3,by decide,by decide,hS,hl,λfl ms H1 s1 f1 g1 l1 l2=>?_⟩;refine⟨sl 2,λl0 hl0=>?_⟩;refine up_in hl0 _ λH2 s2 g2=>?_;refine⟨fl,l0,_,_,Y,Y,s2 _ _ g1,g2,Zh (Yx (by rw[ZA];simp;omega)),λl3 h3=>?_⟩;rw[show ms.map V.int++[V.int 0,V.int 0]=(ms++[0,0]).map V.int by rw[ZK];rfl];refine up_in h3 _ λH3 s3 g3=>⟨3,Y,l3,_,Y,Z3 g3,λl4 h4=>?_⟩;have e3:Uq ((ms++[0,0]).map V.int) none (some 3)=((ms++[0,0]).take 3).map V.int:=Es _ 3;rw[e3,II ms l1 l2];generalize (ms++[0,0]).getD 0 0=c0;generalize (ms++[0,0]).getD 1 0=c1;generalize (ms++[0,0]).getD 2 0=c2;refine up_in h4 _ λH4 s4 g4=>?_;refine⟨_,_,Z3 g4,(show atI [V.int c0,V.int c1,V.int c2] 0=some (V.int c0)from Y),c0,Y,λp H5 f5 b5 st5=>?_⟩;have n4p:l4≠p:=Yb g4 f5;refine⟨p,4,65,2,?_,st5,.inr Y,by decide,.inl ⟨by decide,by decide⟩,λtl0 tgs H6 b6 st6 ft nt ht l4' wt=>?_⟩
 .rw [<-RN];rfl
 have h4a:=b6 _ _ n4p<|b5.sb _ _ n4p g4;have em1:=(GZ (k:=3) c1<|by decide).1;have I2:=(GZ (k:=3) c1<|by decide).2;generalize (c1 % ((3:Nat):Int)).toNat=m1 at em1 I2;refine⟨_,_,Z3 h4a,(show atI [V.int c0,V.int c1,V.int c2] 1=some (V.int c1)from Y),(by show(0:Int)<3;decide),_,Y,tl0,_,Y,Z3 ht,λtl htl=>?_⟩;dsimp only;rw[show(2:Int)+c1 % 3=((2+m1:Nat):Int) by rw[show c1 % 3=(m1:Int)from em1];rfl,Nk _ _ (by rw[ZA,l4'];exact qN (pP I2) 2),<-qJ];refine up_in htl _ λH8 s8 g8=>?_;clear em1;have st8:=st6.sm s8;have R5:tl≠p:=st6.ne htl;have lt:(tgs.take<|2+m1).length=2+m1:=by rw[ZN,l4'];exact jE<|qN (pP I2) 2
 refine⟨p,8,Y,st8,by decide,λnl0 ns8 H9 b9 st9 fn0 nn0 hn0 ln8 wn=>?_⟩;have h4b:=b9 _ _ n4p<|s8 _ _ h4a;have em2:=(GZ (k:=8) c2<|by decide).1;have lm2:=(GZ (k:=8) c2<|by decide).2;generalize (c2 % ((8:Nat):Int)).toNat=m2 at em2 lm2;refine⟨_,_,Z3 h4b,(show atI [V.int c0,V.int c1,V.int c2] 2=some (V.int c2)from Y),(by show(0:Int)<8;decide),_,Y,nl0,_,Y,Z3 hn0,λnl hnl=>?_⟩;dsimp only;rw[show(1:Int)+c2 % 8=((1+m2:Nat):Int) by rw[show c2 % 8=(m2:Int)from em2];rfl,Nk _ _ (by rw[ZA,ln8,qQ];exact lm2),<-qJ];refine up_in hnl _ λH11 s11 g11=>?_;clear em2;have st11:=st9.sm s11;have I1:nl≠p:=st9.ne hnl;have lnn:(ns8.take<|1+m2).length=1+m2:=by rw[ZN,ln8];exact jE (by rw[qQ];exact lm2)
 have wn':Wds 97 (ns8.take<|1+m2):=wn.tk _;refine⟨p,3,Y,st11,by decide,λkl I3 H12 b12 st12 fkl nkl D3 l3' wk=>?_⟩;rw[zX l3']at wk D3;generalize Y8 I3 0=kd at wk D3;generalize Y8 I3 1=own at wk D3;generalize Y8 I3 2=oth at wk D3;exists _,Z3 D3,Y;generalize etg:tgs.take (2+m1)=tg at g8 lt;generalize enm:ns8.take (1+m2)=nm at g11 lnn wn';have t4:tg.length<=4:=by rw[lt];exact qN (pP I2) 2
 have t2:2<=tg.length:=by rw[lt];exact jy 2 m1
 have n8:nm.length<=8:=by rw[lnn,qQ];exact lm2
 have n1:1<=nm.length:=by rw[lnn];exact jy 1 m2
 have I8:=b12 _ _ R5<|s11 _ _<|b9 _ _ R5 g8;have S2:=b12 _ _ I1 g11;clear g4 g8 g11 hn0 D3 ht htl hnl g1 g2 g3 h4a h4b;refine⟨sl 0,λdl hdl=>?_⟩;refine up_in hdl _ λH13 s13 g13=>?_;have st13:=st12.sm s13;have ndl:dl≠p:=st12.ne hdl;have ntd:tl≠dl:=Yb I8 hdl;have nnd:nl≠dl:=Yb S2 hdl;have I7:=s13 _ _ I8;have R8:=s13 _ _ S2
 let R1:(Nat->Bool)->(Nat->Bool)->CP:=λf1 f2=>⟨nm,tg,kd,own,oth,f1,f2⟩
 let ST:Option V->Option V->Option V->Option V->Option V->Option V->Option V->Option V->Option V->Option V->Option V->Option V->Option V->Option V->St:=λx9 G2 G1 J2 d c x15 x16 x17 M2 L G J Z=>[some (.ref a),some<|.ref l4,some<|.ref p,some<|.ref tl,some<|.ref nl,some<|.str kd,some<|.str own,some<|.str oth,some<|.ref dl,x9,G2,G1,J2,d,c,x15,x16,x17,M2,L,G,J,Z]
 have D0:∀(l:List Nat)(f:Nat->Dd),Dat.tis (l.map λj=>WH<|f j)=true:=λl f=>by
  induction l with
  |nil=>simp[Dat.tis]
  |cons a l ih=>rw[ZV];unfold Dat.tis;rw[ih,Dg];rfl
 exists nl,_,Y,.inl<|Z3 R8,((nm.length-1:Nat):Int),by rw[ZA];show[V.int (((nm.length:Nat):Int)-1)]=_;rw[Int.ofNat_sub n1];rfl,Int.le_trans (by decide)<|Int.natCast_nonneg _,Int.lt_of_le_of_lt (Int.ofNat_le.mpr<|Zb (qj _ _) n8)<|by decide
 let I:xi:=λi U S=>(∀b o,b≠p->b≠dl->H13 b=some o->S b=some o)/\J0 S p/\∃(vs:xg)(f1 f2:Nat->Bool)(h:Int)(G2 G1 J2 d c:xm),U=ST (some<|.int h) G2 G1 J2 d c none none none none none none none none/\vs.length=i/\h+(i:Int)=((J5 (R1 f1 f2) i:Nat):Int)/\S dl=some (.lst vs)/\HasL S vs ((List.range i).map λj=>pD9 (R1 f1 f2) j)
 refine Tc (n:=nm.length-1) I ⟨λ_ _ _ _ e=>e,st13,[],λ_=>false,λ_=>false,0,none,none,none,none,none,Y,Y,Y,g13,Z6⟩ ?_ ?_
 .rintro BB RR i U H16 hi ⟨fr,F4,vs,f1,f2,h,G2,G1,J2,d,c,rfl,lv,hh,F3,hvs⟩
  have T:=fr _ _ I1 nnd R8;have O:=fr _ _ R5 ntd I7;rw[Int.zero_add];refine⟨p,tl,own,R1 f1 f2,F4,R5,O,t4,λt u b1 H17 b17 st17 g17 hu=>?_⟩;exists _,Z2 g17,Y;have htl17:=b17 _ _ R5 O;refine⟨p,tl,oth,R1 f1 f2,st17,R5,htl17,t4,λt2 u2 b2 H18 G3 st18 g18 hu2=>?_⟩;exists _,Z2 g18,Y;have tk1:=F4.tkB b17;have tk2:=st17.tkB G3;have hu18:=VL tk2 _ (Bd.ti _) hu;have m:=G3 _ _ I1<|b17 _ _ I1 T;have S3:=G3 _ _ ndl<|b17 _ _ ndl F3;have hvs18:=VS tk2 _ (D0 _ _)<|VS tk1 _ (D0 _ _) hvs;refine⟨.inl ⟨Y,_,Z3 S3⟩,_,_,Z3 m,Uu<|Vr<|Zx hi<|qj _ _,sl 2,λa1 ha1=>?_⟩;refine up_in ha1 _ λHa sa ga=>⟨sl 2,λa2 ha2=>?_⟩;refine up_in ha2 _ λHb sb gb=>⟨sl 2,λa3 ha3=>?_⟩;refine up_in ha3 _ λHc sc gc=>⟨_,.str<|Y8 nm<|i+1,Z3<|sc _ _<|sb _ _<|sa _ _ m,Uu (k:=i+1)<|Vr<|Nat.add_lt_of_lt_sub hi,sl 2,λa4 ha4=>?_⟩;refine up_in ha4 _ λHd sd gd=>⟨sl 3,λa5 ha5=>?_⟩;refine up_in ha5 _ λHe se ge=>⟨sl 4,λa6 ha6=>?_⟩;refine up_in ha6 _ λHf sf gf=>?_;have M:=sa.trans<|sb.trans<|sc.trans<|sd.trans<|se.trans sf;refine⟨dl,_,_,Y,Y,M _ _ S3,Yx (by rw[lv];exact Zb (Zh hi)<|Zb (qj _ _)<|Zb n8<|by decide),?_⟩;refine fld_in dl _ λH21 b21 g21=>?_;have tk21:=JS b21<|M _ _ S3;have st21:=IQ (st18.sm M) b21 ndl;obtain⟨F1,k1,o1⟩:=Ly f1 i b1;obtain⟨F2,k2,o2⟩:=Ly f2 i b2
  have hask:Has Hf (.ref a5) (psB (R1 F1 F2) i).dat:=by
   have z1:(R1 F1 F2).l1 i=b1:=k1;have z2:(R1 F1 F2).l2 i=b2:=k2;unfold psB;rw[z1,z2];exact Tq (sf _ _ ge) (sf _ _<|se _ _ gd) (hu18.mono M)<|hu2.mono M
  have hdef:Has Hf (.ref a6) (pD9 (R1 F1 F2) i):=Yu gf<|Z4 Yy<|Z4 (Yu (sf _ _<|se _ _<|sd _ _ gc)<|Z4 (Yu (sf _ _<|se _ _<|sd _ _<|sc _ _<|sb _ _ ga)<|Z4 Yy<|Z5 Yy)<|Z5<|Yu (sf _ _<|se _ _<|sd _ _<|sc _ _ gb)<|Z4 Yy<|Z5 Yy)<|Z4 Yy<|Z5 hask;exists λb o n1 n2 e=>b21 _ _ n2<|M _ _<|G3 _ _ n1<|b17 _ _ n1<|fr b o n1 n2 e,st21,_,F1,F2,h+((b1.toNat:Nat):Int)+((b2.toNat:Nat):Int),_,_,_,_,_,rfl,by rw[ZL,lv];rfl,?_,g21
  .have e1:J5 (R1 F1 F2) i=J5 (R1 f1 f2) i:=EQ λj hj=>⟨o1 j hj,o2 j hj⟩
   have e2:J5 (R1 F1 F2) (i+1)=J5 (R1 f1 f2) i+1+b1.toNat+b2.toNat:=by
    show J5 (R1 F1 F2) i+1+(F1 i).toNat+(F2 i).toNat=_;rw[e1,k1,k2]
   rw[e2];omega
  .rw [jQ,ZK]
   refine Z7 ?_<|Z5<|VL tk21 _ (Dg _) hdef
   have e:(List.range i).map (λj=>pD9 (R1 F1 F2) j)=(List.range i).map λj=>pD9 (R1 f1 f2) j:=by
    refine qd λj hj=>?_;have:=jH.mp hj;exact AD (o1 j this)<|o2 j this
   rw[e];exact VS tk21 _ (D0 _ _)<|hvs18.mono M
 rintro U H16 ⟨fr,F4,vs,f1,f2,h,G2,G1,J2,d,c,rfl,lv,hh,F3,hvs⟩;have T:=fr _ _ I1 nnd R8;have O:=fr _ _ R5 ntd I7
 let R:CP:=⟨nm,tg,kd,own,oth,f1,f2⟩
 have on:CO R:=⟨n1,n8,t2,t4,wk,⟨tgs,1+m1,wt,by rw[qQ];exact Nat.succ_lt_succ I2,by show tg=_;rw[<-etg,<-ky]⟩,wn'⟩;have n00:0<nm.length:=n1;have t00:0<tg.length:=Zx (by decide) t2;have a0:atI (nm.map V.str) 0=some (.str<|Y8 nm 0):=Uu (k:=0)<|Vr n00;have b0:atI (tg.map V.str) 0=some (.str<|Y8 tg 0):=Uu (k:=0)<|Vr t00;have aL:atI (nm.map V.str) (-1)=some (.str<|Y8 nm<|nm.length-1):=by rw[Wr n00];exact Uc _ _
 have bL:atI (tg.map V.str) (-1)=some (.str<|Y8 tg<|tg.length-1):=by rw[Wr t00];exact Uc _ _
 have eM:(tg.length:Int)*(tg.length:Int)*((nm.length:Int)+h)=((mny R:Nat):Int):=by
  have e1:(nm.length:Int)+h=((U2 R:Nat):Int):=by
   show _=((J5 (R1 f1 f2) (nm.length-1)+1:Nat):Int);omega
  rw[e1];show _=((tg.length*tg.length*U2 R:Nat):Int);rw[kP,kP]
 refine⟨_,_,Z3 T,a0,tl,R,O,on.t2,on.t4,λu H17 R4 hu=>?_⟩;refine⟨.inl ⟨Y,_,Z3<|R4 _ _ F3⟩,1,rfl,_,.str<|Y8 nm<|nm.length-1,Z3<|R4 _ _ T,aL,sl 2,λa1 ha1=>?_⟩;refine up_in ha1 _ λHa sa ga=>⟨sl 2,λa2 ha2=>?_⟩;refine up_in ha2 _ λHb sb gb=>⟨sl 2,λa3 ha3=>?_⟩;refine up_in ha3 _ λHc sc gc=>⟨sl 4,λa4 ha4=>?_⟩;refine up_in ha4 _ λHd sd gd=>?_;have X:=sa.trans<|sb.trans<|sc.trans sd;refine⟨dl,_,_,Y,Y,X _ _<|R4 _ _ F3,Yx (by rw[lv];exact Zb (qj _ _)<|Zb n8<|by decide),?_⟩;refine fld_in dl _ λH18 G3 g18=>?_;have tk18:=JS G3<|X _ _<|R4 _ _ F3;have hlast:Has Hd (.ref a4) (WH (hd9 R<|nm.length-1,laB R)):=Yu gd<|Z4 Yy<|Z4 (Yu (sd _ _ gc)<|Z4 (Yu (sd _ _<|sc _ _<|sb _ _ ga)<|Z4 Yy<|Z5 Yy)<|Z5<|Yu (sd _ _<|sc _ _ gb)<|Z4 Yy<|Z5 Yy)<|Z4 Yy<|Z5<|hu.mono X
 have hds:HasL H18 (vs++[.ref a4]) ((cps R).map WH):=by
  rw[yI on.n1];exact Z7 (VS tk18 _ (D0 _ _)<|hvs.mono<|R4.trans X)<|Z5<|VL tk18 _ (Dg _) hlast
 have I6:=G3 _ _ ntd<|X _ _<|R4 _ _ O;have m:=G3 _ _ nnd<|X _ _<|R4 _ _ T;refine⟨tl,_,Y,.inl ⟨Z3 I6,λt1' ht1=>?_⟩⟩;refine up_in ht1 _ λH20 s20 g20=>⟨sl 2,λt2 ht2=>?_⟩;refine up_in ht2 _ λH21 s21 g21=>⟨sl 2,λt3 ht3=>?_⟩;refine up_in ht3 _ λH22 s22 g22=>⟨sl 1,λkl2 hkl2=>?_⟩;refine up_in hkl2 _ λH23 s23 g23=>?_;have F9:=s20.trans<|s21.trans<|s22.trans s23;intro bx dx hx0 hdx hne;have sX:Same H23 (upd (upd H23 dx<|.own bx) bx<|.ins C dx []):=λb o e=>by rw[Yg (Yb e hx0),Yg (Yb e hdx)];exact e
 have tx:upd (upd H23 dx<|.own bx) bx (.ins C dx []) bx=some (.ins C dx []):=Yf;generalize upd (upd H23 dx<|.own bx) bx (.ins C dx [])=H24 at tx sX |-
 have hk:HasL H24 [.ref t3] ((ks9 R).map NY):=by
  refine Z5<|Yu (sX _ _<|s23 _ _ g22)<|Z4 Yy<|Z5 ?_;unfold Shp.dat;exact Yu (sX _ _<|s23 _ _<|s22 _ _ g21)<|Z4 Yy<|Z5<|Yu (sX _ _<|s23 _ _<|s22 _ _<|s21 _ _ g20)<|WT _
 have F8:=F9.trans sX;have lcp:(cps R).length=nm.length:=by unfold cps;rw[ZA,js]
 refine⟨bx,dx,kl2,dl,_,_,ks9 R,c9 R,λ_=>0,cps R,tx,sX _ _ g23,hk,on.kk,by simp,on.kg,(λk h=>⟨tg,by rw[ZQ.mp h]⟩),by simp,by simp,F8 _ _ g18,hds.mono F8,by rw[lcp];exact n1,by rw[lcp];exact n8,by rw[OD];exact on.wn,on.hd,on.rt,λH25 keep bi=>⟨Y,?_⟩⟩
 have k25:∀{b o},H18 b=some o->H25 b=some o:=λe=>by
  have e23:=F9 _ _ e;exact keep _ _ (Yb e23 hx0)<|sX _ _ e23
 have R7:=k25 I6;have S1:=k25 m;clear hk g23 g22 g21 g20 hds g18 hvs F3;have K0:=on.k;have ml:=MZ K0
 have mg4:4<=mny R:=by
  have h1:1<=U2 R:=jF<|Zc _;have h2:2<=tg.length:=on.t2;have h3:=qA (qA h2 h2) h1;exact h3
 dsimp only[V2];refine WY (λU S=>H25=S/\U=ST (some<|.int h) G2 G1 J2 d c (some u) (some<|.ref bx) (some<|.int ((mny R:Nat):Int)) none none none none none) ?_ ?_
 case refine_2=>
  intro N hN;exists tl,_,Y,.inl<|Z3 R7,tl,_,rfl,.inl<|Z3 R7,.inl (by rw[ZA];exact c64<|Zb t4<|by decide),nl,_,rfl,.inl<|Z3 S1,.inl ?_
  .rw [ZA,<-kP]
   exact c64<|Zb (qA t4 t4)<|by decide
  rw[ZA,ZA];exact hN _ _ ⟨Y,congrArg (λv=>ST (some<|.int h) G2 G1 J2 d c (some u) (some<|.ref bx) (some<|.int v) none none none none none) eM⟩
 rintro U S ⟨rfl,rfl⟩
 have ra:∀{S gv},Same H25 S->S gv=some (.tup [.str (Y8 tg 0),.str (Y8 tg 0)])->RgA S C CK bx gv (ks9 R) (λ_=>0) (cps R) (cpD R 0) (L2.g2 R):=λs g=>⟨bi.mono s,Mt n00,g,rfl,(by show 2<=3;omega),(by simp[cpD,on.no]),λi p u h1 h2=>by
  have hu:u=Y8 tg 0:=by
   match i,h2 with
   |0,h2=>exact(ZT h2).symm
   |1,h2=>exact(ZT h2).symm
   |i+2,h2=>simp at h2
  have hp:p.2=kd:=by
   match i,h1 with
   |0,h1=>rw[<-ZT h1]
   |1,h1=>rw[<-ZT h1]
   |i+2,h1=>simp[cpD]at h1
  rw[hu,hp];exact⟨tg,sh9,ZJ<|Vr t00⟩⟩
 refine⟨sl 3,λml' hml=>?_⟩;refine up_in hml _ λH26 s26 g26=>⟨⟨_,Z3 g26⟩,?_⟩;have I5:=s26 _ _ R7;have I9:=s26 _ _ S1
 let ST2:Option V->Option V->Option V->Option V->Option V->St:=λM2 L G J Z=>ST (some<|.int h) G2 G1 J2 d c (some u) (some<|.ref bx) (some<|.int ((mny R:Nat):Int)) M2 L G J Z
 let Io:xi:=λi U S=>Same H26 S/\∃M2 L G J Z,U=ST2 M2 L G J Z
 refine Mp (xs:=[.int ((mny R:Nat):Int),.int ((mny R+1:Nat):Int),.int ((500:Nat):Int)]) Io ⟨Z8 _,_,_,_,_,_,Y⟩ (λi U Hi _ z=>Z3<|z.1 _ _ g26) ?_ ?_
 .rintro BB RR i x U H27 hx ⟨F6,M2,L,G,J,Z,rfl⟩
  have hm:∃mo:Nat,x=.int (mo:Nat)/\mny R<=mo/\mo<=500:=by
   match i,hx with
   |0,hx=>exact⟨_,(ZT hx).symm,ZG _,Zb ml<|by decide⟩
   |1,hx=>exact⟨_,(ZT hx).symm,qV _,Zb (jF ml)<|by decide⟩
   |2,hx=>exact⟨_,(ZT hx).symm,Zb ml<|by decide,ZG _⟩
   |i+3,hx=>simp at hx
  obtain⟨mo,rfl,hm1,hm2⟩:=hm;refine⟨sl 2,λfl2 hfl=>?_⟩;refine up_in hfl _ λH28 s28 g28=>⟨⟨_,Z3 g28⟩,?_⟩;have F7:=F6.trans s28
  let Ii:xi:=λi U S=>Same H28 S/\∃L G J Z,U=ST2 (some<|.int (mo:Nat)) L G J Z
  refine Mp (xs:=[.bl false,.bl true]) Ii ⟨Z8 _,_,_,_,_,Y⟩ (λi U Hi _ z=>Z3<|z.1 _ _ g28) ?_ ?_
  .rintro BB RR i' x U H29 hx' ⟨s29,L,G,J,Z,rfl⟩
   have hb:∃full:Bool,x=.bl full:=by
    match i',hx' with
    |0,hx=>exact⟨_,(ZT hx).symm⟩
    |1,hx=>exact⟨_,(ZT hx).symm⟩
    |i+2,hx=>simp at hx
   obtain⟨full,rfl⟩:=hb;have R3:=F7.trans s29;have R6:=R3 _ _ I5;have hnl29:=R3 _ _ I9;refine⟨_,_,Z3 hnl29,a0,_,_,Z3 R6,b0,_,_,Z3 R6,b0,sl 2,λgv hgv=>?_⟩;refine up_in hgv _ λH30 s30 g30=>?_;obtain⟨j1,Rr,SR,gs1,eR,ab⟩:=Q1 (mo:=mo) K0 (Zb hm2<|by decide) hm1;refine⟨bx,gv,ks9 R,λ_=>0,cps R,cpD R 0,L2.g2 R,mo,full,j1,Rr,SR,ra (s26.trans<|R3.trans s30) g30,Zb (Zb (by decide) mg4) hm1,hm2,gs1,ab.dn,λt r l us1 Hm H31 sm s31 ht hr' fl' hl' hus=>?_⟩;subst eR;have hr2:Has H31 r (.tup [.str "worth",.str (Y8 tg<|tg.length-1)]):=hr';exists _,Z2 ht,Y;have lh:SR.h.length=mny R:=ab.hl;exists ⟨_,Z3 hl'⟩;refine WL (us:=SR.h) (D:=λp=>.tup [bD SR.s.1 p.1,owD SR.s.1 ((SR.r.lookup p.1).getD none)]) (F:=λp=>.tup [.str (bT SR.s.1 p.1),owD SR.s.1 ((SR.r.lookup p.1).getD none)]) (λS s=>itl<|Z3<|s _ _ hl') hus (by rw[lh];exact Zb ml<|by decide) (λw y H7 Rr' hm s7 hy hR=>?_) λbvs bl3 H32 fb s32 hb3 hbv=>?_
   .cases yG ab hm hy with
    |mk t' b1 y2 ws ht' e1 h2 ow lw ew e2=>
     refine⟨_,Z2 ht',Y,b1,ws,Y,e1,h2,ow,Zb lw<|by decide,sl 2,λt2 ht2=>?_⟩;refine up_in ht2 _ λH8 s8 g8=>hR _ _ s8 ?_;refine Yu g8<|Z4 ?_<|Z5<|e2.mono s8;show Has H8 _ (.str (bD SR.s.1 w.1).pd.shown);rw[ew];exact Yy
   obtain⟨ts,kvs,rfl,prs,ek⟩:=D8 (K:=K) hbv;refine⟨bl3,ts,kvs,Y,Z3 hb3,prs,by rw[ek];exact yL ab,λbd hbd=>?_⟩;refine up_in hbd _ λH33 s33 g33=>?_;have O1:=s32.trans s33;have s2931:=s30.trans s31;have F5:=s2931.trans O1;refine⟨1,Y,_,.str<|Y8 tg<|tg.length-1,Z3<|F5 _ _ R6,bL,sl 2,λw1 hw1=>?_⟩;refine up_in hw1 _ λH34 s34 g34=>?_;refine⟨.tup [.str "worth",.str (Y8 tg<|tg.length-1)],.tup [.str "worth",.str (Y8 tg<|tg.length-1)],hr2.mono<|O1.trans s34,Yu g34<|Z4 Yy<|Z5 Yy,by simp[Dat.dep,Dat.deps],_,rfl,Y1 (by rw[Dat.pq_self];simp) ?_⟩
   have lk:kvs.length=mny R:=by
    have:=congrArg List.length ek;rw[ZA,ZA]at this;exact this.trans lh
   have lus:us1.length=mny R:=by
    have:=hus.length;unfold dnL at this;rw[ZA]at this;exact this.trans lh
   refine⟨bd,kvs,Y,s34 _ _ g33,Y,_,Y,Y1 (by rw[lk];simp) ?_⟩;refine⟨l,_,Y,.inl<|Z3<|s34 _ _<|O1 _ _ hl',rfl,_,rfl,Y1 (by rw[lus];simp) ?_⟩;exact⟨s29.trans<|F5.trans s34,_,_,_,_,rfl⟩
  .rintro U H29 ⟨s29,L,G,J,Z,rfl⟩
   exact⟨F7.trans s29,_,_,_,_,_,Y⟩
 rintro U H27 ⟨F6,M2,L,G,J,Z,rfl⟩;have I4:=F6 _ _ I5;have hnl27:=F6 _ _ I9;refine⟨_,_,Z3 hnl27,a0,_,_,Z3 I4,b0,_,_,Z3 I4,b0,sl 2,λgv hgv=>?_⟩;refine up_in hgv _ λH30 s30 g30=>?_;obtain⟨j1,Rr,SR,gs1,eR,dn⟩:=yF K0
 have mk:∀{Q':VK}(z:Int),z=((mny R-1:Nat):Int)->(∀t r l us Hm S,Same H30 Hm->Same H30 S->S t=some (.tup [r,.ref l])->Rr.out Hm S r->H30 l=none->S l=some (.lst us)->HasL S us (dnL SR)->Q' (.ref t) S)->OZ P w C CK 8 H30 Q' [.ref bx,.str<|Y8 nm 0,.ref gv,.int z,.bl false]:=λz e q=>by
  subst e;exact⟨bx,gv,ks9 R,λ_=>0,cps R,cpD R 0,L2.g2 R,mny R-1,false,j1,Rr,SR,ra (s26.trans<|F6.trans s30) g30,Nat.le_sub_of_add_le<|Zb (by decide) mg4,Zb (qj _ _)<|Zb ml<|by decide,gs1,dn,q⟩
 refine mk _ (Int.ofNat_sub<|Zb (by decide) mg4).symm λt r l us1 Hm H31 sm s31 ht hr' fl' hl' hus=>?_;subst eR;obtain⟨td,rfl,htd⟩:=hr';refine⟨_,_,Z2 ht,at0,sl 1,λd3 hd3=>?_⟩;refine up_in hd3 _ λH32 s32 g32=>?_;refine⟨.tup [.str "dry"],.tup [.str "dry"],zy<|s32 _ _ htd,zy g32,by simp[Dat.dep,Dat.deps],?_⟩;rw[Dat.pq_self];exact q H32
end
def At(K:W.Frag)(f:Addr)(x q:Str)(st:Stmt):Prop:=∃(L:Value)(G:xb)(kV M J:Value)(O:xb)(Z N:Value)(sl:Array (Option Value)),K.lookup f=some ⟨L,G,.func<|W.fnOf x q (JG st) (Vl st) (Yd st) .none kV M J O Z N,sl⟩/\W.codeIn K Z q=true/\W.keepIn K (.ref f)=true
def At.of{K:W.Frag}{f:Addr}{x q:Str}{st:Stmt}{L:Value}{G:xb}{kV M J:Value}{O:xb}{Z N:Value}{sl:Array (Option Value)}(l:K.lookup f=some ⟨L,G,.func<|W.fnOf x q (JG st) (Vl st) (Yd st) .none kV M J O Z N,sl⟩)(d:W.codeIn K Z q=true)(k:W.keepIn K (.ref f)=true):At K f x q st:=⟨L,G,kV,M,J,O,Z,N,sl,l,d,k⟩
section
variable{K:W.Frag}{x q:Str}{st:Stmt}{f:Addr}{fd:FuncData}{ps:pX}
def BA1(x q:Str)(st:Stmt)(ps:pX)(us:pW):Prop:=∀(kV Z G:Value)(M:xb)(J L:Value),bindArgs (W.fnOf x q (JG st) (Vl st) (Yd st) .none kV Z G M J L) ⟨us,[]⟩=pure (ps.zip us)
def Ob:Nat->(List Value->Prop)->Prop
 |0,R=>R []
 |n+1,R=>∀a,Ob n λus=>R (a::us)
theorem Ob.at:∀{n:Nat}{R:List Value->Prop}{Z:pW},Ob n R->Z.length=n->R Z
 |0,_,[],h,_=>h
 |_+1,R,a::_,h,e=>Ob.at (R:=λZ=>R (a::Z)) (h a)<|Nat.succ.inj e
def _root_.L2.Fun.bn(F:Fun K x q st f fd)(ps:pX)(h:Ob ps.length (BA1 x q st ps)):Binds K fd ps []:=F.binds λ_ _ _ _ _ _ _ e=>h.at e _ _ _ _ _ _
def _root_.L2.Fun.b1(F:Fun K x q st f fd)(p:Str)(h:∀a,BA1 x q st [p] [a]:=by exact λ_ _ _ _ _ _ _=>Y):Binds K fd [p] []:=F.bn [p] h
def _root_.L2.Fun.b2(F:Fun K x q st f fd)(p Z:Str)(h:∀a b,BA1 x q st [p,Z] [a,b]:=by exact λ_ _ _ _ _ _ _ _=>Y):Binds K fd [p,Z] []:=F.bn [p,Z] h
def _root_.L2.Fun.b3(F:Fun K x q st f fd)(p J Z:Str)(h:∀a b c,BA1 x q st [p,J,Z] [a,b,c]:=by exact λ_ _ _ _ _ _ _ _ _=>Y):Binds K fd [p,J,Z] []:=F.bn [p,J,Z] h
def _root_.L2.Fun.b4(F:Fun K x q st f fd)(p G J Z:Str)(h:∀a b c d,BA1 x q st [p,G,J,Z] [a,b,c,d]:=by exact λ_ _ _ _ _ _ _ _ _ _=>Y):Binds K fd [p,G,J,Z] []:=F.bn [p,G,J,Z] h
end
def At.fn{K:W.Frag}{f:Addr}{x q:Str}{st:Stmt}(h:At K f x q st):∃Z,Fun K x q st f Z:=by
 obtain⟨_,_,_,_,_,_,_,_,_,l,d,k⟩:=h;exact⟨_,Lv (st:=st) l d k⟩
def GA(K:W.Frag)(x:Str)(f:Addr)(st:Stmt):Prop:=W.nsIn K mainGlobals x=some (some<|.ref f)/\At K f x x st
def GR(K:W.Frag)(a:Addr)(y x:Str)(f:Addr)(st:Stmt):Prop:=W.nsIn K a y=some (some<|.ref f)/\At K f x x st
def GM(K:W.Frag)(C:Addr)(x q:Str)(f:Addr)(st:Stmt):Prop:=(W.findIn K (.ref C) x=some (some<|.ref f)/\W.isFn K (.ref f)=true)/\At K f x q st
def GN(K:W.Frag)(x:Str):Prop:=W.nsIn K mainGlobals x=some none
def GC(K:W.Frag)(x:Str)(f:Addr):Prop:=W.nsIn K mainGlobals x=some (some<|.ref f)
def GV(K:W.Frag)(x:Str)(v:V)(u:Value):Prop:=W.nsIn K mainGlobals x=some (some u)/\RelV v u
def GF(K:W.Frag)(C:Addr)(x:Str):Prop:=W.findIn K (.ref C) x=some none
def GA.go{K:W.Frag}{h:Heap}{J:Str->Option Value}{x:Str}{f:Addr}{st:Stmt}(X:K.In h)(G:h.Ns mainGlobals J)(a:GA K x f st):∃Z,Fun K x x st f Z/\W.keepIn K (.ref f)=true/\J x=some (.ref f):=
 let⟨Z,F⟩:=a.2.fn
 ⟨Z,F,F.kp,W.mg_of X G a.1⟩
def GR.go{K:W.Frag}{c:Addr}{y x:Str}{f:Addr}{st:Stmt}(a:GR K c y x f st):∃Z,Fun K x x st f Z/\W.keepIn K (.ref f)=true/\W.nsIn K c y=some (some<|.ref f):=
 let⟨Z,F⟩:=a.2.fn
 ⟨Z,F,F.kp,a.1⟩
def GM.go{K:W.Frag}{c:Addr}{x q:Str}{f:Addr}{st:Stmt}(a:GM K c x q f st):∃Z,Fun K x q st f Z/\VM K c x f:=
 let⟨Z,F⟩:=a.2.fn
 ⟨Z,F,a.1.1,a.1.2,F.kp⟩
def GV.go{K:W.Frag}{h:Heap}{Z:Str->Option Value}{x:Str}{v:V}{u:Value}(X:K.In h)(G:h.Ns mainGlobals Z)(a:GV K x v u):Z x=some u/\RelV v u:=⟨W.mg_of X G a.1,a.2⟩
structure CA(K:W.Frag)(C:Addr):Prop where
 pg:W.plainGet K C Str.empty=true
 hd:W.hasDictIn K C=true
 po:W.plainOver K C=true
 sa:W.findIn K (.ref C) "__setattr__"=some (some (.builtin "object.__setattr__"))
 ma:W.makesIn K C=true
 kc:W.keepIn K (.ref C)=true
def AtD(K:W.Frag)(f:Addr)(x q:Str)(st:Stmt):Prop:=∃(R:Value)(O:xb)(kV B N:Value)(E:xb)(Z D:Value)(sl:Array (Option Value))(T:Addr)(M:Value)(L:xb)(J:Nat)(G:Array (Option Value)),K.lookup f=some ⟨R,O,.func<|W.fnOf x q (JG st) (Vl st) (Yd st) (.ref T) kV B N E Z D,sl⟩/\W.codeIn K Z q=true/\W.keepIn K (.ref f)=true/\K.lookup T=some ⟨M,L,.seq #[.bool false] J,G⟩
def AtD.of{K:W.Frag}{f T:Addr}{x q:Str}{st:Stmt}{R M:Value}{O L:xb}{kV B N:Value}{E:xb}{Z D:Value}{sl G:Array (Option Value)}{J:Nat}(l:K.lookup f=some ⟨R,O,.func<|W.fnOf x q (JG st) (Vl st) (Yd st) (.ref T) kV B N E Z D,sl⟩)(d:W.codeIn K Z q=true)(k:W.keepIn K (.ref f)=true)(t:K.lookup T=some ⟨M,L,.seq #[.bool false] J,G⟩):AtD K f x q st:=⟨R,O,kV,B,N,E,Z,D,sl,T,M,L,J,G,l,d,k,t⟩
def GAD(K:W.Frag)(x:Str)(f:Addr)(st:Stmt):Prop:=W.nsIn K mainGlobals x=some (some<|.ref f)/\AtD K f x x st
def GAD.go{K:W.Frag}{h:Heap}{Z:Str->Option Value}{x:Str}{f:Addr}{st:Stmt}(X:K.In h)(G:h.Ns mainGlobals Z)(a:GAD K x f st):∃E,N0 K x x st f E/\W.keepIn K (.ref f)=true/\Z x=some (.ref f):=by
 obtain⟨D,B,R,kV,F,O,S,I,A,sl,T,N,M,J,L,l,d,k,t⟩:=a;exact⟨_,⟨⟨B,R,kV,F,O,S,I,A,sl,T,N,M,J,L,Y,l,d,t⟩,k⟩,k,W.mg_of X G D⟩
def all_at{l:W.OpenLaw}{w:World}{K:W.Frag}{h:Heap}{mg:Str->Option Value}{fa CK C CG CO CW CD aR fA f1 f2 f3 f4 f5 f6 f7 f8 f9 f10 f11 f12 f13 f14 f15 f16 f17 f18 f19 f20 f21 f22 f23 f24 f25 f26 f27 f28 f29 f30 f31 f32 f33 f34 f35 f36 f37 f38 f39 f40 f41 f42 f43 f44 f45 f46 f47 f48 f49 f50 f51 f52 f53 f54 f55 f56 f57 f58 f59 f60 f61 f62 f63 f64 f65 f66 f67 f68 f69 f70 f71 f72 f73 f74 f75 f76 f77 f78:Addr}{es:Array DictEntry}{nR:Nat}{u1v u2v u3v u4v u5v u6v u7v u8v u9v u10v u11v u12v:Value}(X:K.In h)(G:h.Ns mainGlobals mg)(hfa:mg "law"=some (.ref fa))(aC:GC K "Kinds" CK)(aB:GC K "Book" C)(aG':GC K "Ground" CG)(aO':GC K "Going" CO)(aW':GC K "Walk" CW)(aD':GC K "Doing" CD)(aU:GC K "RULES" aR)(lR:K.lookup aR=some ⟨.type "dict",none,.dict es nR,#[]⟩)(kR:W.KeysLit w.params es.toList)(aA:GAD K "asked" fA Bn)(a1:GA K "parts" f1 BW)(a2:GA K "part_at" f2 Gx)(a3:GA K "kind_or_place" f3 sKP)(a4:GA K "kind_of_part" f4 Bb)(a5:GA K "is_name" f5 MN)(a6:GA K "is_tag" f6 Bf)(a7:GA K "is_spelt" f7 BU)(a8:GA K "are_parameters" f8 Bo)(a9:GA K "row_count" f9 Wc)(a10:GA K "rows_over" f10 Wb)(a11:GA K "part_of" f11 MK)(a12:GA K "is_row_over" f12 Xg)(a13:GA K "is_asking" f13 Wd)(a14:GA K "check_asking" f14 Uh)(a15:GA K "named" f15 BY)(a16:GA K "check_most" f16 Xh)(a17:GA K "walk_of" f17 MI)(a18:GA K "_law_mixed" f18 BZ)(a19:GA K "_law_stream" f19 MJ)(a20:GA K "_law_take" f20 Iu)(a21:GA K "_law_words" f21 BS)(a22:GA K "_law_small" f22 BV)(a23:GA K "_law_folded" f23 Ma)(a24:GA K "_law_kept" f24 LN)(a25:GA K "_law_counting" f25 DJ)(a26:GA K "law" f26 DI)(a27:GR K aR "tag" "kind_of_tag_body" f27 Iw)(a28:GR K aR "name" "kind_of_name_body" f28 Be)(a29:GR K aR "pair" "kind_of_pair_body" f29 Bc)(a30:GR K aR "one" "kind_of_one_body" f30 Iy)(a31:GR K aR "other" "kind_of_other_body" f31 ML)(a32:GR K aR "choose" "kind_of_choose_body" f32 Gz)(a33:GR K aR "ask" "kind_of_ask_body" f33 I0)(a34:GR K aR "let" "kind_of_let_body" f34 Iz)(a35:GM K CK "__init__" "Kinds.__init__" f35 KA)(a36:GM K CK "take" "Kinds.take" f36 Ba)(a37:GM K CK "take_tags" "Kinds.take_tags" f37 Iv)(a38:GM K CK "names" "Kinds.names" f38 BX)(a39:GM K CK "worths_of" "Kinds.worths_of" f39 Wa)(a40:GM K CK "shape_of" "Kinds.shape_of" f40 Gw)(a41:GM K CK "kind_of_tag" "Kinds.kind_of_tag" f41 MM)(a42:GM K CK "kind_of_pair" "Kinds.kind_of_pair" f42 Gy)(a43:GM K CK "is_worth" "Kinds.is_worth" f43 Xw)(a44:GM K C "__init__" "Book.__init__" f44 Bk)(a45:GM K C "take_heads" "Book.take_heads" f45 Bh)(a46:GM K C "is_head" "Book.is_head" f46 Bl)(a47:GM K C "check_bodies" "Book.check_bodies" f47 MR)(a48:GM K C "kinds" "Book.kinds" f48 MQ)(a49:GM K C "names" "Book.names" f49 MP)(a50:GM K C "parameters" "Book.parameters" f50 Bi)(a51:GM K C "kind_of" "Book.kind_of" f51 Bj)(a52:GM K C "body_of" "Book.body_of" f52 Bm)(a53:GM K C "told_of" "Book.told_of" f53 Bg)(a54:GM K CG "__init__" "Ground.__init__" f54 Ls)(a55:GM K CG "number_at" "Ground.number_at" f55 Dc)(a56:GM K CG "part_given" "Ground.part_given" f56 Xo)(a57:GM K CG "head_given" "Ground.head_given" f57 Xp)(a58:GM K CO "__init__" "Going.__init__" f58 K6)(a59:GM K CO "begin" "Going.begin" f59 B5)(a60:GM K CO "take_head" "Going.take_head" f60 Wm)(a61:GM K CO "go_on" "Going.go_on" f61 K7)(a62:GM K CO "from_body" "Going.from_body" f62 Wo)(a63:GM K CO "from_thing" "Going.from_thing" f63 Xm)(a64:GM K CO "from_head" "Going.from_head" f64 Wn)(a65:GM K CO "with_let" "Going.with_let" f65 TD)(a66:GM K CO "thing_at" "Going.thing_at" f66 X3)(a67:GM K CO "make_cell" "Going.make_cell" f67 XR)(a68:GM K CW "__init__" "Walk.__init__" f68 Fw)(a69:GM K CW "birth_of" "Walk.birth_of" f69 Gj)(a70:GM K CW "done" "Walk.done" f70 Fx)(a71:GM K CW "want" "Walk.want" f71 Fv)(a72:GM K CW "end" "Walk.end" f72 SE)(a73:GM K CW "outcome" "Doing.outcome" f73 Tj)(a74:GM K CW "whole_of" "Doing.whole_of" f74 Ti)(a75:GM K CW "head_of_cell" "Doing.head_of_cell" f75 Ww)(a76:GM K CW "go_into" "Doing.go_into" f76 Mr)(a77:GM K CW "going_of" "Doing.going_of" f77 Tl)(a78:GM K CD "__init__" "Doing.__init__" f78 OB)(z1:GN K "len")(z2:GN K "isinstance")(z3:GN K "bool")(z4:GN K "str")(z5:GN K "int")(z6:GN K "tuple")(z7:GN K "list")(z8:GN K "dict")(z9:GN K "all")(z10:GN K "zip")(z11:GN K "max")(z12:GN K "range")(z13:GN K "sorted")(z14:GN K "min")(z15:GN K "sum")(z16:GN K "enumerate")(z17:GN K "any")(z18:GN K "ValueError")(z19:GN K "repr")(g1:GV K "SMALL" (.str<|Str.ofString "abcdefghijklmnopqrstuvwxyz") u1v)(g2:GV K "GREAT" (.str<|Str.ofString "ABCDEFGHIJKLMNOPQRSTUVWXYZ") u2v)(g3:GV K "LONGEST" (.int 8) u3v)(g4:GV K "MOST_KINDS" (.int 6) u4v)(g5:GV K "MOST_TAGS" (.int 4) u5v)(g6:GV K "MOST_WORTHS" (.int 30) u6v)(g7:GV K "MOST_PAIRS_DEEP" (.int 2) u7v)(g8:GV K "MOST_DEFINITIONS" (.int 8) u8v)(g9:GV K "MOST_PARAMETERS" (.int 3) u9v)(g10:GV K "MOST_ROWS" (.int 200) u10v)(g11:GV K "MOST_ROWS_IN_ALL" (.int 400) u11v)(g12:GV K "MOST_CELLS" (.int 500) u12v)(caCK:CA K CK)(caC:CA K C)(caCG:CA K CG)(caCO:CA K CO)(caCW:CA K CW)(caCD:CA K CD)(nk1:GF K CK "shapes")(nk2:GF K CK "worths")(nk3:GF K CK "heights")(nk4:GF K CK "pairs_deep")(nk5:GF K CK "tag_kinds")(nk6:GF K CK "pair_kinds")(nb1:GF K C "sorts")(nb2:GF K C "told")(nb3:GF K C "rows")(nb4:GF K C "turns")(ng1:GF K CG "book")(ng2:GF K CG "given")(ng3:GF K CG "births")(ng4:GF K CG "numbers")(ng5:GF K CG "starts")(no1:GF K CO "ground")(no2:GF K CO "number")(no3:GF K CO "f")(no4:GF K CO "place")(no5:GF K CO "known")(no6:GF K CO "body")(no7:GF K CO "waiting")(nw1:GF K CW "ground")(nw2:GF K CW "most")(nw3:GF K CW "begun")(nw4:GF K CW "under_way")(nw5:GF K CW "wanters")(nw6:GF K CW "wants")(nw7:GF K CW "heads")(y1:W.specialIn K (.ref CD) "__getattribute__"=some (some<|.builtin "type.__getattribute__"))(y2:W.readsIn K CD (.type "type")=true)(y3:W.findCls K (.ref CD) (.type "type") "__init__"=some (.val<|.ref f78)):∃fd:FuncData,(∀(s:Shared)(v:Value),BindsTo s fd ⟨[v],[]⟩ [("script",v)])/\∀base:Heap,K.In base->base.Ns mainGlobals mg->Ye l.prog w K mg base CX0 120 fa fd ["script"] (ED K):=by
 have e:=hfa.symm.trans<|W.mg_of X G a26.1;cases e;obtain⟨d1,F1,k1,m1⟩:=a1.go X G;obtain⟨d2,F2,k2,m2⟩:=a2.go X G;obtain⟨d3,F3,k3,m3⟩:=a3.go X G;obtain⟨d4,F4,k4,m4⟩:=a4.go X G;obtain⟨d5,F5,k5,m5⟩:=a5.go X G;obtain⟨d6,F6,k6,m6⟩:=a6.go X G;obtain⟨d7,F7,k7,m7⟩:=a7.go X G;obtain⟨d8,F8,k8,m8⟩:=a8.go X G;obtain⟨d9,F9,k9,m9⟩:=a9.go X G;obtain⟨d10,F10,k10,m10⟩:=a10.go X G;obtain⟨d11,F11,k11,m11⟩:=a11.go X G;obtain⟨d12,F12,k12,m12⟩:=a12.go X G;obtain⟨d13,F13,k13,m13⟩:=a13.go X G;obtain⟨d14,F14,k14,m14⟩:=a14.go X G;obtain⟨d15,F15,k15,m15⟩:=a15.go X G;obtain⟨d16,F16,k16,m16⟩:=a16.go X G;obtain⟨d17,F17,k17,m17⟩:=a17.go X G;obtain⟨d18,F18,k18,m18⟩:=a18.go X G;obtain⟨d19,F19,k19,m19⟩:=a19.go X G;obtain⟨d20,F20,k20,m20⟩:=a20.go X G;obtain⟨d21,F21,k21,m21⟩:=a21.go X G;obtain⟨d22,F22,k22,m22⟩:=a22.go X G;obtain⟨d23,F23,k23,m23⟩:=a23.go X G;obtain⟨d24,F24,k24,m24⟩:=a24.go X G;obtain⟨d25,F25,k25,m25⟩:=a25.go X G;obtain⟨_,_,kV,dc,pm,an,cd,ct,_,l',d',k26⟩:=a26.2;have F26:=Lv (st:=DI) l' d' k26;obtain⟨d27,F27,k27,a27⟩:=a27.go;obtain⟨d28,F28,k28,a28⟩:=a28.go;obtain⟨d29,F29,k29,a29⟩:=a29.go;obtain⟨d30,F30,k30,a30⟩:=a30.go;obtain⟨d31,F31,k31,a31⟩:=a31.go;obtain⟨d32,F32,k32,a32⟩:=a32.go;obtain⟨d33,F33,k33,a33⟩:=a33.go;obtain⟨d34,F34,k34,a34⟩:=a34.go;obtain⟨d35,F35,w35⟩:=a35.go;obtain⟨d36,F36,w36⟩:=a36.go;obtain⟨d37,F37,w37⟩:=a37.go;obtain⟨d38,F38,w38⟩:=a38.go;obtain⟨d39,F39,w39⟩:=a39.go;obtain⟨d40,F40,w40⟩:=a40.go;obtain⟨d41,F41,w41⟩:=a41.go;obtain⟨d42,F42,w42⟩:=a42.go;obtain⟨d43,F43,w43⟩:=a43.go;obtain⟨d44,F44,w44⟩:=a44.go;obtain⟨d45,F45,w45⟩:=a45.go;obtain⟨d46,F46,w46⟩:=a46.go;obtain⟨d47,F47,w47⟩:=a47.go;obtain⟨d48,F48,w48⟩:=a48.go;obtain⟨d49,F49,w49⟩:=a49.go;obtain⟨d50,F50,w50⟩:=a50.go;obtain⟨d51,F51,w51⟩:=a51.go;obtain⟨d52,F52,w52⟩:=a52.go;obtain⟨d53,F53,w53⟩:=a53.go;obtain⟨d54,F54,w54⟩:=a54.go;obtain⟨d55,F55,w55⟩:=a55.go;obtain⟨d56,F56,w56⟩:=a56.go;obtain⟨d57,F57,w57⟩:=a57.go;obtain⟨d58,F58,w58⟩:=a58.go;obtain⟨d59,F59,w59⟩:=a59.go;obtain⟨d60,F60,w60⟩:=a60.go;obtain⟨d61,F61,w61⟩:=a61.go;obtain⟨d62,F62,w62⟩:=a62.go;obtain⟨d63,F63,w63⟩:=a63.go;obtain⟨d64,F64,w64⟩:=a64.go;obtain⟨d65,F65,w65⟩:=a65.go;obtain⟨d66,F66,w66⟩:=a66.go;obtain⟨d67,F67,w67⟩:=a67.go;obtain⟨d68,F68,w68⟩:=a68.go;obtain⟨d69,F69,w69⟩:=a69.go;obtain⟨d70,F70,w70⟩:=a70.go;obtain⟨d71,F71,w71⟩:=a71.go;obtain⟨d72,F72,w72⟩:=a72.go;obtain⟨d73,F73,w73⟩:=a73.go;obtain⟨d74,F74,w74⟩:=a74.go;obtain⟨d75,F75,w75⟩:=a75.go;obtain⟨d76,F76,w76⟩:=a76.go;obtain⟨d77,F77,w77⟩:=a77.go;obtain⟨d78,F78,w78⟩:=a78.go;obtain⟨dA,FA,kA,mA⟩:=aA.go X G;have mC:=W.mg_of X G aC;have mB:=W.mg_of X G aB;have mG:=W.mg_of X G aG';have mO:=W.mg_of X G aO';have mW:=W.mg_of X G aW';have mD:=W.mg_of X G aD';have mU:=W.mg_of X G aU;have B:Blt mg:=⟨ju X G z1,ju X G z2,ju X G z3,ju X G z4,ju X G z5,ju X G z6,ju X G z7,ju X G z8,ju X G z9,ju X G z10,ju X G z11,ju X G z12,ju X G z13⟩;have nmin:=ju X G z14;have nsum:=ju X G z15;have nenumerate:=ju X G z16;have nany:=ju X G z17;have nValueError:=ju X G z18;have nrepr:=ju X G z19;obtain⟨q1,r1⟩:=g1.go X G;obtain⟨q2,r2⟩:=g2.go X G;obtain⟨q3,r3⟩:=g3.go X G;obtain⟨q4,r4⟩:=g4.go X G;obtain⟨q5,r5⟩:=g5.go X G;obtain⟨q6,r6⟩:=g6.go X G;obtain⟨q7,r7⟩:=g7.go X G;obtain⟨q8,r8⟩:=g8.go X G;obtain⟨q9,r9⟩:=g9.go X G;obtain⟨q10,r10⟩:=g10.go X G;obtain⟨q11,r11⟩:=g11.go X G;obtain⟨q12,r12⟩:=g12.go X G;have T:KCl K CK:=⟨⟨caCK.pg,caCK.hd,caCK.po,caCK.sa⟩,nk1,nk2,nk3,nk4,nk5,nk6⟩;have TB:BCl K C:=⟨⟨caC.pg,caC.hd,caC.po,caC.sa⟩,nb1,nb2,nb3,nb4⟩;have TG:GCl K CG:=⟨⟨caCG.pg,caCG.hd,caCG.po,caCG.sa⟩,ng1,ng2,ng3,ng4,ng5⟩;have TO:OCl K CO:=⟨⟨caCO.pg,caCO.hd,caCO.po,caCO.sa⟩,no1,no2,no3,no4,no5,no6,no7⟩;have TW:WCl K CW:=⟨⟨⟨caCW.pg,caCW.hd,caCW.po,caCW.sa⟩,nw1,nw2,nw3,nw4⟩,nw5,nw6,nw7⟩;refine⟨W.fnOf "law" "law" (JG DI) (Vl DI) (Yd DI) .none kV dc pm an cd ct,λs v=>.of_eq Y,λbase hIn _=>?_⟩;have tk:∀n,Ye l.prog w K mg base CX0 (n+2) f20 _ ["stream","many"] Rx:=λn=>Pe F20 (Kq (n:=n) F18) (F18.b2 _ _) k18 m18;have wo:∀n,Ye l.prog w K mg base CX0 (n+3) f21 _ ["stream","many","letters","ways"] GP:=λn=>Kk B F21 (tk n) (F20.b2 _ _) k20 m20;have sm:∀n,Ye l.prog w K mg base CX0 (n+4) f22 _ ["stream","many"] Ry:=λn=>Ko F22 (wo n) (F21.b4 _ _ _ _) k21 m21;have pA:Ye l.prog w K mg base CX0 1 f1 _ _ Xt:=ok_parts (n:=0) B F1;have sp:Ye l.prog w K mg base CX0 1 f7 _ _ GQ:=Kn (n:=0) B F7 q3 r3;have na:Ye l.prog w K mg base CX0 2 f5 _ _ (U4 97):=FQ (n:=1) F5 sp (F7.b2 _ _) k7 m7 q1 r1;have ta:Ye l.prog w K mg base CX0 2 f6 _ _ (U4 65):=Kx (n:=1) F6 sp (F7.b2 _ _) k7 m7 q2 r2;have tt:Ye l.prog w K mg base CX0 3 f37 _ _ (BF CK):=Pf (n:=2) B T F37 q5 r5 ta (F6.b1 _) k6 m6;have kt:Ye l.prog w K mg base CX0 4 f36 _ _ (R0 CK):=Ks (n:=3) B T F36 (na.mono<|by decide) (F5.b1 _) k5 m5 tt (F37.b3 _ _ _) w37;have ini:Ye l.prog w K mg base CX0 5 f35 _ _ (BH CK):=Pm (n:=4) B T F35 q4 r4 kt (F36.b3 _ _ _) w36;have knm:Ye l.prog w K mg base CX0 1 f38 _ _ (XJ CK):=Kp (n:=0) B T F38;have kwo:Ye l.prog w K mg base CX0 1 f39 _ _ (UC CK):=NN (n:=0) B T F39;have ksh:Ye l.prog w K mg base CX0 1 f40 _ _ (XI CK):=B1 (n:=0) T F40;have kto:Ye l.prog w K mg base CX0 1 f41 _ _ (Gp CK):=FP (n:=0) T F41;have kpo:Ye l.prog w K mg base CX0 1 f42 _ _ (WU CK):=B4 (n:=0) T F42;have bki:Ye l.prog w K mg base CX0 1 f48 _ _ (JY C CK):=FS (n:=0) TB F48;have bnm:Ye l.prog w K mg base CX0 1 f49 _ _ (U5 C CK):=FR (n:=0) B TB F49;have to:Ye l.prog w K mg base CX0 1 f53 _ _ (Gm C CK):=Pd (n:=0) B TB F53;have cP:Ye l.prog w K mg base CX0 2 f50 _ _ (Gn C CK):=Pg (n:=1) TB F50 w53 to<|F53.b2 _ _;have cK:Ye l.prog w K mg base CX0 2 f51 _ _ (Rz C CK):=Kw (n:=1) TB F51 w53 to<|F53.b2 _ _;have cY:Ye l.prog w K mg base CX0 2 f52 _ _ (MA C CK):=K1 (n:=1) TB F52 w53 to<|F53.b2 _ _;have kpt:Ye l.prog w K mg base CX0 2 f4 _ _ (GS C CK):=Kt (n:=1) TB T F4 w48 (bki) (F48.b1 _) w40 (ksh)<|F40.b2 _ _;have R1:RA l.prog w K mg base C CK (λk=>findBy V1 es k) "tag" _:=⟨f27,_,U7 lR a27,Pi (n:=2) TB T F27 w48 ((bki.mono<|by decide)) (F48.b1 _) w41 ((kto.mono<|by decide))<|F41.b2 _ _,k27,F27.b4 _ _ _ _⟩;have R2:RA l.prog w K mg base C CK (λk=>findBy V1 es k) "name" _:=⟨f28,_,U7 lR a28,Kv (n:=2) F28,k28,F28.b4 _ _ _ _⟩;have R3:RA l.prog w K mg base C CK (λk=>findBy V1 es k) "pair" _:=⟨f29,_,U7 lR a29,Ku (n:=2) TB T F29 w48 ((bki.mono<|by decide)) (F48.b1 _) w42 ((kpo.mono<|by decide))<|F42.b3 _ _ _,k29,F29.b4 _ _ _ _⟩;have R4:RA l.prog w K mg base C CK (λk=>findBy V1 es k) "one" _:=⟨f30,_,U7 lR a30,Pj (n:=2) F30 ⟨f4,_,m4,k4,F4.b3 _ _ _,kpt⟩,k30,F30.b4 _ _ _ _⟩;have R5:RA l.prog w K mg base C CK (λk=>findBy V1 es k) "other" _:=⟨f31,_,U7 lR a31,FO (n:=2) F31 ⟨f4,_,m4,k4,F4.b3 _ _ _,kpt⟩,k31,F31.b4 _ _ _ _⟩;have R6:RA l.prog w K mg base C CK (λk=>findBy V1 es k) "choose" _:=⟨f32,_,U7 lR a32,B3 (n:=0) B nany TB T F32 w48 ((bki.mono<|by decide)) (F48.b1 _) w40 ((ksh.mono<|by decide))<|F40.b2 _ _,k32,F32.b4 _ _ _ _⟩;have R7:RA l.prog w K mg base C CK (λk=>findBy V1 es k) "ask" _:=⟨f33,_,U7 lR a33,Pl (n:=0) TB F33 w49 ((bnm.mono<|by decide)) (F49.b1 _) w50 (cP) (F50.b2 _ _) w51 (cK)<|F51.b2 _ _,k33,F33.b4 _ _ _ _⟩;have R8:RA l.prog w K mg base C CK (λk=>findBy V1 es k) "let" _:=⟨f34,_,U7 lR a34,Pk (n:=2) F34,k34,F34.b4 _ _ _ _⟩;have kp:Ye l.prog w K mg base CX0 16 f3 _ _ (RC C CK 13):=Qt B nenumerate TB T F3 (F3.b3 _ _ _) m3 w48 (bki.mono<|by decide) (F48.b1 _) w38 (knm.mono<|by decide) (F38.b1 _) ⟨f1,_,m1,k1,F1.b1 _,pA.mono<|by decide⟩ mU (P0 hIn lR kR) (λL=>KE L R1 R2 R3 R4 R5 R6 R7 R8) 13;have ap:Ye l.prog w K mg base CX0 3 f8 _ _ (MD CK):=K3 (n:=2) B T F8 q9 r9 ⟨f5,_,m5,k5,F5.b1 _,na⟩ w38 ((knm.mono<|by decide))<|F38.b1 _;have rc:Ye l.prog w K mg base CX0 2 f9 _ _ (Xe CK):=NP (n:=1) B T F9 w39 (kwo)<|F39.b2 _ _;have ro:Ye l.prog w K mg base CX0 2 f10 _ _ (Xd CK):=NO (n:=1) B T F10 w39 (kwo)<|F39.b2 _ _;have ih:Ye l.prog w K mg base CX0 4 f46 _ _ (MC C CK):=K2 (n:=3) TB T F46 ⟨f5,_,m5,k5,F5.b1 _,na.mono<|by decide⟩ ⟨f8,_,m8,k8,F8.b2 _ _,ap⟩ w38 ((knm.mono<|by decide))<|F38.b1 _;have th:Ye l.prog w K mg base CX0 5 f45 _ _ (Id C CK):=Kz (n:=4) B nenumerate TB F45 q8 r8 q10 r10 q11 r11 w46 ih (F46.b4 _ _ _ _) ⟨f9,_,m9,k9,F9.b2 _ _,rc.mono<|by decide⟩ ⟨f10,_,m10,k10,F10.b2 _ _,ro.mono<|by decide⟩;have cb:Ye l.prog w K mg base CX0 17 f47 _ _ (Sh C CK):=AW (n:=16) B nenumerate TB F47 w49 (bnm.mono<|by decide) (F49.b1 _) ⟨f3,_,m3,k3,F3.b3 _ _ _,kp⟩;have bi:Ye l.prog w K mg base CX0 18 f44 _ _ (Sg C CK):=AV (n:=17) (m:=5) (by decide) TB F44 ⟨caCK.ma,w35.1,w35.2,caCK.kc⟩ mC ini (F35.b2 _ _) w45 (th.mono<|by decide) (F45.b2 _ _) w47 cb<|F47.b1 _;have pat:Ye l.prog w K mg base CX0 2 f2 _ _ J8:=B2 (n:=1) F2 ⟨f1,_,m1,k1,F1.b1 _,pA⟩;have iw:Ye l.prog w K mg base CX0 4 f43 _ _ (ND CK 3):=LR B T F43 (F43.b3 _ _ _) w43 3;have iro:Ye l.prog w K mg base CX0 5 f12 _ _ (SW CK):=C5 (n:=4) B T F12 w43 iw<|F43.b3 _ _ _;have ia:Ye l.prog w K mg base CX0 6 f13 _ _ (E7 C CK<|.bl true):=zB (n:=5) TB F13 w49 (bnm.mono<|by decide) (F49.b1 _) w48 (bki.mono<|by decide) (F48.b1 _) w50 (cP.mono<|by decide) (F50.b2 _ _) ⟨f12,_,m12,k12,F12.b3 _ _ _,iro⟩;have cka:Ye l.prog w K mg base CX0 7 f14 _ _ (E7 C CK .non):=zH (n:=6) F14 ⟨f13,_,m13,k13,F13.b3 _ _ _,ia⟩;have ckm:Ye l.prog w K mg base CX0 1 f16 _ _ Sf:=zG (n:=0) F16;have nam:Ye l.prog w K mg base CX0 3 f15 _ _ (IW C CK):=C8 (n:=2) B TB F15 w50 (cP)<|F50.b2 _ _;have po:Ye l.prog w K mg base CX0 1 f11 _ _ SX:=C6 (n:=0) B F11;have pg:Ye l.prog w K mg base CX0 2 f56 _ _ (SY CG):=C7 (n:=1) B nany TG F56 ⟨f11,_,m11,k11,F11.b2 _ _,po⟩;have hg:Ye l.prog w K mg base CX0 3 f57 _ _ (Sa CG):=zC (n:=2) B TG F57 w56 pg<|F56.b3 _ _ _;have na:Ye l.prog w K mg base CX0 1 f55 _ _ (IX l.prog w CG):=C9 (n:=0) B TG F55;have gi:Ye l.prog w K mg base CX0 4 f54 _ _ (IZ l.prog w C CK CG):=AR (n:=3) B TG F54 ⟨f15,_,m15,k15,F15.b3 _ _ _,nam⟩;have oi':Ye l.prog w K mg base CX0 3 f58 _ _ (IU l.prog w C CK CG CO):=AJ (L:=2) TB TG TO F58 w52 (cY)<|F52.b2 _ _;have tf:=QY (P:=l.prog) (w:=w) (C:=C) (CK:=CK) (base:=base) (L:=3) B TG TO F66 F67 ⟨f2,_,m2,k2,F2.b2 _ _,pat.mono<|by decide⟩ ⟨f15,_,m15,k15,F15.b3 _ _ _,nam⟩ w55 (na.mono<|by decide) (F55.b3 _ _ _) w66 (F66.b3 _ _ _) w67<|F67.b4 _ _ _ _;have wl:Ye l.prog w K mg base CX0 21 f65 _ _ (SU l.prog w C CK CG CO 8):=C2 (L:=20) B TG TO F65 w55 (na.mono<|by decide) (F55.b3 _ _ _) w67 ((tf 8).2)<|F67.b4 _ _ _ _;have fb:Ye l.prog w K mg base CX0 22 f62 _ _ (Ic l.prog w C CK CG CO 8):=AU (L:=21) TO F62 ⟨f2,_,m2,k2,F2.b2 _ _,pat.mono<|by decide⟩ w66 ((tf 9).1) (F66.b3 _ _ _) w65 (wl)<|F65.b4 _ _ _ _;have ft:Ye l.prog w K mg base CX0 4 f63 _ _ (Ia CG CO):=AS (n:=3) TG TO F63 w57 (hg)<|F57.b3 _ _ _;have fh:Ye l.prog w K mg base CX0 4 f64 _ _ (Ib CO):=AT (n:=0) nenumerate TO F64;have go:Ye l.prog w K mg base CX0 23 f61 _ _ (EE l.prog w C CK CG CO 8):=AQ (L:=22) B TO F61 w62 (fb) (F62.b3 _ _ _) w63 (ft.mono<|by decide) (F63.b2 _ _) w64 (fh.mono<|by decide)<|F64.b2 _ _;have beg:Ye l.prog w K mg base CX0 24 f59 _ _ (BM l.prog w C CK CG CO 8):=Pr (L:=23) TO F59 w61 (go)<|F61.b2 _ _;have thd:Ye l.prog w K mg base CX0 24 f60 _ _ (IT l.prog w C CK CG CO 8):=AI (L:=23) TO F60 w61 (go)<|F61.b2 _ _;have who:Ye l.prog w K mg base CX0 1 f74 _ _ IR:=AH (n:=0) F74;have bir:Ye l.prog w K mg base CX0 1 f69 _ _ (BL l.prog w CG CW):=Pq (n:=0) TW TG F69;have wen:Ye l.prog w K mg base CX0 1 f72 _ _ (Rw true l.prog w C CK CG CO CW):=Kl (n:=0) TW F72;have gof:Ye l.prog w K mg base CX0 5 f77 _ _ (BJ true l.prog w C CK CG CO CW):=Pn (n:=3) TW.toDCl F77 mO ⟨caCO.ma,w58.1,w58.2,caCO.kc⟩ oi'<|F58.b3 _ _ _;have gin:Ye l.prog w K mg base CX0 25 f76 _ _ (BK true l.prog w C CK CG CO CW 8):=Pp (L:=24) TW.toDCl TO F76 w77 (gof.mono<|by decide) (F77.b2 _ _) w59 (beg)<|F59.b1 _;have wan:Ye l.prog w K mg base CX0 26 f71 _ _ (Rv true l.prog w C CK CG CO CW 8):=Km (L:=25) B TW TO F71 w76 (gin)<|F76.b2 _ _;have hoc:Ye l.prog w K mg base CX0 27 f75 _ _ (IY true l.prog w C CK CG CO CW 8):=AO (L:=26) B TW.toDCl TO F75 w71 (wan) (F71.b2 _ _) w72 (wen.mono<|by decide) (F72.b3 _ _ _) w60 (thd.mono<|by decide)<|F60.b2 _ _;have out:Ye l.prog w K mg base CX0 28 f73 _ _ (BG true l.prog w C CK CG CO CW 8):=Ph (L:=27) TW.toDCl F73 w75 (hoc) (F75.b2 _ _) w74 (who.mono<|by decide)<|F74.b2 _ _;have don:Ye l.prog w K mg base CX0 2 f70 _ _ (R9 l.prog w C CK CG CO CW):=Ky (L:=1) TW F70 w69 (bir)<|F69.b2 _ _;have din:Ye l.prog w K mg base CX0 1 f78 _ _ (Sd CW):=zE (n:=0) TW.toDCl F78;have win:Ye l.prog w K mg base CX0 2 f68 _ _ (SV CW):=C3 (n:=1) TW F68 mD ⟨y1,y2,y3,w78.kp⟩ din<|F78.b3 _ _ _;have wao:Ye l.prog w K mg base CX0 9 f17 _ _ (IS l.prog w C CK CG CO CW):=AG (n:=7) F17 ⟨f14,_,m14,k14,F14.b3 _ _ _,cka.mono<|by decide⟩ ⟨f16,_,m16,k16,F16.b2 _ _,ckm.mono<|by decide⟩ q12 r12 mW ⟨caCW.ma,w68.1,w68.2,caCW.kc⟩ (win.mono<|by decide) (F68.b3 _ _ _) mG ⟨caCG.ma,w54.1,w54.2,caCG.kc⟩ (gi.mono<|by decide)<|F54.b4 _ _ _ _;have ask:Ye l.prog w K mg base CX0 29 fA _ _ (BN l.prog w C CK 8):=Ps (L:=28) TW FA ⟨f17,_,m17,k17,F17.b4 _ _ _ _,wao.mono<|by decide⟩ w73 (out) (F73.b2 _ _) w70 (don.mono<|by decide)<|F70.b1 _;have fo:Ye l.prog w K mg base CX0 4 f23 _ _ (Sb K):=zD (n:=0) B nenumerate F23;have kpp:Ye l.prog w K mg base CX0 3 f24 _ _ SZ:=AM (n:=2) B F24 ⟨f20,_,m20,k20,F20.b2 _ _,tk 0⟩;have ctt:Ye l.prog w K mg base CX0 1 f25 _ _ Se:=zF (n:=0) B F25;exact AL (n:=0) (C:=C) (CK:=CK) B nrepr F26 ⟨f19,_,m19,k19,F19.b1 _,FN (n:=118) F19⟩ ⟨f21,_,m21,k21,F21.b4 _ _ _ _,wo 116⟩ ⟨f22,_,m22,k22,F22.b2 _ _,sm 115⟩ ⟨f23,_,m23,k23,F23.b2 _ _,fo.mono<|by decide⟩ ⟨f24,_,m24,k24,F24.b3 _ _ _,kpp.mono<|by decide⟩ ⟨f25,_,m25,k25,F25.b4 _ _ _ _,ctt.mono<|by decide⟩ mA kA (ask.mono<|by decide) (FA.b5 _ _ _ _ _) (FA.b4 _ _ _ _ _) mB ⟨caC.ma,w44.1,w44.2,caC.kc⟩ (bi.mono<|by decide)<|F44.b3 _ _ _
def goes{l:W.OpenLaw}{q:Program}{loose:pX}{XP:(Str->Option Value)->Heap->Prop}{YP:World->Heap->Prop}{d:DefRec}{K:Params->W.Frag}(hn:l.most=some 63)(hdf:d.params.defaults=[])(hY:∀(w:World)(h:Heap),YP w h->(K w.params).In h)(F:∀(w:World)(mg:Str->Option Value)(fa:Addr)(h:Heap),(K w.params).In h->h.Ns mainGlobals mg->mg d.name=some (.ref fa)->
   ∃fd:FuncData,(∀(s:Shared)(u:Value),BindsTo s fd ⟨[u],[]⟩ [("script",u)])/\∀base:Heap,(K w.params).In base->base.Ns mainGlobals mg->Ye l.prog w (K w.params) mg base CX0 120 fa fd ["script"] (ED<|K w.params)):
  W.WalkO q loose XP YP l.row.toRowW d [] (λf vs=>PySem.call f vs):=
 L2.walk_of (n:=63) (k:=120) (x:="script") (CX:=λ_=>CX0) (sp:=λw=>ED<|K w.params) hn (by decide) hdf ⟨rfl,by decide,by decide,rfl⟩ hY F (λ_ _ a ns hl _ hS=>⟨a,ns,hS,hl,λ_=>rfl⟩) λ_ _ _ _ _ z=>z
end K4
end
namespace PySem.W.Fast
def tw16222543281287384987:=()
def tw85042754132493432:=()
def tw10200262695035368121:=()
def tw15722257120978807015:=()
def tw8971241875053474898:=()
def tw8809399640275627756:=()
def tw4337737111109712243:=()
def tw17113963708077000639:=()
def tw8052900696937648733:=()
def tw660166759765260072:=()
def tw1054456812353925701:=()
def tw5089782438043372134:=()
def tw13420978359358752431:=()
def tw7014330629998996640:=()
def tw2397897645200398978:=()
def tw13062366978578053081:=()
def tw18253235313980291617:=()
def tw11087125243312450204:=()
def tw11426372238293549803:=()
def tw8442431151603203981:=()
def tw4263497832850434386:=()
def tw11642114101110898017:=()
def tw342339256140548099:=()
def tw6761903263502316809:=()
def tw8449142564270701308:=()
def tw6811354007465793595:=()
def tw12408836375408626003:=()
def tw2513516551670252578:=()
def tw15837958865801220248:=()
def tw14979525186733297699:=()
def tw4164648509869666041:=()
def tw6477115390183292528:=()
def tw5895383183033541087:=()
def tw3620099813540107544:=()
def tw16465970604111305968:=()
def tw8633629704838586101:=()
def tw4611221332499429458:=()
def tw9974599278559714520:=()
def tw3329166612101984702:=()
def tw2911554995202819132:=()
def tw5764968737442682326:=()
def tw9872061569732075041:=()
def tw7782201095724637298:=()
def tw10234493690720386363:=()
def tw3654011400366927016:=()
def tw1948831994539531186:=()
def tw12812750954873123146:=()
def tw18431907009787331248:=()
def tw2221148201961154868:=()
def tw5759185497388276119:=()
def tw17378550558397560949:=()
def tw15999121412473888496:=()
def tw5371294180562643467:=()
def tw8772201690549730351:=()
def tw9521657143933507089:=()
def tw7151662667855904077:=()
def tw513654808915046886:=()
def tw13228886073021384747:=()
def tw7930266986951326965:=()
def tw1746057466415033250:=()
def tw7670242560641457576:=()
def tw15142064698000880254:=()
def tw11942532293322984367:=()
def tw15138672025422392289:=()
def tw12046627602278469143:=()
def tw14495281325326959710:=()
def tw12873392174762657471:=()
def tw16690437975130230127:=()
def tw17030508966505837720:=()
def tw17997830235783025084:=()
def tw12803453921097228907:=()
def tw17049604961584761658:=()
def tw18199858898629997964:=()
def tw3859220048579212436:=()
def tw13941508140948234381:=()
def tw2080406208521408694:=()
def tw16157589051480365458:=()
def tw7124091517128559277:=()
def tw10472989809826950620:=()
def tw8026003815491901898:=()
def tw15376876216565249373:=()
def tw1522728512390307483:=()
def tw10240283838388199251:=()
def tw11662667363876672222:=()
def tw1042001701013149446:=()
def tw17755705511747269208:=()
def tw16315383514454864784:=()
def tw13406579993285285884:=()
def tw183699781554446981:=()
def tw9970290946891310584:=()
def tw1211948200621763127:=()
def tw7503677840551935744:=()
def tw10349563864385785617:=()
def tw1618437177627261073:=()
def tw18437427467769021961:=()
def tw7377536272224625370:=()
def tw5068218743894431250:=()
def tw4827665335632872797:=()
def tw10339970383709189784:=()
def tw1323344531085132762:=()
def tw8331377815446520018:=()
def tw16418523098214726089:=()
def tw14371310933409530711:=()
def tw1601234996466055115:=()
def tw6804132311248184472:=()
def tw6455958183314016259:=()
def tw2017327789116413819:=()
def tw10194162826290376222:=()
def tw2209641099875442110:=()
def tw18114597742595787930:=()
def tw15124219189537321070:=()
def tw7988021860463902550:=()
def tw14248593799693918836:=()
def tw13875033742627937773:=()
def tw11956399753231343945:=()
def tw11448869329753433091:=()
def tw10939574065633390340:=()
def tw6302730890221257074:=()
def tw10314888484059708870:=()
def tw5195704232952067585:=()
def tw2797375526610322445:=()
def tw4249721955350613306:=()
def tw14576172038031272483:=()
def tw16776788404199055030:=()
def tw11073717729555972369:=()
def tw11128985051247012434:=()
def tw1368862960222382279:=()
def tw208883601504557568:=()
def tw10387165457435639571:=()
def tw5708197773589332528:=()
def tw6781524020264301612:=()
def tw8556814450701301804:=()
def tw1152754521077159113:=()
def tw3077804576125086555:=()
def tw9515690764074859205:=()
def tw5758138534435150771:=()
def tw4564923958317733895:=()
def tw16630028404481276329:=()
def tw15326133687345547649:=()
def tw2548359109637499393:=()
def tw5821753124491978476:=()
def tw13973890982422542906:=()
def tw9401933093246837899:=()
def tw991188133309858589:=()
def tw8242469271878595490:=()
def tw2289834965871319250:=()
def tw13244053120631242451:=()
def tw1530406319452043420:=()
def tw17133857210240617079:=()
def tw2112881375047023524:=()
def tw16384469765004264186:=()
def tw7286563562238815014:=()
def tw9632173906540252739:=()
def tw1560752026859275625:=()
def tw2224209528962740058:=()
def tw17911879722807708899:=()
def tw4304239172500826:=()
def tw4712554877852913277:=()
def tw984216038731706440:=()
def tw16424123676950002917:=()
def tw18148586546597039120:=()
def tw6755999737881223722:=()
def tw4624051717310482189:=()
def tw6708714208266305699:=()
def tw667675860388601505:=()
def tw1311275830907414490:=()
def tw6110309906960305747:=()
def tw14974876374251917680:=()
def tw14602033466057377192:=()
def tw6144995171626208767:=()
def tw15681116698267851679:=()
def tw11460658190077981658:=()
def tw16987884314176194389:=()
def tw5568936273610878634:=()
def tw2461265984606151812:=()
def tw1733320768043598086:=()
def tw12267767078823637391:=()
def tw16793267140867059262:=()
def tw12618892090254649366:=()
def tw2493055470534725450:=()
def tw8615834499424020623:=()
def tw9250441847842379546:=()
def tw7018114447999468063:=()
def tw5881022002818131766:=()
def tw13397579140308140366:=()
def tw9301297292608970299:=()
def tw6779849199756449645:=()
def tw1046913226695625124:=()
def tw10472776886968390364:=()
def tw7362182141552022185:=()
def tw11953651474674812264:=()
def tw17844579603138326794:=()
def tw15971869321608115349:=()
def tw5836990414645867644:=()
def tw2593277345729072640:=()
def tw7572205501389311530:=()
def tw5227116407781227820:=()
def tw1424525126135520343:=()
def tw3677176039925311:=()
def tw3052816248393057860:=()
def tw5652790908309695863:=()
def tw8451467925134015215:=()
def tw16325278990074613718:=()
def tw17165167856219316813:=()
def tw3005126847759386689:=()
def tw14937821640739116466:=()
def tw5539041391870240986:=()
def tw5237972006463904912:=()
def tw14113772590389537009:=()
def tw5474034065459691497:=()
def tw6381603483323785928:=()
def tw9306232627485676543:=()
def tw6035695194349154343:=()
def tw6430990827634742795:=()
def tw7983694236914112556:=()
def tw9276066783609496503:=()
def tw18023060070279564298:=()
def tw13637814653276725259:=()
def tw14057253029452378988:=()
def tw2142616510705278870:=()
def tw15456289795971696623:=()
def tw797813303139372398:=()
def tw14341729419818794241:=()
def tw10622465124665950150:=()
def tw12226951503582589148:=()
def tw4093464813874603422:=()
def tw10694184219531791821:=()
def tw12283671615347288476:=()
def tw9349911855121559272:=()
def tw13019958770182527399:=()
def tw12149696314512151598:=()
def tw4689094934416206205:=()
def tw2733731779698412079:=()
def tw996643397478052042:=()
def tw15080612364808856944:=()
def tw4711369148301937807:=()
def tw17038496151721209237:=()
def tw16482429593587975256:=()
def tw3459792938105497462:=()
def tw4974352337535895785:=()
def tw9659359374368206971:=()
def tw8164400309837519117:=()
def tw4737364679934379655:=()
def tw11161500117687398881:=()
def tw9938811287022533239:=()
def tw6800208434176650151:=()
def tw7680230722682429600:=()
def tw12480172723458715029:=()
def tw8808805743916220646:=()
def tw13991736377718203111:=()
def tw599749530902203865:=()
def tw4775153581406314595:=()
def tw15814358447972162787:=()
def tw1797691195551650731:=()
def tw8206949537795583605:=()
def tw2609188423267974083:=()
def tw14826877150368769740:=()
def tw16473556386314428972:=()
def tw6615382755437156155:=()
def tw1690166512388229512:=()
def tw12959086400161628874:=()
def tw16546458383085795658:=()
def tw12124366953994671042:=()
def tw8319547071924635482:=()
def tw10520029945421729276:=()
def tw6263393127591675143:=()
def tw16939121658930597130:=()
def tw1197998928863608562:=()
def tw4277771209092546615:=()
def tw11961455961216173651:=()
def tw2923689355302202389:=()
def tw7403389612522825570:=()
def tw13478686896489197835:=()
def tw9517578101096080270:=()
def tw500012206613204925:=()
def tw15244497669464291869:=()
def tw12020972196962239157:=()
def tw16885084158504545336:=()
def tw663686705137094356:=()
def tw15167570275521628203:=()
def tw8471302656204716829:=()
def tw6430831825258067195:=()
def tw10092623644966886101:=()
def tw1947129860619650677:=()
def tw8849480169358246849:=()
def tw5169709962390158496:=()
def tw13348449480958922747:=()
def tw13410712175086292411:=()
def tw13228347732146380467:=()
def tw3983681472477288865:=()
def tw7224936731774892640:=()
def tw10615368563988244017:=()
def tw8453634593366859082:=()
def tw15719181084172747100:=()
def tw3360319225989571653:=()
def tw12052692763560460377:=()
def tw5981908221933152706:=()
def tw3311869864714237089:=()
def tw8108244953001988870:=()
def tw7214537592542612003:=()
def tw7444020534822560852:=()
def tw14327593737539564870:=()
def tw2652479804919565325:=()
def tw11547082869973579011:=()
def tw17742985023886253880:=()
def tw13605134137680319923:=()
def tw17167689609648168509:=()
def tw13215034284707041784:=()
def tw14610118800204557359:=()
def tw17013909489476797016:=()
def tw8742094890964925811:=()
def tw13043886313720664248:=()
def tw8135101507859560286:=()
def tw5531100494236775839:=()
def tw8134813645787350957:=()
def tw3150988397966337483:=()
def tw9450219248809008263:=()
def tw4814328345655014997:=()
def tw853520965641682244:=()
def tw15438499335328035083:=()
def tw5060931868589572641:=()
def tw555295243547918297:=()
def tw9519882871232397626:=()
def tw11750003885390747322:=()
def tw8500317207454180715:=()
def tw3686070773271444674:=()
def tw15291174806675474873:=()
def tw9531055872523172488:=()
def tw8846751724486428166:=()
def tw11862935978545417420:=()
def tw16281439777790842008:=()
def tw10845984546986062393:=()
def tw11847705917907837856:=()
def tw8146815769664347833:=()
def tw12480521288727630248:=()
def tw3632145955894441432:=()
def tw388948879327256332:=()
def tw11043433741510346992:=()
def tw5435606632569122618:=()
def tw5002602085070622366:=()
def tw14401073541059693868:=()
def tw7269795835031078124:=()
def tw11729867006757834030:=()
def tw15799215257996248970:=()
def tw280218148762617108:=()
def tw17588473792514816628:=()
def tw4659990261986734111:=()
def tw15542557893395636728:=()
def tw4754504973903917369:=()
def tw4840743118019620469:=()
def tw2691624032192905147:=()
def tw6156552568626671915:=()
def tw5942433936193059731:=()
def tw1895676728768396525:=()
def tw5105177800860376997:=()
def tw12080150324881622139:=()
def tw15367898539682003526:=()
def tw10820797701174940183:=()
def tw1061966922689526702:=()
def tw17927704020259858712:=()
def tw8112584947945152833:=()
def tw4545725571383892861:=()
def tw10229403547513286731:=()
def tw9649071512582832441:=()
def tw13415039650732525864:=()
def tw17976450405777854020:=()
def tw4525317713826599839:=()
def tw9229147997694737433:=()
def tw7693238362239251663:=()
def tw16135506758160532541:=()
def tw12803317384335313092:=()
def tw2579449032900536948:=()
def tw12617000276449194059:=()
def tw16269745428344829706:=()
def tw17499835769701035169:=()
def tw12890990295005461580:=()
def tw10166014223550345306:=()
def tw17712950988339411879:=()
def tw18291736615140732201:=()
def tw15830422116526639822:=()
def tw6286407818208379299:=()
def tw13140765413784698493:=()
def tw17997645150644411116:=()
def tw4661566067736411809:=()
def tw16439952278504155021:=()
def tw7373013833334255026:=()
def tw3893720072420910408:=()
def tw1587923659847091039:=()
def tw16797736704767573302:=()
def tw2795362267494126108:=()
def tw8919674893718532152:=()
def tw2863049392204868907:=()
def tw7932121941611468063:=()
def tw15191024686450186079:=()
def tw17865272320015186578:=()
def tw4150010827226471275:=()
def tw3135948374566872820:=()
def tw11984743498777685733:=()
def tw1734508205959453889:=()
def tw16848763675589788556:=()
def tw8578676630378648748:=()
def tw598277931649471566:=()
def tw739772298544678267:=()
def tw16027689650515206925:=()
def tw4670909640218860091:=()
def tw10481564010197265569:=()
def tw1244550148321966335:=()
def tw13801106491469495062:=()
def tw17121780908530591414:=()
def tw4741732827649726875:=()
def tw7121505523653080136:=()
def tw5511085771996507174:=()
def tw12227932823505158237:=()
def tw11920760078292398046:=()
def tw12019979024853727833:=()
def tw965671720355714999:=()
def tw15550774922864824496:=()
def tw3849755927792096948:=()
def tw9975522287405177560:=()
def tw14554655308035975583:=()
def tw17560086839088188177:=()
def tw9591500848672258576:=()
def tw12436942668473838485:=()
def tw18035184993037012092:=()
def tw9280246642397262616:=()
def tw4845956773807831988:=()
def tw3292576220472245851:=()
def tw12054877921093339021:=()
def tw495315581580521431:=()
def tw722068912048564046:=()
def tw4303805059309932723:=()
def tw5194976181865640522:=()
def tw16631071824108800633:=()
def tw13387501250773109269:=()
def tw4251619525224784053:=()
def tw415053389550097183:=()
def tw17663147413547509980:=()
def tw1313017400847823622:=()
def tw1871926940153825394:=()
def tw9541162180871013179:=()
def tw5168209881648868539:=()
def tw13928456523723276736:=()
def tw1925199514990631260:=()
def tw12237590913344336102:=()
def tw13733207941345147234:=()
def tw15026389553319172619:=()
def tw9727713186429928446:=()
def tw17873192449332980729:=()
def tw18073893238184702050:=()
def tw10081122308935952362:=()
def tw6587427843415861867:=()
def tw13599513161932462902:=()
def tw1440043023233158340:=()
def tw14133617786157360752:=()
def tw795114309980190301:=()
def tw17193266507861720645:=()
def tw4499379873126790603:=()
def tw3155947799083265529:=()
def tw2578642735758627656:=()
def tw7968048856887959853:=()
def tw10794936953399380957:=()
def tw16813745521274436852:=()
def tw18211655446395973448:=()
def tw2344139612228684978:=()
def tw10232411174229313459:=()
def tw16931749874398182436:=()
def tw3621187892372977187:=()
def tw16806661818202959604:=()
def tw1819839954637825859:=()
def tw1913115800220997613:=()
def tw2928747416036889103:=()
def tw10729744759361559652:=()
def tw7786513318352893441:=()
def tw14093921724230411878:=()
def tw17809546562404551483:=()
def tw7294560093226236193:=()
def tw11088126376032724088:=()
def tw15337367871593815616:=()
def tw8008082886881860591:=()
def tw9376933433838910349:=()
def tw5193264655563692009:=()
def tw9461383131243140498:=()
def tw17682063565188088586:=()
def tw484440087169962246:=()
def tw1690928011851126860:=()
def tw30611249662430540:=()
def tw15770330123633109240:=()
def tw16867641370438875597:=()
def tw1622646376556558618:=()
def tw1278848596054849541:=()
def tw15620826877809765837:=()
def tw5320971840714975400:=()
def tw4440783816310284920:=()
def tw17754214384780099842:=()
def tw2568520031812193679:=()
def tw1598002038970791051:=()
def tw14096365659804336195:=()
def tw9328544871703277089:=()
def tw3311642292685209863:=()
def tw1565653060844710728:=()
def tw12171015670676063314:=()
def tw10257931250564129612:=()
def tw11529102847988115822:=()
def tw3772186814227664813:=()
def tw4862319962885559127:=()
def tw5804544086394443155:=()
def tw2380316123711494438:=()
def tw9850292569879085253:=()
def tw15003924906333859838:=()
def tw1943711237140484631:=()
def tw13695479122252150887:=()
def tw12861906283460414332:=()
def tw10956203169170435780:=()
def tw817472960492552942:=()
def tw7798853927781200489:=()
def tw10913392346455002033:=()
def tw7691912295450740115:=()
def tw344892124075316114:=()
def tw3465853609116297916:=()
def tw2423852637145307359:=()
def tw4423485438376703581:=()
def tw15965901772103311298:=()
def tw6594239233460322687:=()
def tw12883523526764572306:=()
def tw15474726429695544301:=()
def tw6028240546950537946:=()
def tw8640002834893952185:=()
def tw13619807201095475361:=()
def tw3426979358357764686:=()
def tw14052997955843581889:=()
def tw16573183436777561047:=()
def tw8701719679473429738:=()
def tw10534121291473563964:=()
def tw1670316915690961022:=()
def tw14312944672054447085:=()
def tw5573000129500462372:=()
def tw17761762452694152614:=()
def tw4255970113135016795:=()
def tw9551035985215789312:=()
def tw5912894425125157529:=()
def tw1806715084627125259:=()
def tw5183034560682334871:=()
def tw1823474493502275363:=()
def tw18030469870645063508:=()
def tw16338687138712437910:=()
def tw11446438787587733301:=()
def tw15539704759837240034:=()
def tw11270072959787924777:=()
def tw6382571881134161128:=()
def tw3401318505434520837:=()
def tw6591043882675067537:=()
def tw7252964314622481107:=()
def tw1287794769944376658:=()
def tw17712658585062137595:=()
def tw11775159694355846540:=()
def tw5431191478688483034:=()
def tw6514263288907596797:=()
def tw15750618035859929827:=()
def tw3677900569605891793:=()
def tw4018777354450152637:=()
def tw17790588334608256855:=()
def tw7589617734797298390:=()
def tw13028327668449148067:=()
def tw15399529616791797733:=()
def tw6548193603847372813:=()
def tw337677926283846444:=()
def tw15163147754108105087:=()
def tw12445581890447422407:=()
def tw6459315118494134204:=()
def tw10774190390824896702:=()
def tw7046806047325712888:=()
def tw16550223607043360576:=()
def tw6937845766741949868:=()
def tw3145644496464566984:=()
def tw943253589002557528:=()
def tw17686898458431054456:=()
def tw7694742729425072737:=()
def tw10825958525539638693:=()
def tw5775915303092100553:=()
def tw10813474428548713707:=()
def tw13823108481514132773:=()
def tw1781038030913815658:=()
def tw2487486647458842903:=()
def tw14935307633615365309:=()
def tw18215705569713003052:=()
def tw14656964037302457929:=()
def tw7517644684466764773:=()
def tw7134676735623497101:=()
def tw11282801158283135417:=()
def tw9799204215744064248:=()
def tw7921508431005331670:=()
def tw10729644816920257129:=()
def tw1280683765855607942:=()
def tw16967479017981152348:=()
def tw10848080013458994529:=()
def tw11882909199985327222:=()
def tw2572061836526488292:=()
def tw7829499935405570521:=()
def tw1552837926483127440:=()
def tw13475598971281332773:=()
def tw10365025283653071363:=()
def tw9467424407589120638:=()
def tw12857258650390572944:=()
def tw13937066313400175826:=()
def tw3917236352301089239:=()
def tw753777087337675661:=()
def tw7296193011976061638:=()
def tw16276046388791288402:=()
def tw3600939232977821175:=()
def tw12816859555364883325:=()
def tw7111457398866387896:=()
def tw3316562641864782391:=()
def tw4580940292479909650:=()
def tw14461668278084222054:=()
def tw9631748405537564347:=()
def tw13209016190560571534:=()
def tw14936111896257850738:=()
def tw3755646988501156786:=()
def tw10275296167791828993:=()
def tw6176671560224338195:=()
def tw8935082285387759057:=()
def tw3962827776639897844:=()
def tw9924021356490389334:=()
def tw3754782743517455405:=()
def tw15796956293477464826:=()
def tw12010777111215872370:=()
def tw11367998370200938046:=()
def tw4658185831895686219:=()
def tw17646603296934826992:=()
def tw15545455369745182733:=()
def tw8508840815475955475:=()
def tw1661626265785122937:=()
def tw10185327381810108390:=()
def tw5799135757852056250:=()
def tw6985436199788161568:=()
def tw417663752954230521:=()
def tw4214049659410981231:=()
def tw4158956278597814579:=()
def tw590324463112255465:=()
def tw14890812598559732894:=()
def tw16359017020194332272:=()
def tw10419795177283663839:=()
def tw13460352160831656020:=()
def tw4801189043920910032:=()
def tw1888655513351757869:=()
def tw7441873984181449736:=()
def tw10491594899687833852:=()
def tw9180451456329902166:=()
def tw4506498472007799798:=()
def tw14398698750819962845:=()
def tw5982586721801788952:=()
def tw12313601508106453999:=()
def tw7765706211604098054:=()
def tw6975684627018062135:=()
def tw4708875743720191355:=()
def tw11208244840108110552:=()
def tw13979829699012855815:=()
def tw1574281582985954573:=()
def tw16599491908652991600:=()
def tw9625310069657220245:=()
def tw17414141178697981485:=()
def tw5350752559308414792:=()
def tw7901230798349877673:=()
def tw10790154615415286231:=()
def tw5279084220587389214:=()
def tw16854061549301261027:=()
def tw4988073511007094057:=()
def tw4843398044184145021:=()
def tw13457510340495567268:=()
def tw7622868160330971108:=()
def tw9903440306017207605:=()
def tw15535968457048790011:=()
def tw12008763961267572018:=()
def tw14128541032955423719:=()
def tw2636606779111946399:=()
def tw8490964915864398477:=()
def tw6635768910885276712:=()
def tw6251401558276251423:=()
def tw11131453501209197779:=()
def tw16050879651650258033:=()
def tw15041060139122974996:=()
def tw5830452083765703930:=()
def tw15831174990960179015:=()
def tw6268979292320910650:=()
def tw11039068300934079041:=()
def tw241168447376991051:=()
def tw11687807233115911737:=()
def tw15389511575202127295:=()
def tw5931956881858349888:=()
def tw7642255785116531966:=()
def tw7198703324745298536:=()
def tw13904659831449193715:=()
def tw5763168343579437845:=()
def tw420058638577734111:=()
def tw4032979168755196571:=()
def tw9314240321763136583:=()
def tw15621346254124519412:=()
def tw13086676833012475200:=()
def tw17172422843626062435:=()
def tw862344714274617882:=()
def tw16171288364800160351:=()
def tw1740464522372904081:=()
def tw13200364350748778504:=()
def tw5556120726872471835:=()
def tw18135121743619180016:=()
def tw198777694922351471:=()
def tw4016119501410336143:=()
def tw13298440932045661052:=()
def tw16804838049604972660:=()
def tw12694759259472374522:=()
def tw11575669400948631892:=()
def tw184425666027544018:=()
def tw897793080917653112:=()
def tw5502082348010509139:=()
def tw14042298166189832170:=()
def tw16875558975779219268:=()
def tw2423421259250625541:=()
def tw532579040288304578:=()
def tw15089274228822364530:=()
def tw2485849610748228921:=()
def tw15578839818442183821:=()
def tw6682931629783332362:=()
def tw10064770571670768438:=()
def tw5781579457926145136:=()
def tw2076802818725425791:=()
def tw9528536279877842266:=()
def tw14522697865711759871:=()
def tw5632204828417503755:=()
def tw9983215010079232752:=()
def tw16472697094443868371:=()
def tw13288295926514389086:=()
def tw15955829329028065762:=()
def tw1509693493520982348:=()
def tw12226434350738736109:=()
def tw12114838447907185429:=()
def tw18125308588781918203:=()
end PySem.W.Fast
set_option tactic.hygienic true
open PySem PySem.W PyProof.Rows
set_option maxRecDepth 100000 in
set_option maxHeartbeats 0 in
theorem PySem.Challenge.cw_wantway_k93_many_cells_that_end_holds : PySem.Challenge.rw_wantway_k93_many_cells_that_end.Holds := by
  w_on; o_law; k_head; (case hw => w_witness2)
  k_fill
  refine K4.goes (l := PySem.Challenge.rw_wantway_k93_many_cells_that_end) rfl rfl (fun w h Y => PySem.W.kIn_of Y) ?F
  case F =>
    intro w mg fa h KX G hmg
    refine' K4.all_at KX G hmg ?_ ?_ ?_ ?_ ?_ ?_ ?_ ?_ ?_ ?_ ?_ ?_ ?_ ?_ ?_ ?_ ?_ ?_ ?_ ?_ ?_ ?_ ?_ ?_ ?_ ?_ ?_ ?_ ?_ ?_ ?_ ?_ ?_ ?_ ?_ ?_ ?_ ?_ ?_ ?_ ?_ ?_ ?_ ?_ ?_ ?_ ?_ ?_ ?_ ?_ ?_ ?_ ?_ ?_ ?_ ?_ ?_ ?_ ?_ ?_ ?_ ?_ ?_ ?_ ?_ ?_ ?_ ?_ ?_ ?_ ?_ ?_ ?_ ?_ ?_ ?_ ?_ ?_ ?_ ?_ ?_ ?_ ?_ ?_ ?_ ?_ ?_ ?_ ?_ ?_ ?_ ?_ ?_ ?_ ?_ ?_ ?_ ?_ ?_ ?_ ?_ ?_ ?_ ?_ ?_ ?_ ?_ ?_ ?_ ?_ ?_ ?_ ?_ ?_ ?_ ?_ ?_ ?_ ?_ ?_ ?_ ?_ ?_ ?_ ?_ ?_ ?_ ?_ ?_ ?_ ?_ ?_ ?_ ?_ ?_ ?_ ?_ ?_ ?_ ?_ ?_ ?_ ?_ ?_ ?_ ?_ ?_ ?_ ?_ ?_ ?_ ?_ ?_ ?_ ?_ ?_ ?_
    any_goals first | k_is | (refine' And.intro ?zz0 (K4.At.of ?zz1 ?zz2 ?zz3); (case zz0 => first | k_is | (constructor <;> k_is)); (case zz1 => k_is); (case zz2 => k_is); (case zz3 => k_is)) | (refine' And.intro ?zz0 (K4.AtD.of ?zz1 ?zz2 ?zz3 ?zz4); (case zz0 => k_is); (case zz1 => k_is); (case zz2 => k_is); (case zz3 => k_is); (case zz4 => k_is)) | (unfold K4.GN; k_is) | (unfold K4.GC; k_is) | (unfold K4.GF; k_is) | (refine' And.intro ?zz0 ?zz1; (case zz0 => k_is); (case zz1 => exact ⟨_, rfl⟩)) | kit_is | k_exc | (refine K4.CA.mk ?_ ?_ ?_ ?_ ?_ ?_ <;> k_is) | (refine And.intro ⟨_, _, rfl, rfl⟩ ?_; k_keys) | kernel_rfl
