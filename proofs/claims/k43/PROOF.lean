import PyProof.Rows.All
import Wide.All
import OpenK.AllK
import Wide.FinOn
import KE.KDictList
import KE.KDictOf
import KE.KItemsList
import KE.KRevSl
import KE.KSortTup
import KE.LcSums
import Lean
import PyProof.AttrMissSeq
import PyProof.AutoSeq1
import PyProof.DictRoadsH
import PyProof.DictWalks
import PyProof.EnumStmt
import PyProof.EqAt
import PyProof.EqKinds
import PyProof.ExcInit
import PyProof.FactsAll.tuple
import PyProof.FactsAll.zip_1
import PyProof.ListMulRoad
import PyProof.ListOps
import PyProof.ListRange
import PyProof.NeKinds
import PyProof.Rows.SumGenD
import PyProof.SeqRoads2
import PyProof.StrWalks
import PyProof.SumWalk
import PyProof.TupleCall
import PyProof.TupleOfGen
import PyProof.WalksMore
import PyProof.ZipIter
import PySem.Challenge.RW_wantway_k43_rings_of_cells
set_option Elab.async false
set_option linter.all false
set_option maxRecDepth 100000
set_option maxHeartbeats 8000000
set_option tactic.hygienic false
section
local macro_rules|`(tactic|exists $es,*)=>`(tactic|refine ⟨$es,*, ?_⟩)
theorem Y{α:Sort u}{a:α}:a=a:=rfl
abbrev yg:=@List.length_singleton
abbrev yh:=@List.getElem?_append_right
abbrev yi:=@List.getElem?_append_left
abbrev yj:=@List.map_map
abbrev yk:=@Nat.lt_succ_self
abbrev ym:=@List.mem_iff_getElem?
abbrev yn:=@List.mem_append_left
abbrev yo:=@PySem.wpAny_setField_rec
abbrev yp:=@List.mem_of_find?_eq_some
abbrev yq:=@PySem.wpAny_truthy_bool
abbrev yr:=@Nat.sub_self
abbrev yt:=@PySem.W.mg_none_of
abbrev yu:=@List.append_nil
abbrev yw:=@List.dropLast_concat_getLast
abbrev yx:=@List.lookup_cons
abbrev yz:=@PyProof.Rows.callWith_type1
abbrev y0:=@PySem.wpAny_call_entry
abbrev y9:=@List.getD_eq_getElem?_getD
abbrev vb:=@Nat.lt_irrefl
abbrev vc:=@List.find?_cons
abbrev vd:=@PySem.wpAny_seqItems
abbrev ve:=@List.pairwise_iff_getElem
abbrev vf:=@Nat.le_add_right
abbrev vg:=@PySem.Heap.size_push
abbrev vi:=@List.mem_iff_getElem
abbrev vj:=@List.eq_nil_of_length_eq_zero
abbrev vk:=@List.append_assoc
abbrev vm:=@Nat.min_eq_left
abbrev vo:=@Nat.le_max_right
abbrev vp:=@List.getElem?_eq_none_iff
abbrev vq:=@Nat.le_max_left
abbrev vt:=@Nat.ne_of_gt
abbrev vv:=@List.take_sublist
abbrev vw:=@Bool.and_eq_true_iff
abbrev vx:=@List.nodup_append
abbrev vy:=@PySem.mem_of_lookup
abbrev vz:=@List.replicate_succ
abbrev vA:=@PySem.F.slot_zip_next
abbrev vC:=@List.map_congr_left
abbrev vD:=@PySem.wpAny_newObj_type
abbrev vE:=@List.take_zero
abbrev vF:=@PySem.wpAny_standAt
abbrev vG:=@List.map_nil
abbrev vH:=@Bool.false_eq_true
abbrev vI:=@Int.emod_lt_of_pos
abbrev vJ:=@Bool.eq_iff_iff
abbrev vK:=@List.nodup_cons
abbrev vL:=@List.mem_range
abbrev vM:=@PySem.wpAny_passesOwn
abbrev vN:=@List.nodup_nil
abbrev vO:=@List.length_drop
abbrev vP:=@Nat.succ_mul
abbrev vQ:=@List.getElem_map
abbrev vR:=@Option.isSome_iff_exists
abbrev vS:=@List.foldl_cons
abbrev vT:=@List.forIn_cons
abbrev vU:=@Int.emod_nonneg
abbrev vV:=@PySem.W.kia_one
abbrev vW:=@List.zip_cons_cons
abbrev vX:=@List.getElem?_replicate
abbrev vY:=@Int.eq_ofNat_of_zero_le
abbrev vZ:=@Option.isSome_map
abbrev ja:=@Nat.lt_or_ge
abbrev jb:=@Bool.not_eq_true'
abbrev jc:=@PySem.wpAny_specialOf
abbrev jd:=@PySem.wpAny_Call_Name_kw
abbrev je:=@PySem.tupleKind_room_in1
abbrev jf:=@PySem.wpAny_rule
abbrev jg:=@List.all_eq_true
abbrev jh:=@List.not_mem_nil
abbrev ji:=@List.any_eq_true
abbrev jk:=@List.mem_of_mem_drop
abbrev jm:=@Nat.mul_le_mul_right
abbrev jn:=@PySem.F.slot_enumerate_next
abbrev jo:=@PySem.wpAny_isInstance
abbrev jp:=@PySem.wpAny_attempt
abbrev jq:=@Nat.lt_of_le_of_lt
abbrev jr:=@List.find?_eq_none
abbrev js:=@Array.forIn_toList
abbrev jt:=@Int.toNat_natCast
abbrev ju:=@List.flatten_cons
abbrev jw:=@Nat.le_succ_of_le
abbrev jx:=@List.pairwise_map
abbrev jy:=@List.foldl_append
abbrev jz:=@PySem.F.args_tuple_add_2
abbrev jA:=@List.any_cons
abbrev jB:=@PySem.F.entry_tuple_add
abbrev jC:=@PySem.call_meets
abbrev jD:=@Nat.le_of_not_lt
abbrev jE:=@PySem.F.slot_list_index
abbrev jF:=@Nat.le_of_eq
abbrev jG:=@PySem.F.slot_tuple_add
abbrev jH:=@List.range_succ_eq_map
abbrev jI:=@PySem.wpAny_pyIter_list
abbrev jJ:=@Option.map_some
abbrev jK:=@List.length_nil
abbrev jL:=@PySem.F.args_zip_next_1
abbrev jM:=@PySem.F.slot_dict_get
abbrev jN:=@List.take_append_drop
abbrev jO:=@List.getElem?_set_ne
abbrev jP:=@Nat.le_succ
abbrev jQ:=@List.length_dropLast
abbrev jR:=@PySem.F.entry_zip_next
abbrev jS:=@List.forIn_nil
abbrev jT:=@List.filterMap_cons
abbrev jU:=@Array.length_toList
abbrev jV:=@PySem.codeAny_mono
abbrev jW:=@PySem.W.callWith_K
abbrev jX:=@PySem.wpAny_typeOf
abbrev jY:=@PySem.wpAny_execs_nil
abbrev jZ:=@List.all_cons
abbrev j0:=@PySem.codeAny_builtin
abbrev j3:=@List.map_take
abbrev j5:=@Nat.add_assoc
abbrev j6:=@Bool.not_true
abbrev j7:=@Nat.mod_lt
abbrev j8:=@List.getElem?_take
abbrev j9:=@List.any_eq_false
abbrev qa:=@Nat.add_comm
abbrev qb:=@Nat.lt_trans
abbrev qc:=@PySem.wpAny_updateSeq_pair
abbrev qd:=@List.length_range
abbrev qe:=@List.flatMap_cons
abbrev qf:=@Bool.eq_false_iff
abbrev qg:=@Nat.lt_trichotomy
abbrev qh:=@PyProof.Rows.slot_tuple_getitem
abbrev qi:=@PySem.W.kia_tup
abbrev qj:=@List.take_length
abbrev qk:=@List.mem_nil_iff
abbrev ql:=@Nat.succ_le_succ
abbrev ZA:=@List.length_map
abbrev ZD:=@List.getElem?_eq_getElem
abbrev ZE:=@PySem.Heap.get?_push_of_some
abbrev ZF:=@List.getElem?_eq_some_iff
abbrev ZG:=@Nat.le_refl
abbrev ZH:=@List.getElem?_map
abbrev ZJ:=@List.mem_of_getElem?
abbrev ZK:=@List.map_append
abbrev ZL:=@List.length_append
abbrev ZM:=@List.mem_cons_of_mem
abbrev ZN:=@List.length_take
abbrev ZO:=@List.size_toArray
abbrev ZP:=@PySem.Heap.lt_size
abbrev ZQ:=@List.mem_singleton
abbrev ZT:=@Option.some.inj
abbrev ZU:=@List.mem_append_right
abbrev ZV:=@List.map_cons
abbrev ZW:=@List.mem_map
abbrev ZX:=@List.mem_append
abbrev ZY:=@PySem.Heap.get?_push_size
abbrev ZZ:=@Bool.and_eq_true
abbrev Za:=@List.mem_cons_self
abbrev Zb:=@Nat.le_trans
abbrev Zc:=@Nat.zero_le
abbrev Zd:=@List.mem_cons
abbrev Ze:=@Nat.ne_of_lt
abbrev Zf:=@List.length_cons
abbrev Zg:=@List.take_of_length_le
abbrev Zh:=@Nat.le_of_lt
abbrev Zi:=@Bool.false_ne_true
abbrev Zj:=@Option.map_eq_some_iff
abbrev Zk:=@List.mem_of_mem_take
abbrev Zl:=@PySem.wpAny_bind
abbrev Zm:=@PySem.wpAny_pure
abbrev Zn:=@PySem.wpAny_mono
abbrev Zo:=@PySem.wpAny_field
abbrev Zp:=@if_pos
abbrev Zq:=@if_neg
abbrev Zr:=@absurd
abbrev Zs:=@Ne.symm
abbrev Zt:=@of_decide_eq_true
abbrev Zu:=@PySem.boot_len
abbrev Zv:=@PySem.PassesOwn.never
abbrev Zw:=@Nat.not_lt_zero
abbrev Zx:=@Nat.lt_of_lt_of_le
abbrev Zy:=@decide_eq_false
abbrev Zz:=@PySem.F.plainAttrs_list
abbrev Z0:=@PySem.F.slot_list_append
abbrev Z1:=@PySem.F.type_list_append
local macro_rules|`(tactic|omega)=>`(tactic|lia)
namespace L2
open PySem PySem.Spec PyProof.Rows
def sl(n:Nat)(h:n<=sizeLine:=by decide):n<=sizeLine:=h
abbrev Key:=Sum Int Str
abbrev kS:=List Expr
abbrev kQ:=List (List Int)
abbrev kP:=Str->Nat
abbrev kE:=Array Value
abbrev kD:=Option Addr
abbrev kC:=List Addr
abbrev kB:=List Int
abbrev kz:=Option Int
abbrev ky:=List Str
abbrev kq:=List Value
abbrev kh:=Value->Shared->Prop
abbrev ka:=List (Addr×Obj)
def V1:Key->Value->Bool
 |.inl k,v=>Value.isInt k v
 |.inr x,v=>Value.isStrOf x v
def Cs(w:World):Key->Int
 |.inl k=>hashInt k
 |.inr x=>hashStr w x
theorem VM:∀{k:Key}{v:Value},V1 k v=true->(∃i t,k=Sum.inl i/\v=Value.int i t)\/(∃x t,k=Sum.inr x/\v=Value.str x t)
 |.inl i,v,h=>by
  obtain⟨t,e⟩:=Value.isInt_shape (k:=i) (v:=v) h;exact .inl ⟨i,t,Y,e⟩
 |.inr x,v,h=>by
  obtain⟨t,e⟩:=Value.isStrOf_shape (x:=x) (v:=v) h;exact .inr ⟨x,t,Y,e⟩
def RL(i:Int)(t:Tok):V1 (.inl i) (.int i t)=true:=by simp[V1,Value.isInt]
def Wb(x:Str)(t:Tok):V1 (.inr x) (.str x t)=true:=by simp[V1,Value.isStrOf]
def AJ(a b:Int):decide ((Sum.inl a:Key)=Sum.inl b)=(a==b):=by
 by_cases e:a=b
 .subst e;simp
 .have h:¬(Sum.inl a:Key)=Sum.inl b:=λq=>e<|Sum.inl.inj q
  rw[Zy h];exact(beq_eq_false_iff_ne.mpr e).symm
def AG(a b:Str):decide ((Sum.inr a:Key)=Sum.inr b)=decide (a=b):=by
 by_cases e:a=b
 .subst e;simp
 .have h:¬(Sum.inr a:Key)=Sum.inr b:=λq=>e<|Sum.inr.inj q
  rw[Zy h,Zy e]
def AI(a:Int)(b:Str):decide ((Sum.inl a:Key)=Sum.inr b)=false:=Zy λq=>nomatch q
def AH(a:Str)(b:Int):decide ((Sum.inr a:Key)=Sum.inl b)=false:=Zy λq=>nomatch q
def Y8(prog:Program)(w:World):PySem.KeyKind prog w Key where
 is:=V1
 hash:=Cs w
 inj:=λv a b M G=>by
  rcases VM M with⟨i,t,rfl,rfl⟩|⟨x,t,rfl,rfl⟩
  .rcases VM G with⟨j,u,rfl,e⟩|⟨y,u,rfl,e⟩
   .injection e with Z _;rw[Z]
   .exact nomatch e
  .rcases VM G with⟨j,u,rfl,e⟩|⟨y,u,rfl,e⟩
   .exact nomatch e
   .injection e with Z _;rw[Z]
 byValue:=λk v h=>by
  rcases VM h with⟨i,t,rfl,rfl⟩|⟨x,t,rfl,rfl⟩ <;> rfl
 pyHash:=λJ h=>by
  rcases VM J with⟨i,t,rfl,rfl⟩|⟨x,t,rfl,rfl⟩
  .exact wpAny_pyHash_int h
  .exact wpAny_pyHash_str h
 eqBool:=λL J h=>by
  rcases VM L with⟨i,t,rfl,rfl⟩|⟨x,t,rfl,rfl⟩
  .rcases VM J with⟨j,u,rfl,rfl⟩|⟨y,u,rfl,rfl⟩
   .rw [AJ]at h;exact wpAny_eqBool_int h
   .rw [AI]at h;exact SeqAt.EqAt.int_str i t y u _ _ _ _ h
  .rcases VM J with⟨j,u,rfl,rfl⟩|⟨y,u,rfl,rfl⟩
   .rw [AH]at h;exact SeqAt.EqAt.str_int x t j u _ _ _ _ h
   .rw [AG]at h;exact wpAny_eqBool_str h
 «strs»:=λk x t v h=>by
  rcases VM h with⟨i,u,rfl,e⟩|⟨y,u,rfl,e⟩
  .exact nomatch e
  .injection e with Z _
   subst Z;cases v <;> rfl
def NT(Z:Program)(w:World)(i:Int)(t:Tok):(Y8 Z w).is (.inl i) (.int i t)=true:=RL i t
def NS(Z:Program)(w:World)(x:Str)(t:Tok):(Y8 Z w).is (.inr x) (.str x t)=true:=Wb x t
inductive V where
 |non|bl (b:Bool)|int (i:Int)|str (x:Str)|byt (b:Array UInt8)|flt (b:UInt64)|ref (a:Addr)|ty (n:String)
 deriving DecidableEq
abbrev kL:=Option V
abbrev kH:=List V
abbrev kF:=List (Key×V)
def RelV:V->Value->Prop
 |.non,u=>u=Value.none
 |.bl b,u=>u=Value.bool b
 |.int i,u=>∃t,u=Value.int i t
 |.str x,u=>∃t,u=Value.str x t
 |.byt b,u=>∃t,u=Value.bytes b t
 |.flt b,u=>∃t,u=Value.float b t
 |.ref a,u=>u=Value.ref a
 |.ty n,u=>u=Value.type n
abbrev Vals:List V->List Value->Prop:=Paired RelV
def Vals.length(r:Vals Z J):Z.length=J.length:=Paired.length r
theorem Vals.get:∀{Z:kH}{J:kq}{i:Nat}{x:V},Vals Z J->Z[i]?=some x->∃u,J[i]?=some u/\RelV x u
 |_,_,_,_,.nil,e=>by simp at e
 |_,_,0,_,.cons r _,e=>by simp at e;subst e;exact⟨_,Y,r⟩
 |_,_,i+1,x,.cons _ t,e=>by
  obtain⟨u,L,G⟩:=Vals.get (i:=i) (x:=x) t (by simpa using e);exact⟨u,by simpa using L,G⟩
theorem Vals.set(r:RelV x u):∀{Z:kH}{J:kq}(i:Nat),Vals Z J->Vals (Z.set i x) (J.set i u)
 |_,_,_,.nil=>.nil
 |_,_,0,.cons _ t=>.cons r t
 |_,_,i+1,.cons q t=>.cons q<|Vals.set r i t
theorem Vals.append:∀{J Z:kH}{L G:kq},Vals J L->Vals Z G->Vals (J++ Z) (L++ G)
 |_,_,_,_,.nil,s=>s
 |_,_,_,_,.cons r t,s=>.cons r<|Vals.append t s
theorem Vals.take:∀{Z:kH}{J:kq}(n:Nat),Vals Z J->Vals (Z.take n) (J.take n)
 |_,_,0,_=>.nil
 |_,_,_+1,.nil=>.nil
 |_,_,n+1,.cons r t=>.cons r<|Vals.take n t
theorem Vals.drop:∀{Z:kH}{J:kq}(n:Nat),Vals Z J->Vals (Z.drop n) (J.drop n)
 |_,_,0,r=>r
 |_,_,_+1,.nil=>.nil
 |_,_,n+1,.cons _ t=>Vals.drop n t
def UY:Option V->Option Value->Prop
 |some v,some u=>RelV v u
 |none,none=>True
 |_,_=>False
def KV{κ:Type}:List (κ×V)->List (κ×Value)->Prop:=Paired λ(p:κ×V)(q:κ×Value)=>p.1=q.1/\RelV p.2 q.2
def kV:Key->V
 |.inl i=>.int i
 |.inr x=>.str x
inductive HO where
 /-- a list -/
 |lst (xs:List V)
 /-- a tuple (never changes) -/
 |tup (xs:List V)
 /-- a dict whose keys are ints and texts;one whose keys are tuples of ints and texts (the empty one is both) -/
 |dK (kvs:List (Key×V))|dT (kvs:List (List Key×V))
 /-- a set of ints:its members,its size -/
 |set (S:Int->Bool) (n:Nat)
 /-- an instance of the class at C,its dict at dx,its attributes -/
 |ins (C dx:Addr) (fs:List (Str×V))
 /-- the dict of the instance at x -/
 |own (x:Addr)
 /-- the dict of an exception -/
 |xd (fs:List (Str×V))
 /-- a bound method,f of x -/
 |met (f x:Addr)
 /-- a range object lo,lo+1,.. below hi -/
 |rng (lo hi:Int)
 /-- a thing that is known to the object (the script;a dict while a loop walks it):read,never written while it is so -/
 |frz (o:Obj) (u:HO)
 /-- a code object's table -/
 |tbl (ps:Array Value)
 /-- any other thing,by what is true of its one object (a def of one's own:SetO a S n:=HO.ext λh=>..) -/
 |ext (φ:Heap->Prop)
abbrev Hp:=Addr->Option HO
def upd(H:Hp)(a:Addr)(o:HO):Hp:=λb=>if b=a then some o else H b
def Ye:upd H a o a=some o:=by unfold upd;rw[Zp rfl]
def Yg(h:b≠a):upd H a o b=H b:=by unfold upd;rw[Zq h]
def JW{H:Hp}(h:H a=some o)(Z:H b=some u)(d:o≠u):a≠b:=by
 intro e;subst e;rw[h]at Z;exact d<|ZT Z
def Yb{H:Hp}(h:H a=some o)(Z:H b=none):a≠b:=by
 intro e;subst e;rw[h]at Z;cases Z
def Wx(h:Heap)(a:Addr)(items:kE):Prop:=∃o,h.get? a=some o/\o.dict=none/\o.cls=.type "tuple" /\∃n,o.data=.seq items n
def Wx.is(x:Wx h a items):IsTup h a items:=let⟨o,G,_,J,Z⟩:=x;⟨o,G,J,Z⟩
def Wx.keeps(x:Wx h a items)(J:∀b o,h.get? b=some o->G.get? b=some o):Wx G a items:=let⟨o,Z,r⟩:=x;⟨o,J a o Z,r⟩
def Wx.new(h:Heap)(items:kE):Wx (h.push {cls:=.type "tuple",data:=.seq items}) h.objs.size items:=⟨_,ZY _ rfl,rfl,rfl,_,rfl⟩
section
variable(P:Program)(w:World)
def VL(H:Hp)(h:Heap)(a:Addr):HO->Prop
 |.lst xs=>xs.length<=sizeLine/\∃(its:kq)(n:Nat),Vals xs its/\h.get? a=some {cls:=.type "list",data:=.seq its.toArray n}
 |.tup xs=>xs.length<=sizeLine/\∃its:kq,Vals xs its/\Wx h a its.toArray
 |.dK kvs=>kvs.length<=sizeLine/\(a==sysModules)=false/\∃vs,KV kvs vs/\h.DictOf (Y8 P w) a vs
 |.dT kvs=>kvs.length<=sizeLine/\(a==sysModules)=false/\∃xs:List (List Key×Addr×Value),
   Paired (λ(p:List Key×V)(q:List Key×Addr×Value)=>p.1=q.1/\H q.2.1=some (.tup<|p.1.map kV)/\RelV p.2 q.2.2) kvs xs/\
   ∃o es ep,h.get? a=some o/\o.ExactDict/\o.data=.dict es ep/\es.toList=xs.map (entryOfKey<|tupleKind<|Y8 P w)/\(xs.map (·.1)).Nodup
 |.set S n=>h.SetOf (intKind P w) a S n
 |.ins C dx fs=>H dx=some (.own a)/\fs.length<=1000/\dx≠a/\h.get? a=some (W.instObj C dx)/\
   ∃mA,h.Ns1 dx mA/\(∀f,UY (fs.lookup f)<|mA f)/\PySem.Within mA (fs.map (·.1))
 |.own _=>∃o,h.get? a=some o
 |.xd fs=>∃mA,h.Ns1 a mA/\∀f,UY (fs.lookup f)<|mA f
 |.rng lo hi=>∃t u v,h.get? a=some {cls:=.type "range",data:=.fields #[.int lo t,.int hi u,.int 1 v]}
 |.frz o u=>h.get? a=some o/\VL H h a u
 |.tbl ps=>h.get? a=some {cls:=.none,data:=.fields ps}
 |.met f x=>h.get? a=some (W.methodObj (.ref f)<|.ref x)
 |.ext φ=>φ h/\(∃o,h.get? a=some o)/\∀h1 h2:Heap,φ h1->(∀o,h1.get? a=some o->h2.get? a=some o)->φ h2
def HOk(H:Hp)(h:Heap):Prop:=∀a o,H a=some o->VL P w H h a o
end
section
def VL.lt(x:VL P w H h a o):a<h.objs.size:=by
 cases o with
 |lst J=>obtain⟨_,_,_,_,e⟩:=x;exact ZP e
 |tup J=>obtain⟨_,_,_,p⟩:=x;exact p.is.lt
 |dK Z=>obtain⟨_,_,_,_,o,_,_,e,_⟩:=x;exact ZP e
 |dT Z=>obtain⟨_,_,_,_,o,_,_,e,_⟩:=x;exact ZP e
 |set S n=>obtain⟨o,_,_,_,e,_⟩:=x;exact ZP e
 |ins C R G=>obtain⟨_,_,_,e,_⟩:=x;exact ZP e
 |own y=>obtain⟨_,e⟩:=x;exact ZP e
 |xd G=>obtain⟨_,⟨_,_,_,e,_⟩,_⟩:=x;exact ZP e
 |rng N O=>obtain⟨_,_,_,e⟩:=x;exact ZP e
 |frz M u=>obtain⟨e,_⟩:=x;exact ZP e
 |tbl L=>exact ZP (show h.get? a=some _ from x)
 |met f y=>exact ZP (show h.get? a=some _ from x)
 |ext φ=>obtain⟨_,⟨_,e⟩,_⟩:=x;exact ZP e
theorem Paired.mapP:∀{J:List α}{Z:List β},Paired F J Z->(∀a b,F a b->G a b)->Paired G J Z
 |_,_,.nil,_=>.nil
 |_,_,.cons r t,f=>.cons (f _ _ r)<|Paired.mapP t f
def VL.stay(x:VL P w H h a o)(k:∀b u,(b=a\/H b=some (.own a))->h.get? b=some u->T.get? b=some u)(I:∀b,H b=some (.own a)->D b=some (.own a))(A:∀b M,H b=some (.tup M)->D b=some (.tup M)):VL P w D T a o:=by
 induction o with
 |lst M=>obtain⟨z,L,n,r,e⟩:=x;exact⟨z,L,n,r,k _ _ (.inl Y) e⟩
 |tup M=>obtain⟨z,L,r,Z,e,c⟩:=x;exact⟨z,L,r,Z,k _ _ (.inl Y) e,c⟩
 |dK R=>obtain⟨z,y,E,r,Z,J,G,e,c⟩:=x;exact⟨z,y,E,r,Z,J,G,k _ _ (.inl Y) e,c⟩
 |dT R=>
  obtain⟨z,y,M,r,Z,J,G,e,c⟩:=x;exact⟨z,y,M,Paired.mapP r λp q z=>⟨z.1,A _ _ z.2.1,z.2.2⟩,Z,J,G,k _ _ (.inl Y) e,c⟩
 |set S n=>obtain⟨Z,J,G,t,e,c⟩:=x;exact⟨Z,J,G,t,k _ _ (.inl Y) e,c⟩
 |ins C m U=>
  obtain⟨d,z,F,e,O,⟨N,J,G,X,c⟩,r⟩:=x;exact⟨I _ d,z,F,k _ _ (.inl Y) e,O,⟨N,J,G,k _ _ (.inr d) X,c⟩,r⟩
 |own y=>obtain⟨Z,e⟩:=x;exact⟨Z,k _ _ (.inl Y) e⟩
 |xd U=>obtain⟨O,⟨N,J,G,e,c⟩,r⟩:=x;exact⟨O,⟨N,J,G,k _ _ (.inl Y) e,c⟩,r⟩
 |rng Q j=>obtain⟨t,u,v,e⟩:=x;exact⟨t,u,v,k _ _ (.inl Y) e⟩
 |frz Z u ih=>obtain⟨e,q⟩:=x;exact⟨k _ _ (.inl Y) e,ih q⟩
 |tbl B=>
  have e:h.get? a=some {cls:=.none,data:=.fields B}:=x;show T.get? a=some {cls:=.none,data:=.fields B};exact k a _ (.inl Y) e
 |met f y=>
  have e:h.get? a=some (W.methodObj (.ref f)<|.ref y):=x;show T.get? a=some (W.methodObj (.ref f)<|.ref y);exact k a _ (.inl Y) e
 |ext φ=>obtain⟨p,⟨o,e⟩,st⟩:=x;exact⟨st _ _ p λo q=>k _ _ (.inl Y) q,⟨o,k _ _ (.inl Y) e⟩,st⟩
def HOk.lt(x:HOk P w H h)(e:H a=some o):a<h.objs.size:=(x a o e).lt
def HOk.fresh(x:HOk P w H h)(e:h.objs.size<=a):H a=none:=by
 cases q:H a with
 |none=>rfl
 |some u=>exact Zr (Zx (x.lt q) e)<|vb _
def HOk.kept(x:HOk P w H h)(k:∀b u,h.get? b=some u->Z.get? b=some u):HOk P w H Z:=λa o e=>
 (x a o e).stay (λb u _ q=>k b u q) (λ_ q=>q) λ_ _ q=>q
def HOk.laid(x:HOk P w H h)(k:∀b u,h.get? b=some u->h'.get? b=some u)(G:h.objs.size<=a)(Z:VL P w (upd H a o) h' a o):HOk P w (upd H a o) h':=λb u e=>by
 have J:=x.fresh G
 by_cases hb:b=a
 .subst hb;rw[Ye]at e;cases e;exact Z
 .rw [Yg hb]at e
  exact(x b u e).stay (λc v _ q=>k c v q) (λc q=>by rw[Yg (Yb q J)];exact q) λc L q=>by rw[Yg (Yb q J)];exact q
end
def Rd(H:Hp)(a:Addr)(u:HO):Prop:=H a=some u \/ ∃o,H a=some (.frz o u)
def Rd.ok(r:Rd H a u)(x:HOk P w H h):VL P w H h a u:=by
 rcases r with r|⟨o,r⟩
 .exact x a u r
 .obtain ⟨_,q⟩:=x a _ r
  exact q
def Mut:Option HO->Prop
 |some (.lst _)=>True
 |some (.dK _)=>True
 |some (.dT _)=>True
 |some (.set _ _)=>True
 |some (.ins _ _ _)=>True
 |some (.ext _)=>True
 |_=>False
section
def HOk.write(B:HOk P w H h)(L:Mut (H x))(T:e=x\/H e=some (.own x))(k:∀b u,b≠e->h.get? b=some u->R.get? b=some u)(O:∃u,R.get? e=some u)(N:VL P w (upd H x o') R x o'):HOk P w (upd H x o') R:=λb u q=>by
 have Z:∀c y,H c=some (.own y)->c≠x:=λc y r z=>by subst z;rw[r]at L;exact L
 have J:∀c G,H c=some (.tup G)->c≠x:=λc G r z=>by subst z;rw[r]at L;exact L
 by_cases hb:b=x
 .subst hb;rw[Ye]at q;cases q;exact N
 .rw [Yg hb]at q
  by_cases hbe:b=e
  .have q':H b=some (.own x):=by
    rcases T with z|z
    .exact Zr (hbe.trans z) hb
    .rw [hbe];exact z
   rw[q]at q';cases q';obtain⟨v,D⟩:=O;exact⟨v,by rw[hbe];exact D⟩
  .refine (B b u q).stay (λc v M r=>k c v ?_ r) (λc r=>by rw[Yg (Z c b r)];exact r) λc G r=>by rw[Yg (J c G r)];exact r
   rcases M with rfl|M
   .exact hbe
   .rintro rfl
    rcases T with z|z
    .exact Z c b M z
    .rw [M]at z;cases z;exact hb Y
end
structure Un(fs ex:List Addr)(H H':Hp)(h h':Heap):Prop where
 keep:∀b o,h.get? b=some o->H b=none->b∉fs->b∉ex->h'.get? b=some o
 slot:∀b o,h.get? b=some o->H b=none->b∈fs->b∉ex->∃sl,h'.get? b=some {o with slots:=sl}
 free:∀b o,h.get? b=some o->H b=none->b∉ex->H' b=none
 there:∀b o,h.get? b=some o->b∉ex->∃o',h'.get? b=some o'
 tups:∀b xs,H b=some (.tup xs)->H' b=some (.tup xs)
 frzs:∀b o u,H b=some (.frz o u)->H' b=some (.frz o u)
 tbls:∀b ps,H b=some (.tbl ps)->∃more,H' b=some (.tbl (ps++ more))
section
variable{fs fs' ex ex':kC}{H H1 H2:Hp}{h h1 h2 h':Heap}{a x e:Addr}{o:HO}
def Un.any(u:Un fs ex H H1 h h1)(q:h.get? b=some ob)(n:H b=none)(J:b∉ex):∃sl,h1.get? b=some {ob with slots:=sl}:=by
 by_cases hb:b∈fs
 .exact u.slot b ob q n hb J
 .exact ⟨ob.slots,u.keep b ob q n hb J⟩
def Un.kept(k:∀b u,h.get? b=some u->h'.get? b=some u):Un fs ex H H h h':=
 ⟨λb Z q _ _ _=>k b Z q,λb Z q _ _ _=>⟨Z.slots,k b Z q⟩,λ_ _ _ n _=>n,λb Z q _=>⟨Z,k b Z q⟩,λ_ _ q=>q,λ_ _ _ q=>q,λ_ J q=>⟨#[],by rw[q];simp⟩⟩
def Un.refl:Un fs ex H H h h:=Un.kept λ_ _ q=>q
def Un.laid(k:∀b u,h.get? b=some u->h'.get? b=some u)(G:h.objs.size<=a)(Z:H a=none):Un fs ex H (upd H a o) h h' where
 keep:=λb u q _ _ _=>k b u q
 slot:=λb u q _ _ _=>⟨u.slots,k b u q⟩
 free:=λb u q n _=>by rw[Yg (Ze<|Zx (ZP q) G)];exact n
 there:=λb u q _=>⟨u,k b u q⟩
 tups:=λb J q=>by rw[Yg (Yb q Z)];exact q
 frzs:=λb u J q=>by rw[Yg (Yb q Z)];exact q
 tbls:=λb L q=>⟨#[],by rw[Yg (Yb q Z),q];simp⟩
def Un.write(Z:Mut (H x))(R:e=x\/H e=some (.own x))(k:∀b u,b≠e->h.get? b=some u->h'.get? b=some u)(G:∃u,h'.get? e=some u):Un fs ex H (upd H x o) h h':=by
 have L:∀b,H b=none->b≠x:=λb n z=>by subst z;rw[n]at Z;exact Z
 have M:∀b,H b=none->b≠e:=λb n z=>by
  subst z;rcases R with r|r
  .exact L b n r
  .rw [n]at r;cases r
 have J:∀b u,H b=some u->¬Mut (some u)->b≠x:=λb u q O z=>by subst z;rw[q]at Z;exact O Z
 refine⟨λb u q n _ _=>k b u (M b n) q,λb u q n _ _=>⟨u.slots,k b u (M b n) q⟩,λb u q n _=>by rw[Yg (L b n)];exact n,λb u q _=>?_,
  λb N q=>by rw[Yg (J b _ q λz=>z)];exact q,λb u N q=>by rw[Yg (J b _ q λz=>z)];exact q,λb T q=>⟨#[],by rw[Yg (J b _ q λz=>z),q];simp⟩⟩
 by_cases hbe:b=e
 .subst hbe;exact G
 .exact ⟨u,k b u hbe q⟩
end
def trk(h:Heap)(H:Hp):kC:=(List.range h.objs.size).filter λa=>(H a).isSome
def Mg(h:Heap)(H:Hp):Heap:=W.hideAll h<|trk h H
def FV(h:Heap)(H:Hp):(Mg h H).objs.size=h.objs.size:=W.hideAll_size _ _
def LS(e:h.get? b=some o)(n:H b=none):(Mg h H).get? b=some o:=
 W.hideAll_get _ e λZ=>by
  have q:(H b).isSome=true:=(List.mem_filter.mp Z).2;rw[n]at q;simp at q
def Pc(e:(Mg h H).get? b=some o):h.get? b=some o/\H b=none:=by
 have Z:h.get? b=some o:=W.of_hideAll (trk h H) e;exists Z
 cases q:H b with
 |none=>rfl
 |some x=>
  have J:b∈trk h H:=List.mem_filter.mpr ⟨vL.mpr<|ZP Z,by simp[q]⟩;have z:(Mg h H).get? b=none:=W.hideAll_none (trk h H) J;rw[z]at e;cases e
structure Mod(K:W.Frag)(mg:Str->Option Value)(base:Heap):Prop where
 kin:K.In base
 glob:base.Ns mainGlobals mg
 blt:∃mb,base.Ns builtinsNs mb/\∀x:Str,x≠"__name__" ->mb x=bootBuiltins x
 nolimit:base.NoLimit
structure Cx where
 prog:Program
 w:World
 K:W.Frag
 mg:Str->Option Value
 base:Heap
 A:Around
 N:List Str
 s₀:Shared
 H₀:Hp
 env:Env
 outer:List Env
 stack:List Env
 ex:List Addr
 fn:Str->Bool
 calm:Bool
 pn:List (Addr×Obj)
 xe:Value->Shared->Prop
def frs(l:List Env):kC:=l.filterMap (·.frame)
abbrev Cx.fs(X:Cx):kC:=frs X.outer
def Vis(sc:Scope)(x:Str):Prop:=sc.names.lookup x=some .local\/sc.names.lookup x=some .cell\/sc.names.lookup x=some .free
def Loc(sc:Scope)(x:Str):Prop:=sc.names.lookup x=some .local\/sc.names.lookup x=some .cell
def Look(env:Env)(h:Heap)(m:Str->Option Value)(x:Str)(u:Value):Prop:=
 (env.kindOf x=some .local/\m x=some u)\/((env.kindOf x=some .cell\/env.kindOf x=some .free)/\∃c,env.cells.lookup x=some c/\h.IsCell c (some u))
structure Cx.Ok(X:Cx):Prop where
 mod:Mod X.K X.mg X.base
 kind:X.env.scope.kind=.function
 glob:X.env.globals=mainGlobals
 blt:X.env.builtins=builtinsNs
 above:X.s₀.heap.objs.size<=X.env.locals
 inj:∀x y c,X.env.cells.lookup x=some c->X.env.cells.lookup y=some c->x=y
 has:∀x,(X.env.kindOf x=some .cell\/X.env.kindOf x=some .free)->∃c,X.env.cells.lookup x=some c
 cab:∀x c,X.fn x=true->X.env.cells.lookup x=some c->X.s₀.heap.objs.size<=c
 hd:X.calm=true->X.A.handled=none
 frames:X.A.frames=some X.stack
 stk:X.stack=X.outer\/(X.stack=X.env::X.outer/\X.env.frame=some X.env.locals)
 exf:∀b∈X.ex,b≠X.env.locals/\∀x c,X.env.cells.lookup x=some c->c≠b
 bs:∀b o,X.base.get? b=some o->X.s₀.heap.get? b=some o/\X.H₀ b=none
 bsz:X.base.objs.size<=X.s₀.heap.objs.size
 noex:∀b o,X.base.get? b=some o->b∉X.ex
 exfs:∀b∈X.ex,b∉X.fs
 funs:X.s₀.heap.FunFrames X.base X.outer
 frf:∀b∈X.fs,X.H₀ b=none
structure Inv(X:Cx)(pins:List (Addr×Obj))(U:List (Option V))(H:Hp)(s:Shared):Prop where
 ok:X.Ok
 os:s.os=X.s₀.os
 bare:AllBare s.gens
 base:Un X.fs X.ex X.H₀ H X.s₀.heap s.heap
 loc:∃m,s.heap.Ns X.env.locals m/\∀(i:Nat)(x:Str)(v:V),X.N[i]?=some x->U[i]?=some (some v)->Vis X.env.scope x->∃u,RelV v u/\Look X.env s.heap m x u
 cell:∀x c,X.env.cells.lookup x=some c->∃v,s.heap.IsCell c v
 free:H X.env.locals=none
 freeC:∀x c,X.env.cells.lookup x=some c->H c=none
 pin:∀p∈X.pn++ pins,s.heap.get? p.1=some p.2/\H p.1=none/\p.1≠X.env.locals/\p.1∉X.fs/\∀v,p.2.data≠.cell v
 hok:HOk X.prog X.w H s.heap
 len:U.length=X.N.length
section
variable{X:Cx}
def Cx.Ok.nofr(Z:X.Ok)(e:X.base.get? b=some o):b∉X.fs:=λJ=>by
 have:=(Z.funs.mem J).1;rw[e]at this;cases this
def Inv.bs(I:Inv X Z U H s):∀b o,X.base.get? b=some o->s.heap.get? b=some o/\H b=none:=λb o e=>
 ⟨I.base.keep b o (I.ok.bs b o e).1 (I.ok.bs b o e).2 (I.ok.nofr e)<|I.ok.noex b o e,I.base.free b o (I.ok.bs b o e).1 (I.ok.bs b o e).2<|I.ok.noex b o e⟩
def Inv.bk(I:Inv X Z U H s):∀b o,X.base.get? b=some o->s.heap.get? b=some o:=λb o e=>(I.bs b o e).1
def Inv.mod(I:Inv X Z U H s):Mod X.K X.mg X.base:=I.ok.mod
def Inv.kIn(I:Inv X Z U H s):X.K.In s.heap:=I.ok.mod.kin.keeps I.bk
def Inv.lt(I:Inv X Z U H s):X.env.locals<s.heap.objs.size:=let⟨_,J,_⟩:=I.loc;J.lt
def Inv.sz(I:Inv X Z U H s):X.s₀.heap.objs.size<=s.heap.objs.size:=Zb I.ok.above<|Zh I.lt
def Inv.nofs(I:Inv X Z U H s)(h:s.heap.objs.size<=a):a∉X.fs:=λG=>by
 obtain⟨_,o,J,_⟩:=I.ok.funs.mem G;exact Zr (Zx (ZP J)<|Zb I.sz h)<|vb _
def Inv.cne(I:Inv X G U H s):∀x c,X.env.cells.lookup x=some c->c≠X.env.locals:=λx c e z=>by
 obtain⟨v,o,L,M⟩:=I.cell x c e;obtain⟨m,⟨N,O,R,Z,J,_⟩,_⟩:=I.loc;rw[z,Z]at L;cases L;rw[J]at M;cases M
def Inv.funs(I:Inv X N U H s):s.heap.FunFrames X.base X.outer:=by
 have M:∀(l:List Env),(∀b∈frs l,b∈X.fs)->X.s₀.heap.FunFrames X.base l->s.heap.FunFrames X.base l:=by
  intro l
  induction l with
  |nil=>intro _ _;trivial
  |cons A r ih=>
   intro O D;obtain⟨E,⟨L,o,Z,B,T,F⟩,R⟩:=D;have G:L∈X.fs:=O L (by unfold frs;rw[jT,Z];exact Za);obtain⟨sl,e⟩:=I.base.slot L o T (I.ok.frf L G) G λz=>I.ok.exfs L z G;exact⟨E,⟨L,_,Z,B,e,F⟩,ih (λb J=>O b (by unfold frs;rw[jT,Z];exact ZM _ J)) R⟩
 exact M X.outer (λ_ J=>J) I.ok.funs
def Inv.stack(I:Inv X Z U H s):s.heap.FunFrames X.base X.stack:=by
 rcases I.ok.stk with e|⟨e,G⟩
 .rw [e];exact I.funs
 .rw [e]
  obtain⟨m,J,_⟩:=I.loc;refine .cons (by rw[I.ok.kind];decide) G J ?_ I.funs;exact Heap.get?_none_of_le<|Zb I.ok.bsz I.ok.above
def Inv.stkSub(I:Inv X J U H s):∀b∈frs X.stack,b∈X.env.locals::X.fs:=λb Z=>by
 rcases I.ok.stk with e|⟨e,G⟩
 .rw [e]at Z;exact ZM _ Z
 .rw [e]at Z
  unfold frs at Z;rw[jT,G]at Z;exact Z
def Inv.stkFree(I:Inv X J U H s):∀b∈frs X.stack,H b=none:=λb Z=>by
 rcases Zd.mp (I.stkSub b Z)with e|Z
 .rw [e];exact I.free
 .obtain ⟨_,o,ho,_⟩:=I.ok.funs.mem Z
  exact I.base.free b o ho (I.ok.frf b Z) λz=>I.ok.exfs b z Z
def Inv.step{ch:kC}(I:Inv X O U H s)(G:∀b∈ch,(b∈X.ex\/X.s₀.heap.objs.size<=b)/\b≠X.env.locals/\(∀x c,X.env.cells.lookup x=some c->c≠b)/\∀p∈X.pn++ O,p.1≠b)(keep:∀b o,b≠X.env.locals->b∉X.fs->b∉ch->s.heap.get? b=some o->H b=none->h'.get? b=some o)(slot:∀b o,b≠X.env.locals->b∈X.fs->b∉ch->s.heap.get? b=some o->H b=none->∃sl,h'.get? b=some {o with slots:=sl})(free:∀b o,b∉ch->s.heap.get? b=some o->H b=none->H' b=none)(there:∀b o,b∉ch->s.heap.get? b=some o->∃E,h'.get? b=some E)(B:∀b N,H b=some (.tup N)->H' b=some (.tup N))(A:∀b o u,H b=some (.frz o u)->H' b=some (.frz o u))(D:∀b C,H b=some (.tbl C)->∃more,H' b=some (.tbl<|C++ more))(g:∀m,s.heap.Ns X.env.locals m->h'.Ns X.env.locals m)(j:HOk X.prog X.w H' h')(w:AllBare g'):
  Inv X O U H' {s with heap:=h',gens:=g',drawn:=d',toks:=t'}:=by
 have F:∀b o,X.s₀.heap.get? b=some o->b≠X.env.locals:=λb o e=>Ze<|Zx (ZP e) I.ok.above
 have L:∀b o,X.s₀.heap.get? b=some o->b∉X.ex->b∉ch:=λb o e Z R=>by
  rcases(G b R).1 with z|z
  .exact Z z
  .exact Zr (Zx (ZP e) z) (vb _)
 have cellK:∀x c,X.env.cells.lookup x=some c->∀v,s.heap.IsCell c v->h'.IsCell c v:=λx c e v ⟨o,T,y⟩=>by
  have J:c∉ch:=λz=>(G c z).2.2.1 x c e rfl
  by_cases hc:c∈X.fs
  .obtain ⟨sl,q⟩:=slot c o (I.cne x c e) hc J T<|I.freeC x c e
   exact⟨_,q,y⟩
  .exact ⟨o,keep c o (I.cne x c e) hc J T<|I.freeC x c e,y⟩
 refine⟨I.ok,I.os,w,⟨λb o e n R Z=>?_,λb o e n R Z=>?_,λb o e n Z=>?_,λb o e Z=>?_,λb N e=>B b N<|I.base.tups b N e,λb o N e=>A b o N<|I.base.frzs b o N e,λb C e=>?_⟩,?_,λx c e=>?_,?_,λx c e=>?_,λp t=>?_,j,I.len⟩
 .exact keep b o (F b o e) R (L b o e Z) (I.base.keep b o e n R Z) (I.base.free b o e n Z)
 .obtain ⟨sl,M⟩:=I.base.slot b o e n R Z
  obtain⟨Q,S⟩:=slot b _ (F b o e) R (L b o e Z) M<|I.base.free b o e n Z;exact⟨Q,S⟩
 .obtain ⟨E,M⟩:=I.base.there b o e Z
  exact free b E (L b o e Z) M<|I.base.free b o e n Z
 .obtain ⟨E,M⟩:=I.base.there b o e Z
  exact there b E (L b o e Z) M
 .obtain ⟨m1,M⟩:=I.base.tbls b C e
  obtain⟨f,S⟩:=D b _ M;exact⟨m1++ f,by rw[S,Array.append_assoc]⟩
 .obtain ⟨m,hn,hl⟩:=I.loc
  refine⟨m,g m hn,λi x v M S h=>?_⟩;obtain⟨u,r,l⟩:=hl i x v M S h;exists u,r;rcases l with l|⟨k,c,e,z⟩
  .exact .inl l
  .exact .inr ⟨k,c,e,cellK x c e _ z⟩
 .obtain ⟨v,z⟩:=I.cell x c e
  exact⟨v,cellK x c e v z⟩
 .obtain ⟨m,⟨o,_,_,T,_⟩,_⟩:=I.loc
  exact free _ o (λz=>(G _ z).2.1 Y) T I.free
 .obtain ⟨v,o,T,y⟩:=I.cell x c e
  exact free c o (λz=>(G c z).2.2.1 x c e Y) T<|I.freeC x c e
 .obtain ⟨e,n,ne,nf,d⟩:=I.pin p t
  have J:p.1∉ch:=λz=>(G p.1 z).2.2.2 p t rfl;exact⟨keep p.1 p.2 ne nf J e n,free p.1 p.2 J e n,ne,nf,d⟩
def Inv.un(I:Inv X Z U H s)(u:Un X.fs [] H H' s.heap h')(G:HOk X.prog X.w H' h'):Inv X Z U H' {s with heap:=h',toks:=t'}:=by
 obtain⟨m,⟨o,F,A,O,r⟩,_⟩:=id I.loc;obtain⟨sl,B⟩:=u.any O I.free<|by simp
 exact I.step (g':=s.gens) (d':=s.drawn) (ch:=[]) (λ_ z=>nomatch z) (λb o _ L _ e n=>u.keep b o e n L<|by simp) (λb o _ L _ e n=>u.slot b o e n L<|by simp) (λb o _ e n=>u.free b o e n<|by simp) (λb o _ e=>u.there b o e<|by simp) u.tups u.frzs u.tbls (λE T=>by
  obtain⟨D,M,N,J,R⟩:=T;rw[O]at J;cases J;exact⟨_,M,N,B,R⟩) G I.bare
def Inv.call(I:Inv X Z U H s)(u:Un (frs X.stack) ch H B s.heap h')(M:HOk X.prog X.w B h')(F:AllBare g')(L:∀b∈ch,(b∈X.ex\/X.s₀.heap.objs.size<=b)/\b≠X.env.locals/\(∀x c,X.env.cells.lookup x=some c->c≠b)/\∀p∈X.pn++ Z,p.1≠b):
  Inv X Z U B {s with heap:=h',gens:=g',drawn:=d',toks:=t'}:=by
 obtain⟨m,⟨o,P,Q,T,r⟩,_⟩:=id I.loc;obtain⟨sl,N⟩:=u.any T I.free λz=>(L _ z).2.1 rfl
 exact I.step (ch:=ch) L (λb o N A J e n=>u.keep b o e n (λz=>(Zd.mp<|I.stkSub b z).elim N A) J) (λb o _ _ J e n=>u.any e n J) (λb o J e n=>u.free b o e n J) (λb o J e=>u.there b o e J) u.tups u.frzs u.tbls (λC E=>by
  obtain⟨S,O,R,G,D⟩:=E;rw[T]at G;cases G;exact⟨_,O,R,N,D⟩) M F
def Inv.turned(I:Inv X Z U H s)(k:∀b o,b≠it->s.heap.get? b=some o->D.get? b=some o)(M:H it=none)(L:it≠X.env.locals)(B:it∈X.ex\/X.s₀.heap.objs.size<=it)(T:∀x c,X.env.cells.lookup x=some c->c≠it)(R:∀p∈X.pn++ Z,p.1≠it):Inv X Z U H {s with heap:=D,toks:=t'}:=by
 have G:∀b u,H b=some u->b≠it:=λb u e z=>by rw[z,M]at e;cases e
 refine I.step (g':=s.gens) (d':=s.drawn) (ch:=[it]) (λb O=>?_) (λb o _ _ J e _=>k b o (λz=>J<|by simp[z]) e) (λb o _ _ J e _=>⟨o.slots,k b o (λz=>J<|by simp[z]) e⟩) (λ_ _ _ _ n=>n)
  (λb o J e=>⟨o,k b o (λz=>J<|by simp[z]) e⟩) (λ_ _ e=>e) (λ_ _ _ e=>e) (λb E e=>⟨#[],by rw[e];simp⟩) (λm N=>?_) (λb u e=>?_) I.bare
 .have e:b=it:=by simpa using O
  subst e;exact⟨B,L,T,R⟩
 .obtain ⟨o,es,ep,ho,r⟩:=N
  exact⟨o,es,ep,k _ o (Zs L) ho,r⟩
 .refine (I.hok b u e).stay (λc v J q=>k c v ?_ q) (λ_ q=>q) λ_ _ q=>q
  rcases J with z|z
  .rw [z];exact G b u e
  .exact G c _ z
def Inv.tok(I:Inv X Z U H s)(t:Nat):Inv X Z U H {s with toks:=t}:=I.un (h':=s.heap) (t':=t) Un.refl I.hok
def Inv.kept(I:Inv X Z U H s)(k:∀b u,s.heap.get? b=some u->J.get? b=some u):Inv X Z U H {s with heap:=J,toks:=t'}:=I.un (Un.kept k)<|I.hok.kept k
def Inv.laid(I:Inv X Z U H s)(k:∀b u,s.heap.get? b=some u->h'.get? b=some u)(G:s.heap.objs.size<=a)(J:VL X.prog X.w (upd H a o) h' a o):
  Inv X Z U (upd H a o) {s with heap:=h',toks:=t'}:=I.un (Un.laid k G<|I.hok.fresh G)<|I.hok.laid k G J
def Inv.write(I:Inv X Z U H s)(M:Mut (H x))(N:e=x\/H e=some (.own x))(k:∀b u,b≠e->s.heap.get? b=some u->L.get? b=some u)(J:∃u,L.get? e=some u)(G:VL X.prog X.w (upd H x o) L x o):Inv X Z U (upd H x o) {s with heap:=L,toks:=O}:=I.un (Un.write M N k J)<|I.hok.write M N k J G
def Inv.weak(I:Inv X Z U H s)(L:U'.length=U.length)(w:∀(i:Nat) v,U'[i]?=some (some v)->U[i]?=some (some v)):Inv X Z U' H s:=
 ⟨I.ok,I.os,I.bare,I.base,let⟨m,G,J⟩:=I.loc;⟨m,G,λi x v O N M=>J i x v O (w i v N) M⟩,I.cell,I.free,I.freeC,I.pin,I.hok,L.trans I.len⟩
def Inv.pins_of(I:Inv X Z U H s)(h:∀p∈pins',s.heap.get? p.1=some p.2/\H p.1=none/\p.1≠X.env.locals/\p.1∉X.fs/\∀v,p.2.data≠.cell v):Inv X pins' U H s:=
 ⟨I.ok,I.os,I.bare,I.base,I.loc,I.cell,I.free,I.freeC,λp J=>(ZX.mp J).elim (λz=>I.pin p<|yn _ z)<|h p,I.hok,I.len⟩
def NQ{N:ky}(Z:N.Nodup){i j:Nat}(a:N[i]?=some x)(b:N[j]?=some x):i=j:=by
 obtain⟨M,G⟩:=ZF.mp a;obtain⟨L,J⟩:=ZF.mp b;exact(List.getElem_inj Z).mp<|G.trans J.symm
def Tz(I:Inv X S U H s)(hN:X.N.Nodup)(t:X.N[i]?=some x)(L:Loc X.env.scope x)(r:RelV v u)(h:∀s',Inv X S (U.set i<|some v) H s'->(∃a,Heap.SameBut a s.heap s'.heap/\(a=X.env.locals\/X.env.cells.lookup x=some a))->Q () s')(hf:X.fn x=true\/X.env.scope.names.lookup x=some .local:=by first|exact .inl Y|exact .inr Y|assumption):wpAny M A (storeName X.env x u) Q E s:=by
 obtain⟨m,hn,hl⟩:=id I.loc;have g:(X.env.scope.kind==.class || (X.env.scope.kind==.module && X.env.locals !=X.env.globals))=false:=by rw[I.ok.kind];rfl
 have T:i<U.length:=by rw[I.len];exact(ZF.mp t).1
 have D:=I.cne
 have tracked:∀{a:Addr}{F:Heap},(∃o,s.heap.get? a=some o/\H a=none)->Heap.SameBut a s.heap F->HOk X.prog X.w H F:=λ{a F} ha Z b ob e=>by
  obtain⟨_,_,N⟩:=ha;refine(I.hok b ob e).stay (λc w G q=>(Z.2 c ?_).trans q) (λ_ q=>q) λ_ _ q=>q;rintro rfl;rcases G with rfl|G
  .rw [N]at e;cases e
  .rw [N]at G;cases G
 rcases L with R|R
 .refine wpAny_storeName_local R hn (λF G1 Z=>?_) g
  obtain⟨oL,_,_,J2,_⟩:=id hn;refine h _ ⟨I.ok,I.os,I.bare,⟨λb o e n B L=>?_,λb o e n B L=>?_,I.base.free,λb o e L=>?_,I.base.tups,I.base.frzs,I.base.tbls⟩,⟨_,G1,λj y v' J O e3=>?_⟩,λy c e=>?_,I.free,I.freeC,λp hp=>?_,tracked ⟨oL,J2,I.free⟩ Z,by simpa using I.len⟩ ⟨_,Z,.inl Y⟩
  .exact (Z.2 b<|Ze<|Zx (ZP e) I.ok.above).trans (I.base.keep b o e n B L)
  .obtain ⟨sl,J⟩:=I.base.slot b o e n B L
   exact⟨sl,(Z.2 b<|Ze<|Zx (ZP e) I.ok.above).trans J⟩
  .obtain ⟨o',J⟩:=I.base.there b o e L
   exact⟨o',(Z.2 b<|Ze<|Zx (ZP e) I.ok.above).trans J⟩
  .by_cases hj:j=i
   .subst hj
    rw[t]at J;cases J;rw[List.getElem?_set_self T]at O;cases O;exact⟨u,r,.inl ⟨R,by simp⟩⟩
   .rw [jO (Zs hj)]at O
    obtain⟨u',r',q⟩:=hl j y v' J O e3;exists u',r';rcases q with⟨k,e⟩|⟨k,c,e,z⟩
    .refine .inl ⟨k,?_⟩
     have:y≠x:=λe=>hj<|NQ hN J<|e ▸ t;simp[this,e]
    .exact .inr ⟨k,c,e,z.sameBut Z<|D y c e⟩
  .obtain ⟨w,z⟩:=I.cell y c e
   exact⟨w,z.sameBut Z<|D y c e⟩
  .obtain ⟨e,n,ne,nf,d⟩:=I.pin p hp
   exact⟨(Z.2 p.1 ne).trans e,n,ne,nf,d⟩
 .have hfn:X.fn x=true:=by
   rcases hf with z|z
   .exact z
   .rw [z]at R;cases R
  obtain⟨c,G⟩:=I.ok.has x<|.inl R;obtain⟨w,z⟩:=I.cell x c G;refine wpAny_storeName_cell I.ok.kind R G z λF f Z=>?_;obtain⟨oc,P,C⟩:=id z;refine h {s with heap:=F} ⟨I.ok,I.os,I.bare,⟨λb o e n B L=>?_,λb o e n B L=>?_,I.base.free,λb o e L=>?_,I.base.tups,I.base.frzs,I.base.tbls⟩,⟨m,hn.sameBut Z<|Zs<|D x c G,λj y v' J O e3=>?_⟩,λy l e=>?_,I.free,I.freeC,λp hp=>?_,tracked ⟨oc,P,I.freeC x c G⟩ Z,by simpa using I.len⟩ ⟨c,Z,.inr G⟩
  .exact (Z.2 b<|Ze<|Zx (ZP e)<|I.ok.cab x c hfn G).trans (I.base.keep b o e n B L)
  .obtain ⟨sl,J⟩:=I.base.slot b o e n B L
   exact⟨sl,(Z.2 b<|Ze<|Zx (ZP e)<|I.ok.cab x c hfn G).trans J⟩
  .obtain ⟨o',J⟩:=I.base.there b o e L
   exact⟨o',(Z.2 b<|Ze<|Zx (ZP e)<|I.ok.cab x c hfn G).trans J⟩
  .by_cases hj:j=i
   .subst hj
    rw[t]at J;cases J;rw[List.getElem?_set_self T]at O;cases O;exact⟨u,r,.inr ⟨.inl R,c,G,f⟩⟩
   .rw [jO (Zs hj)]at O
    obtain⟨u',r',q⟩:=hl j y v' J O e3;exists u',r';rcases q with q|⟨k,l,e,z'⟩
    .exact .inl q
    .refine .inr ⟨k,l,e,z'.sameBut Z ?_⟩
     rintro rfl;exact hj<|NQ hN J<|I.ok.inj _ _ _ e G ▸ t
  .by_cases hcc:l=c
   .subst hcc;exact⟨_,f⟩
   .obtain ⟨w2,z2⟩:=I.cell y l e
    exact⟨w2,z2.sameBut Z hcc⟩
  .obtain ⟨e,n,ne,nf,d⟩:=I.pin p hp
   refine⟨(Z.2 p.1 ?_).trans e,n,ne,nf,d⟩;intro q;rw[q,P]at e;have q':oc=p.2:=ZT e;exact d w (by rw[<-q'];exact C)
def GZ(I:Inv X Z U H s)(O:X.N.Nodup)(L:X.N[i]?=some x)(G:Loc X.env.scope x)(r:RelV v u)(h:∀J,Inv X Z (U.set i<|some v) H J->Q () J)(N:X.fn x=true\/X.env.scope.names.lookup x=some .local:=by first|exact .inl Y|exact .inr Y|assumption):wpAny M A (storeName X.env x u) Q E s:=
 Tz I O L G r (λJ R _=>h J R) N
def Inv.call'(I:Inv X Z U H s)(O:J.os=s.os)(u:Un (frs X.stack) ch H M s.heap J.heap)(G:HOk X.prog X.w M J.heap)(R:AllBare J.gens)(L:∀b∈ch,(b∈X.ex\/X.s₀.heap.objs.size<=b)/\b≠X.env.locals/\(∀x c,X.env.cells.lookup x=some c->c≠b)/\∀p∈X.pn++ Z,p.1≠b):Inv X Z U M J:=by
 obtain⟨T,g',d',t',N⟩:=J;have e:N=s.os:=O;subst e;exact I.call (g':=g') (t':=t') (d':=d') u G R L
end
abbrev XK:=Value->Option Addr->Hp->Prop
abbrev St:=List (kL)
abbrev kJ:=St->Hp->Prop
abbrev kI:=Nat->St->Hp->Prop
abbrev VK:=V->Hp->Prop
abbrev TE:=St->Hp->VK->Prop
abbrev TT:=St->Hp->(Bool->Hp->Prop)->Prop
abbrev TA:=St->Hp->(List V->Hp->Prop)->Prop
structure Ends where
 nx:St->Hp->Prop
 rt:VK
 bk:St->Hp->Prop:=λ_ _=>False
 ct:St->Hp->Prop:=λ_ _=>False
abbrev TS:=Ends->St->Hp->Prop
def EP(X:Cx)(pins:ka)(U:St)(Q:VK)(u:Value)(s':Shared):Prop:=∃v Z,Inv X pins U Z s'/\RelV v u/\Q v Z
def TP(X:Cx)(pins:ka)(U:St)(Q:Bool->Hp->Prop)(b:Bool)(s':Shared):Prop:=∃Z,Inv X pins U Z s'/\Q b Z
def AP(X:Cx)(pins:ka)(U:St)(Q:List V->Hp->Prop)(us:kq)(s':Shared):Prop:=∃Z J,Inv X pins U J s'/\Vals Z us/\Q Z J
def SP(X:Cx)(pins:ka)(D:Ends)(f:Flow)(s':Shared):Prop:=
 match f with
 |.next=>∃U' H',Inv X pins U' H' s'/\D.nx U' H'
 |.brk=>∃U' H',Inv X pins U' H' s'/\D.bk U' H'
 |.cont=>∃U' H',Inv X pins U' H' s'/\D.ct U' H'
 |.ret u=>∃v U' H',Inv X pins U' H' s'/\RelV v u/\D.rt v H'
def PE(X:Cx)(e:Expr)(t:TE):Prop:=
 ∀(Z:ka)(s:Shared)(U:St)(H:Hp)(Q:VK),Inv X Z U H s->t U H Q->wpAny (model X.prog X.w) X.A (eval e X.env) (EP X Z U Q) X.xe s
def PT(X:Cx)(e:Expr)(t:TT):Prop:=
 ∀(Z:ka)(s:Shared)(U:St)(H:Hp)(Q:Bool->Hp->Prop),Inv X Z U H s->t U H Q->wpAny (model X.prog X.w) X.A (isTrue e X.env<|eval e X.env) (TP X Z U Q) X.xe s
def PW(X:Cx)(e:Expr)(t:TT):Prop:=
 ∀(whole:Sem Value)(Z:ka)(s:Shared)(U:St)(H:Hp)(Q:Bool->Hp->Prop),Inv X Z U H s->t U H Q->wpAny (model X.prog X.w) X.A (isTrue e X.env whole) (TP X Z U Q) X.xe s
def PW.pt(h:PW X e t):PT X e t:=h _
def PA(X:Cx)(es:kS)(t:TA):Prop:=
 ∀(J:Pos)(Z:ka)(s:Shared)(U:St)(H:Hp)(Q:List V->Hp->Prop),Inv X Z U H s->t U H Q->wpAny (model X.prog X.w) X.A (spliced<|backTo J<|starEach es X.env) (AP X Z U Q) X.xe s
def PS(X:Cx)(st:Stmt)(t:TS):Prop:=
 ∀(Z:ka)(s:Shared)(U:St)(H:Hp)(D:Ends),Inv X Z U H s->t D U H->wpAny (model X.prog X.w) X.A (exec st X.env) (SP X Z D) X.xe s
def PSs(X:Cx)(st:List Stmt)(t:TS):Prop:=
 ∀(Z:ka)(s:Shared)(U:St)(H:Hp)(D:Ends),Inv X Z U H s->t D U H->wpAny (model X.prog X.w) X.A (execs st X.env) (SP X Z D) X.xe s
def thn(h:wpAny M A t Q E s)(Z:∀a s,Q a s->Q' a s):wpAny M A t Q' E s:=Zn h Z λ_ _ x=>x
end L2
namespace L2
open PySem PySem.Spec PyProof.Rows
section
variable{X:Cx}
def II(o:Option (kL))(P:V->Prop):Prop:=match o with
 |some (some v)=>P v
 |_=>False
def II.old(h:II o P):∃v,o=some (some v)/\P v:=by
 match o,h with
 |some (some v),h=>exact⟨v,Y,h⟩
def UU(x:V)(P:Int->Prop):Prop:=match x with
 |.int c=>P c
 |_=>False
def UU.old(h:UU x P):∃c,x=.int c/\P c:=by
 cases x <;> first|exact⟨_,Y,h⟩|exact h.elim
def V6(x:V)(P:Addr->Prop):Prop:=match x with
 |.ref c=>P c
 |_=>False
def V6.old(h:V6 x P):∃c,x=.ref c/\P c:=by
 cases x <;> first|exact⟨_,Y,h⟩|exact h.elim
def BF(i:Nat):TE:=λU H Q=>II U[i]? λv=>Q v H
def tC(v:V):TE:=λ_ H Q=>Q v H
def Sh(E:X.N[i]?=some x)(R:Vis X.env.scope x)(M:(x==("__debug__":Str))=false:=by decide)(N:(x==("__classdict__":Str))=false:=by decide):PE X (.Name x pos) (BF i):=by
 intro L s U H Q I h;replace h:=II.old h;obtain⟨v,e,h⟩:=h;obtain⟨m,T,D⟩:=I.loc;obtain⟨u,r,l⟩:=D i x v E e R;have G:EP X L U Q u s:=⟨v,H,I,r,h⟩;rcases l with⟨J,B⟩|⟨J,c,O,Z⟩
 .exact wpAny_Name (wpAny_loadName_local I.ok.kind J T B G) M
 .rcases J with J|J
  .exact wpAny_Name (wpAny_loadName_cell I.ok.kind J O Z G) M
  .exact wpAny_Name (wpAny_loadName_free I.ok.kind J O Z G N) M
def Ya:PE X (.Constant (.int i) j pos) (tC<|.int i):=λ_ _ _ H _ I h=>wpAny_Constant_int ⟨.int i,H,I.tok _,⟨_,rfl⟩,h⟩
def Xn:PE X (.Constant (.bool b) j pos) (tC<|.bl b):=λ_ _ _ H _ I h=>Constant_bool ⟨.bl b,H,I,rfl,h⟩
def Vs:PE X (.Constant .none j pos) (tC .non):=λ_ _ _ H _ I h=>Constant_none ⟨.non,H,I,rfl,h⟩
def Yy:PE X (.Constant (.str x) j pos) (tC<|.str x):=λ_ _ _ H _ I h=>Calls.Constant_str ⟨.str x,H,I.tok _,⟨_,rfl⟩,h⟩
def Gl(X:Cx)(x:Str):Prop:=X.env.kindOf x=some .globalImplicit
def GD(I:Inv X Z U H s)(G:Gl X x)(J:X.mg x=some u)(h:Q u s)(L:(x==("__debug__":Str))=false:=by decide):wpAny (model X.prog X.w) X.A (eval (.Name x pos) X.env) Q E s:=
 Calls.Name_function_global I.ok.kind G (Calls.loadGlobal_global (by rw[I.ok.glob];exact I.mod.glob.keeps I.bk) J h) L
def Ue(I:Inv X Z U H s)(M:Gl X x)(L:X.mg x=none)(J:bootBuiltins x=some u)(h:Q u s)(G:x≠"__name__":=by decide)(N:(x==("__debug__":Str))=false:=by decide):wpAny (model X.prog X.w) X.A (eval (.Name x pos) X.env) Q E s:=by
 obtain⟨T,R,O⟩:=I.mod.blt;exact Calls.Name_function_global I.ok.kind M (Calls.loadGlobal_builtin (by rw[I.ok.glob];exact I.mod.glob.keeps I.bk) L (by rw[I.ok.blt];exact R.keeps I.bk) ((O x G).trans J) h) N
def JF(J:Gl X x)(Z:X.mg x=some u)(r:RelV v u)(G:(x==("__debug__":Str))=false:=by decide):PE X (.Name x pos) (tC v):=
 λ_ _ _ H _ I h=>GD I J Z ⟨v,H,I,r,h⟩ G
def MU(L:Gl X x)(G:X.mg x=none)(Z:bootBuiltins x=some u)(r:RelV v u)(J:x≠"__name__":=by decide)(M:(x==("__debug__":Str))=false:=by decide):PE X (.Name x pos) (tC v):=
 λ_ _ _ H _ I h=>Ue I L G Z ⟨v,H,I,r,h⟩ J M
variable{a b:Expr}{ta tb:TE}{pos:Pos}
def PC(X:Cx)(op:CmpOp)(a b:Expr)(t:TE):Prop:=
 ∀(Z:ka)(s:Shared)(U:St)(H:Hp)(Q:VK),Inv X Z U H s->t U H Q->
  wpAny (model X.prog X.w) X.A (eval a X.env) (λv G=>wpAny (model X.prog X.w) X.A (eval b X.env) (λu J=>wpAny (model X.prog X.w) X.A (compareOp op v u) (EP X Z U Q) X.xe J) X.xe G) X.xe s
def tB(t:TE):TT:=λU H Q=>t U H λx Z=>∃c,x=.bl c/\Q c Z
def Jp(h:PC X op a b t)(J:behindInMarks op b=false:=by first|exact nobehind _ (by decide) (by decide)|rfl):PT X (.Compare a [op] [b] pos) (tB t):=by
 intro Z s U H Q I M;refine wpAny_isTrue_Compare1 (thn (h Z s U H _ I M) λv D J=>thn J λu B N=>thn N λc T ⟨x,R,O,G,L⟩=>?_) J;obtain⟨d,rfl,q⟩:=L;cases G;exact yq ⟨R,O,q⟩
def JR(h:PE X e t)(M:∀whole,isTrue e X.env whole=(do let v <-whole;standAt e.pos;holding [v] (truthy v)):=by intro _;rfl):PT X e (tB t):=by
 intro Z s U H Q I L;refine isTrue_plain (thn (h Z s U H _ I L) λv R ⟨x,O,N,J,G⟩=>?_)<|M _;obtain⟨d,rfl,q⟩:=G;cases J;exact yq ⟨O,N,q⟩
variable{rest:kS}
def zX(t u:TT):TT:=λU H Q=>t U H λc Z=>if c=true then u U Z Q else Q false Z
def tOr(t u:TT):TT:=λU H Q=>t U H λc Z=>if c=true then Q true Z else u U Z Q
def zS(t:TT):TT:=λU H Q=>t U H λc Z=>Q (!c) Z
def W6(J:PT X a tA):PW X (.BoolOp .And [a] pos) tA:=by
 intro G Z s U H Q I h;refine isTrue_and<|thn (J Z s U H Q I h) λc L e=>?_
 cases c with
 |true=>exact isTrue_and_nil e
 |false=>exact e
def Jo(J:PT X a tA):PW X (.BoolOp .Or [a] pos) tA:=by
 intro G Z s U H Q I h;refine isTrue_or<|thn (J Z s U H Q I h) λc L e=>?_
 cases c with
 |false=>exact isTrue_or_nil e
 |true=>exact e
def MS(R:PT X a tA)(O:PW X (.BoolOp .And (b::rest) pos) tB'):PW X (.BoolOp .And (a::b::rest) pos) (zX tA tB'):=by
 intro M Z s U H Q I h;refine isTrue_and<|thn (R Z s U H _ I h) λc N ⟨L,G,J⟩=>?_
 cases c with
 |true=>exact O M Z N U L Q G J
 |false=>exact⟨L,G,J⟩
def UP(R:PT X a tA)(O:PW X (.BoolOp .Or (b::rest) pos) tB'):PW X (.BoolOp .Or (a::b::rest) pos) (tOr tA tB'):=by
 intro M Z s U H Q I h;refine isTrue_or<|thn (R Z s U H _ I h) λc N ⟨L,G,J⟩=>?_
 cases c with
 |true=>exact⟨L,G,J⟩
 |false=>exact O M Z N U L Q G J
def Jk(J:PT X a tA):PT X (.UnaryOp .Not a pos) (zS tA):=by
 intro Z s U H Q I h;exact isTrue_not<|J Z s U H (λc G=>Q (!c) G) I h
def Aw(ta tb:TE):TE:=λU H Q=>ta U H λx Z=>∃c,x=.bl c/\if c=true then tb U Z Q else Q (.bl false) Z
def zR(ta tb:TE):TE:=λU H Q=>ta U H λx Z=>∃c,x=.bl c/\if c=true then Q (.bl true) Z else tb U Z Q
def Aq(ta:TE):TE:=λU H Q=>ta U H λx Z=>∃c,x=.bl c/\Q (.bl<|!c) Z
def XW(h:PE X a t):PE X (.BoolOp op [a] pos) t:=λZ s U H Q I J=>BoolOp_one<|h Z s U H Q I J
def WO(R:PE X a ta)(O:PE X (.BoolOp .And (b::rest) pos) tb):PE X (.BoolOp .And (a::b::rest) pos) (Aw ta tb):=by
 intro Z s U H Q I h;refine BoolOp_and<|thn (R Z s U H _ I h) λv M ⟨x,L,G,N,J⟩=>?_;obtain⟨c,rfl,J⟩:=J;cases N;refine yq ?_
 cases c with
 |true=>exact O Z M U L Q G J
 |false=>exact⟨.bl false,L,G,Y,J⟩
def CF(R:PE X a ta)(O:PE X (.BoolOp .Or (b::rest) pos) tb):PE X (.BoolOp .Or (a::b::rest) pos) (zR ta tb):=by
 intro Z s U H Q I h;refine BoolOp_or<|thn (R Z s U H _ I h) λv M ⟨x,L,G,N,J⟩=>?_;obtain⟨c,rfl,J⟩:=J;cases N;refine yq ?_
 cases c with
 |false=>exact O Z M U L Q G J
 |true=>exact⟨.bl true,L,G,Y,J⟩
def Si(L:PE X a ta):PE X (.UnaryOp .Not a pos) (Aq ta):=by
 intro Z s U H Q I h;refine UnaryOp_<|thn (L Z s U H _ I h) λv O ⟨x,N,M,G,J⟩=>?_;obtain⟨c,rfl,J⟩:=J;cases G;exact not_of<|yq ⟨.bl<|!c,N,M,rfl,J⟩
end
end L2
namespace L2
open PySem PySem.Spec PyProof.Rows
def SqL(K:W.Frag)(H:Hp)(a:Addr)(xs:kH):Prop:=
 Rd H a (.lst xs) \/
  ∃(o:Obj)(Z:kE)(n:Nat),K.lookup a=some o/\o.cls=.type "list" /\o.dict=none/\o.data=.seq Z n/\Z.size<=sizeLine/\Vals xs Z.toList
def SqT(K:W.Frag)(H:Hp)(a:Addr)(xs:kH):Prop:=
 Rd H a (.tup xs) \/
  ∃(o:Obj)(Z:kE)(n:Nat),K.lookup a=some o/\o.cls=.type "tuple" /\o.data=.seq Z n/\Z.size<=sizeLine/\Vals xs Z.toList
def yb:Value->Option V
 |.none=>some .non
 |.bool b=>some<|.bl b
 |.int i _=>some<|.int i
 |.str x _=>some<|.str x
 |.bytes b _=>some<|.byt b
 |.float b _=>some<|.flt b
 |.ref a=>some<|.ref a
 |.type n=>some<|.ty n
 |_=>none
def RelV.abs(r:RelV x u):yb u=some x:=by
 cases x with
 |non=>cases r;rfl
 |bl _=>cases r;rfl
 |int _=>obtain⟨t,rfl⟩:=r;rfl
 |str _=>obtain⟨t,rfl⟩:=r;rfl
 |byt _=>obtain⟨t,rfl⟩:=r;rfl
 |flt _=>obtain⟨t,rfl⟩:=r;rfl
 |ref _=>cases r;rfl
 |ty _=>cases r;rfl
def RelV.inj(r:RelV x u)(q:RelV y u):x=y:=ZT<|r.abs.symm.trans q.abs
theorem Vals.inj:∀{J Z:kH}{G:kq},Vals J G->Vals Z G->J=Z
 |_,_,_,.nil,.nil=>rfl
 |_,_,_,.cons r t,.cons r' t'=>by rw[r.inj r',Vals.inj t t']
section
def SqL.of{K:W.Frag}(h:H a=some (.lst Z)):SqL K H a Z:=.inl<|.inl h
abbrev Z3:=@SqL.of
def SqT.of{K:W.Frag}(h:H a=some (.tup Z)):SqT K H a Z:=.inl<|.inl h
abbrev Z2:=@SqT.of
def Inv.list(I:Inv X G U H s)(h:SqL X.K H a J):∃Z:kq,Vals J Z/\PlainL s.heap a Z.toArray/\J.length<=sizeLine:=by
 rcases h with h|⟨o,Z,n,M,O,N,L,R,r⟩
 .obtain ⟨z,Z,n,r,e⟩:=h.ok I.hok
  exact⟨Z,r,⟨_,n,e,Y,Y,Y⟩,z⟩
 .refine ⟨Z.toList,r,⟨o,n,I.kIn a o M,O,N,by simpa using L⟩,?_⟩
  have e:=r.length;simp only[jU]at e;omega
def Inv.tuple(I:Inv X G U H s)(h:SqT X.K H a J):∃Z:kq,Vals J Z/\IsTup s.heap a Z.toArray/\J.length<=sizeLine:=by
 rcases h with h|⟨o,Z,n,M,N,L,O,r⟩
 .obtain ⟨z,Z,r,p⟩:=h.ok I.hok
  exact⟨Z,r,p.is,z⟩
 .refine ⟨Z.toList,r,⟨o,I.kIn a o M,N,n,by simpa using L⟩,?_⟩
  have e:=r.length;simp only[jU]at e;omega
def Inv.list_inj(I:Inv X G U H s)(h:SqL X.K H a O)(T:SqL X.K H a N):O=N:=by
 obtain⟨J,r,⟨o,n,e,_,_,d⟩,_⟩:=I.list h;obtain⟨Z,R,⟨D,E,L,_,_,M⟩,_⟩:=I.list T;rw[e]at L;cases L;rw[d]at M;injection M with B _;have:J=Z:=by simpa using congrArg Array.toList B
 subst this;exact r.inj R
def Inv.tuple_inj(I:Inv X G U H s)(h:SqT X.K H a O)(T:SqT X.K H a N):O=N:=by
 obtain⟨J,r,⟨o,e,_,n,d⟩,_⟩:=I.tuple h;obtain⟨Z,R,⟨D,L,_,E,M⟩,_⟩:=I.tuple T;rw[e]at L;cases L;rw[d]at M;injection M with B _;have:J=Z:=by simpa using congrArg Array.toList B
 subst this;exact r.inj R
end
abbrev Cx.wish(X:Cx)(E:kh):Cx:={X with xe:=E}
abbrev Cx.nox(X:Cx):Cx:=X.wish λ_ _=>False
def Cx.Ok.wish{X:Cx}(Z:X.Ok)(E:kh):(X.wish E).Ok:=
 ⟨Z.mod,Z.kind,Z.glob,Z.blt,Z.above,Z.inj,Z.has,Z.cab,Z.hd,Z.frames,Z.stk,Z.exf,Z.bs,Z.bsz,Z.noex,Z.exfs,Z.funs,Z.frf⟩
def Cx.Ok.unwish{X:Cx}(Z:(X.wish E).Ok):X.Ok:=
 ⟨Z.mod,Z.kind,Z.glob,Z.blt,Z.above,Z.inj,Z.has,Z.cab,Z.hd,Z.frames,Z.stk,Z.exf,Z.bs,Z.bsz,Z.noex,Z.exfs,Z.funs,Z.frf⟩
section
def Inv.wish(I:Inv X Z U H s)(E:kh):Inv (X.wish E) Z U H s:=⟨I.ok.wish E,I.os,I.bare,I.base,I.loc,I.cell,I.free,I.freeC,I.pin,I.hok,I.len⟩
def Inv.unwish(I:Inv (X.wish E) Z U H s):Inv X Z U H s:=⟨I.ok.unwish,I.os,I.bare,I.base,I.loc,I.cell,I.free,I.freeC,I.pin,I.hok,I.len⟩
def SP.unwish(h:SP (X.wish E) G D f L):SP X G D f L:=by
 cases f with
 |next=>obtain⟨Z,J,I,q⟩:=h;exact⟨Z,J,I.unwish,q⟩
 |brk=>obtain⟨Z,J,I,q⟩:=h;exact⟨Z,J,I.unwish,q⟩
 |cont=>obtain⟨Z,J,I,q⟩:=h;exact⟨Z,J,I.unwish,q⟩
 |ret u=>obtain⟨v,Z,J,I,r,q⟩:=h;exact⟨v,Z,J,I.unwish,r,q⟩
def PSs.nox{st:List Stmt}(h:PSs X.nox st t):PSs X st t:=λZ s U H D I J=>
 Zn (h Z s U H D (I.wish _) J) (λ_ _ q=>q.unwish) λ_ _ z=>False.elim z
end
section
variable{st:Stmt}{rest:List Stmt}{t u:TS}{te:TE}
def QO:TS:=λD U H=>D.nx U H
def Yk(t u:TS):TS:=λD U H=>t {D with nx:=u D} U H
def Yp:PSs X [] QO:=λ_ _ U H _ I h=>jY ⟨U,H,I,h⟩
def YY(L:PS X st t)(G:PSs X rest u):PSs X (st::rest) (Yk t u):=by
 intro Z s U H D I h;refine wpAny_execs_cons<|thn (L Z s U H {D with nx:=u D} I h) λf J q=>?_
 cases f with
 |next=>
  obtain⟨M,O,N,q⟩:=q;exact G Z J M O D N q
 |ret v=>exact q
 |brk=>exact q
 |cont=>exact q
def YZ(J:PS X st t):PSs X [st] t:=by
 intro Z s U H D I h;refine wpAny_execs_cons<|thn (J Z s U H D I h) λf G q=>?_
 cases f with
 |next=>exact jY q
 |ret v=>exact q
 |brk=>exact q
 |cont=>exact q
def Inv.quiet(I:Inv X Z U H s):interactive X.env=false:=by simp[interactive,I.ok.kind]
def Au(te:TE):TS:=λD U H=>te U H λ_ Z=>D.nx U Z
def VQ(L:PE X e te)(G:swapsWith e none pos.line X.env=pure false:=by rfl):PS X (.Expr e pos) (Au te):=by
 intro Z s U H D I h;exact wpAny_Expr_any (thn (L Z s U H _ I h) λv O ⟨x,N,M,R,J⟩=>⟨U,N,M,J⟩) I.quiet G
def zQ(te:TE):TS:=λD U H=>te U H D.rt
def Ym(L:PE X e te):PS X (.Return (some e) pos) (zQ te):=by
 intro Z s U H D I h;exact wpAny_Return_some<|thn (L Z s U H _ I h) λv O ⟨x,N,M,J,G⟩=>⟨x,U,N,M,J,G⟩
def Ao:TS:=λD _ H=>D.rt .non H
def Oy:PS X (.Return none pos) Ao:=λ_ _ U H _ I h=>wpAny_Return_none ⟨.non,U,H,I,rfl,h⟩
def VE(c:TT)(t u:TS):TS:=λD U H=>c U H λb Z=>if b=true then t D U Z else u D U Z
def Y1(N:PT X c tc)(R:PSs X a t)(O:PSs X b u):PS X (.If c a b pos) (VE tc t u):=by
 intro Z s U H D I h;refine wpAny_If<|thn (N Z s U H _ I h) λd J ⟨M,L,G⟩=>?_
 cases d with
 |true=>exact R Z J U M D L G
 |false=>exact O Z J U M D L G
def Q2:TS:=λ_ _ _=>False
def JV:PSs X sts Q2:=λ_ _ _ _ _ _ h=>h.elim
end
abbrev TG:=V->St->Hp->(kJ)->Prop
abbrev TGs:=List V->St->Hp->(kJ)->Prop
def PG(X:Cx)(target:Expr)(t:TG):Prop:=
 ∀(Z:ka)(s:Shared)(U:St)(H:Hp)(v:V)(u:Value)(Q:kJ),Inv X Z U H s->RelV v u->t v U H Q->
  wpAny (model X.prog X.w) X.A (assign target X.env u) (λ_ L=>∃J G,Inv X Z J G L/\Q J G) X.xe s
def PGs(X:Cx)(ts:kS)(t:TGs):Prop:=
 ∀(Z:ka)(s:Shared)(U:St)(H:Hp)(J:kH)(G:kq)(Q:kJ),Inv X Z U H s->Vals J G->t J U H Q->
  wpAny (model X.prog X.w) X.A (assignInOrder ((assignEach ts X.env).map (·.2)) G) (λ_ N=>∃L M,Inv X Z L M N/\Q L M) X.xe s
abbrev zA:=V->V->V->Hp->(Hp->Prop)->Prop
def zM(X:Cx)(t:zA):Prop:=
 ∀(Z:ka)(s:Shared)(U:St)(H:Hp)(o i v:V)(J G u:Value)(Q:Hp->Prop),Inv X Z U H s->RelV o J->RelV i G->RelV v u->t o i v H Q->
  wpAny (model X.prog X.w) X.A (setItem J G u) (λ_ M=>∃L,Inv X Z U L M/\Q L) X.xe s
abbrev TIp:=V->V->Hp->VK->Prop
def PIp(X:Cx)(op:Operator)(t:TIp):Prop:=
 ∀(Z:ka)(s:Shared)(U:St)(H:Hp)(x y:V)(v u:Value)(Q:VK),Inv X Z U H s->RelV x v->RelV y u->t x y H Q->
  wpAny (model X.prog X.w) X.A (inplaceOp op v u) (EP X Z U Q) X.xe s
section
variable{X:Cx}
def Vl(i:Nat):TG:=λv U H Q=>Q (U.set i<|some v) H
def Yl(i:Nat)(M:X.N.Nodup)(G:X.N[i]?=some x:=by exact Y)(J:Loc X.env.scope x:=by exact Or.inl Y)(L:X.fn x=true\/X.env.scope.names.lookup x=some .local:=by first|exact .inl Y|exact .inr Y|assumption):PG X (.Name x pos) (Vl i):=by
 intro Z s U H v u Q I r h;exact wpAny_assign_Name<|GZ I M G J r (λO N=>⟨_,H,N,h⟩) L
def TY:TGs:=λvs U H Q=>match vs with
 |[]=>Q U H
 |_=>False
def TY.old(h:TY Z U H Q):Z=[]/\Q U H:=by
 match Z,h with
 |[],h=>exact⟨Y,h⟩
def Jf(t:TG)(u:TGs):TGs:=λvs U H Q=>match vs with
 |v::r=>t v U H λU' H'=>u r U' H' Q
 |_=>False
def Jf.old(h:Jf t u Z U H Q):∃v r,Z=v::r/\t v U H λJ G=>u r J G Q:=by
 match Z,h with
 |v::r,h=>exact⟨v,r,Y,h⟩
def VN:PGs X [] TY:=by
 intro Z s U H J G Q I r h;replace h:=TY.old h;obtain⟨e,h⟩:=h;subst e;cases r;exact assignInOrder_nil ⟨U,H,I,h⟩
def Ys(R:PG X e t)(O:PGs X J u)(N:(assignEach (e::J) X.env).map (·.2)=assign e X.env::(assignEach J X.env).map (·.2):=by rfl):PGs X (e::J) (Jf t u):=by
 intro Z s U H E A Q I r h;replace h:=Jf.old h;obtain⟨v,F,T,h⟩:=h;subst T
 cases r with
 |cons r L=>
  rw[N];refine assignInOrder_cons<|thn (R Z s U H _ _ _ I r h) λ_ G ⟨σ1,D,B,M⟩=>?_;exact O Z G σ1 D _ _ Q B L M
def Ni(K:W.Frag)(n:Nat)(t:TGs):TG:=λv U H Q=>V6 v λa=>∃Z,SqT K H a Z/\Z.length=n/\t Z U H Q
def Vd(F:X.calm=true)(h:PGs X L t)(D:(assignEach L X.env).length=n:=by rfl)(G:(assignEach L X.env).findIdx? (·.1)=none:=by rfl):PG X (.Tuple L k pos) (Ni X.K n t):=by
 intro Z s U H v u Q I r J;replace J:=V6.old J;obtain⟨a,S,N,B,E,J⟩:=J;subst S;cases r;obtain⟨O,M,T,P⟩:=I.tuple B;refine assign_Tuple_tuple (I.ok.hd F) T (by simp[D,<-E,M.length]) G λA R=>?_;have C:Inv X Z U H {s with heap:=A}:=I.kept (t':=s.toks) λb o e=>R b o (Ze<|ZP e) e;exact h Z _ U H N _ Q C (by simpa using M) J
def yU(to ti:TE)(t:zA):TG:=λv U H Q=>to U H λo G=>ti U G λi J=>t o i v J λZ=>Q U Z
def Bx(E:PE X o to)(F:PE X i ti)(D:zM X t)(A:∀v,assign (.Subscript o i pos) X.env v=(do
   let J <-holding [v] (eval o X.env)
   let G <-holding [v,J] (eval i X.env)
   standAt pos
   holding [v,J,G] (setItem J G v)
   release [v,J,G] []):=by intro _;rfl):PG X (.Subscript o i pos) (yU to ti t):=by
 intro Z s U H v u Q I r h;rw[A];refine Zl<|wpAny_holding<|thn (E Z s U H _ I h) λJ M ⟨x,q,P,O,B⟩=>?_;refine Zl<|wpAny_holding<|thn (F Z M U q _ P B) λG L ⟨y,z,C,N,T⟩=>?_;refine Zl<|vF<|Zl<|wpAny_holding<|thn (D Z L U z x y v J G u _ C O N r T) λ_ m ⟨j,S,R⟩=>?_;exact wpAny_release ⟨U,j,S,R⟩
def E5(te:TE)(g:TG):TS:=λD U H=>te U H λx Z=>g x U Z D.nx
def Jq(R:PE X e te)(O:PG X tg g)(N:swapsWithSole [tg] e pos.line X.env=pure false:=by rfl)(M:swappedStores [tg] e X.env=pure none:=by rfl)(T:(assignEach [tg] X.env).map (·.2)=[assign tg X.env]:=by rfl):PS X (.Assign [tg] e pos) (E5 te g):=by
 intro Z s U H D I h;refine wpAny_Assign_stores (thn (R Z s U H _ I h) λv J ⟨x,E,B,G,L⟩=>?_) N M;rw[T];exact thn (O Z J U E x v _ B G L) λ_ F q=>q
def Yx(i:Nat)(R:X.N.Nodup)(O:PE X e te)(M:X.N[i]?=some x:=by exact Y)(hx:Loc X.env.scope x:=by exact Or.inl Y)(L:swapsWith e (some<|.Name x pos') pos.line X.env=pure false:=by rfl)(N:X.fn x=true\/X.env.scope.names.lookup x=some .local:=by first|exact .inl Y|exact .inr Y|assumption):
  PS X (.Assign [.Name x pos'] e pos) (E5 te<|Vl i):=by
 intro Z s U H D I h;refine wpAny_Assign_Name (thn (O Z s U H _ I h) λv A ⟨y,E,B,J,G⟩=>?_) L;exact GZ B R M hx J (λF T=>⟨_,E,T,G⟩) N
def zW(i:Nat)(te:TE)(ti:TIp):TS:=λD U H=>∃x,U[i]?=some (some x)/\te U H λy J=>ti x y J λz Z=>D.nx (U.set i<|some z) Z
def KN(g:X.N.Nodup)(R:X.N[i]?=some x)(O:Loc X.env.scope x)(q:PE X e te)(S:PIp X op ti)(j:X.fn x=true\/X.env.scope.names.lookup x=some .local:=by first|exact .inl Y|exact .inr Y|assumption):
  PS X (.AugAssign (.Name x pos') op e pos) (zW i te ti):=by
 intro Z s U H D I h;obtain⟨v,p,h⟩:=h;obtain⟨m,C,Q⟩:=I.loc;have N:Vis X.env.scope x:=by rcases O with k|k;exact .inl k;exact .inr<|.inl k
 obtain⟨u,r,l⟩:=Q i x v R p N;refine wpAny_AugAssign_Name ?_
 have go:wpAny (model X.prog X.w) X.A (eval e X.env) (λw M=>wpAny (model X.prog X.w) X.A (inplaceOp op u w) (λr L=>wpAny (model X.prog X.w) X.A (storeName X.env x r) (λ_=>SP X Z D .next) X.xe L) X.xe M) X.xe s:=by
  refine thn (q Z s U H _ I h) λw T ⟨y,n,b,E,A⟩=>?_;refine thn (S Z T U n v y u w _ b r E A) λz s2 ⟨a,o,f,B,F⟩=>?_;exact GZ f g R O B (λs3 d=>⟨_,o,d,F⟩) j
 rcases l with⟨J,P⟩|⟨J,c,t,G⟩
 .exact wpAny_loadName_local I.ok.kind J C P go
 .rcases J with J|J
  .exact wpAny_loadName_cell I.ok.kind J t G go
  .rcases O with k|k
   .have:X.env.scope.names.lookup x=some .free:=J
    rw[k]at this;cases this
   .have:X.env.scope.names.lookup x=some .free:=J
    rw[k]at this;cases this
end
section
def BE(c:TT)(tb:TS):TS:=λD U H=>∃W:kI,(∃m,W m U H)/\∀m U H,W m U H->
 c U H λb G=>if b=true then ∃N:kJ,(∀J L,N J L->∃Z,Z<m/\W Z J L)/\tb {D with nx:=N,ct:=N,bk:=D.nx} U G else D.nx U G
def NJ(E:PassesOwn (model X.prog X.w) X.A X.env X.xe)(g:PT X c tc)(k:PSs X body tb):PS X (.While c body [] pos) (BE tc tb):=by
 intro Z s U H D I h;obtain⟨W,⟨m,y⟩,turn⟩:=h;refine wpAny_While<|codeAny_whileLoop (λn t=>∃A Q,Inv X Z A Q t/\W n A Q) ?_ m ⟨U,H,I,y⟩;rintro n q ⟨σ1,P,p,j⟩;refine vM E<|thn (g Z q σ1 P _ p<|turn n σ1 P j) λb z ⟨C,S,L⟩=>?_
 cases b with
 |true=>
  obtain⟨N,F,L⟩:=L;rw[Zp rfl];refine vM E<|thn (k Z z σ1 C _ S L) λf d G=>?_
  cases f with
  |next=>
   obtain⟨σ3,J,B,O⟩:=G;obtain⟨R,T,M⟩:=F σ3 J O;exact⟨R,T,σ3,J,B,M⟩
  |cont=>
   obtain⟨σ3,J,B,O⟩:=G;obtain⟨R,T,M⟩:=F σ3 J O;exact⟨R,T,σ3,J,B,M⟩
  |brk=>exact G
  |ret v=>exact G
 |false=>
  rw[Zq Zi];exact jY ⟨σ1,C,S,L⟩
end
structure It where
 go:Nat->Hp->Prop
 yld:Nat->Hp->V->Hp->Prop
 stop:Nat->Hp->Prop
def J6(X:Cx)(pins:ka)(H:Hp)(b:Addr):Prop:=
 H b=none/\b≠X.env.locals/\b∉X.fs/\(b∈X.ex\/X.s₀.heap.objs.size<=b)/\(∀x c,X.env.cells.lookup x=some c->c≠b)/\∀p∈X.pn++ pins,p.1≠b
def Inv.fpOk(I:Inv X Z U H s)(J:s.heap.objs.size<=b)(L:M b=none):J6 X Z M b:=by
 refine⟨L,vt<|Zx I.lt J,I.nofs J,.inr<|Zb I.sz J,λx c e z=>?_,λp G z=>?_⟩
 .obtain ⟨v,q⟩:=I.cell x c e
  exact Zr (Zx q.lt (by rw[z];exact J))<|vb _
 .exact Zr (Zx (ZP (I.pin p G).1) (by rw[z];exact J)) (vb _)
structure Turn(P:Program)(w:World)(K:W.Frag)(tg:Expr)(J:It)(fp:List Addr)(it:Addr)(tn:Nat->Heap->Prop):Prop where
 mem:it∈fp
 obj:∀i h,tn i h->∀b∈fp,∃o,h.get? b=some o/\∀v,o.data≠.cell v
 keep:∀i h h',tn i h->(∀b∈fp,∀o,h.get? b=some o->h'.get? b=some o)->tn i h'
 item:∀(X:Cx),X.prog=P->X.w=w->X.K=K->X.calm=true->∀(i:Nat)(pins:List (Addr×Obj))(s:Shared)(U:St)(H:Hp)(E:Value->Shared->Prop),Inv X pins U H s->(∀b∈fp,J6 X pins H b)->tn i s.heap->J.go i H->
  wpAny (model P w) X.A (pyNext (.ref it)) (λr s1=>∃u,r=some u/\
   wpAny (model P w) X.A (letOwnedTupleGo tg (.ref it) u) (λ_ s2=>∃x H',Inv X pins U H' s2/\RelV x u/\J.yld i H x H'/\tn (i+1) s2.heap/\∀b∈fp,H' b=none) E s1) E s
 done:∀(X:Cx),X.prog=P->X.w=w->X.K=K->X.calm=true->∀(i:Nat)(pins:List (Addr×Obj))(s:Shared)(U:St)(H:Hp)(E:Value->Shared->Prop),Inv X pins U H s->(∀b∈fp,J6 X pins H b)->tn i s.heap->J.stop i H->
  wpAny (model P w) X.A (pyNext (.ref it)) (λr s1=>r=none/\Inv X pins U H s1) E s
 self:∀(A:Around)(i:Nat)(s:Shared)(Q:Value->Shared->Prop)(E:Value->Shared->Prop),tn i s.heap->Q (.ref it) s->wpAny (model P w) A (pyIter (.ref it)) Q E s
abbrev TI:=St->Hp->(It->Hp->Prop)->Prop
def PIE(X:Cx)(pins:ka)(U:St)(tg:Expr)(R:It->Hp->Prop)(itv:Value)(s2:Shared):Prop:=
 ∃(L:Addr)(M:kC)(G:Nat->Heap->Prop)(J:It)(Z:Hp),itv=.ref L/\Inv X pins U Z s2/\Turn X.prog X.w X.K tg J M L G/\G 0 s2.heap/\(∀b∈M,J6 X pins Z b)/\R J Z
def PI(X:Cx)(tg iter:Expr)(wi:TI):Prop:=
 ∀(Z:ka)(s:Shared)(U:St)(H:Hp)(R:It->Hp->Prop),Inv X Z U H s->wi U H R->
  wpAny (model X.prog X.w) X.A (eval iter X.env) (λv J=>wpAny (model X.prog X.w) X.A (pyIter v) (PIE X Z U tg R) X.xe J) X.xe s
def Lf(L:s.heap.get? G=some o)(R:o.cls=.type n)(O:o.data=.fields J)(N:["enumerate","zip","dict_itemiterator","dict_reverseitemiterator","odict_iterator","itertools.zip_longest","itertools.pairwise"].contains n=false)(Z:Q () s):wpAny M A (letOwnedTupleGo tg (.ref G) u) Q E s:=by
  unfold letOwnedTupleGo;cases tg <;> first
    |exact Zm Z
    | (cases u <;> first
        |exact Zm Z
        | (refine Zl<|wpAny_load L ?_
           rw[R,O];show wpAny M A (if(["enumerate","zip","dict_itemiterator","dict_reverseitemiterator","odict_iterator","itertools.zip_longest","itertools.pairwise"].contains n && J[0]?==some (rawInt _))=true then _ else _) Q E s;rw[Zq (by intro h;rw[N,Bool.false_and]at h;cases h)];exact Zm Z))
def Itl(K:W.Frag)(a:Addr):It:=
 ⟨λi H=>∃Z x,SqL K H a Z/\Z[i]?=some x,λi H x J=>J=H/\∀Z,SqL K H a Z->Z[i]?=some x,λi H=>∃Z,SqL K H a Z/\Z.length<=i⟩
def Itt(K:W.Frag)(a:Addr):It:=
 ⟨λi H=>∃Z x,SqT K H a Z/\Z[i]?=some x,λi H x J=>J=H/\∀Z,SqT K H a Z->Z[i]?=some x,λi H=>∃Z,SqT K H a Z/\Z.length<=i⟩
def Itr(lo:Int)(n:Nat):It:=⟨λi _=>i<n,λi H x Z=>Z=H/\x=.int (lo+i),λi _=>n<=i⟩
def Ez{P:Program}{w:World}{K:W.Frag}{g:Expr}(a J:Addr):Turn P w K g (Itl K a) [J] J (λi h=>h.IsListIter J a i) where
 mem:=by simp
 obj:=λi h st b G=>by
  have e:b=J:=by simpa using G
  subst e;obtain⟨o,e,c,d⟩:=st;exact⟨o,e,λv z=>by rw[d]at z;cases z⟩
 keep:=λi h O st k=>st.at λo e=>k J (by simp) o e
 item:=by
  intro X A D S t i Z s U H E I N st F;subst A D S;obtain⟨m,x,M,B⟩:=F;obtain⟨T,R,p,l⟩:=I.list M;obtain⟨u,hu,r⟩:=R.get B;obtain⟨q,y,f2,j,Q,C⟩:=N J (by simp);refine wpAny_pyNext_list_item st p.isList (x:=u) (by simpa using hu) λO L f=>?_;have I1:Inv X Z U H {s with heap:=O}:=I.turned (t':=s.toks) (λb o G e=>(f.2 b G).trans e) q y j Q C;obtain⟨o,e,c,d⟩:=id L;exact⟨u,Y,Lf (s:={s with heap:=O}) e c d (by decide) ⟨x,H,I1,r,⟨Y,λys n=>by rw[I.list_inj n M];exact B⟩,L,λb G=>(N b G).1⟩⟩
 done:=by
  intro X A D S t i Z s U H E I N st F;subst A D S;obtain⟨m,M,B⟩:=F;obtain⟨T,R,p,l⟩:=I.list M;obtain⟨q,y,f2,j,Q,C⟩:=N J (by simp);have hl:=R.length;exact wpAny_pyNext_list_end (I.ok.hd t) st p.isList (by simp;omega) λO eb=>⟨Y,I.turned (t':=s.toks) (λb o G e=>eb b o G e) q y j Q C⟩
 self:=λ_ _ _ _ _ st h=>wpAny_pyIter_listiter st h
def N7{P:Program}{w:World}{K:W.Frag}{g:Expr}(a G:Addr):Turn P w K g (Itt K a) [G] G (λi h=>h.IsTupleIter G a i) where
 mem:=by simp
 obj:=λi h st b L=>by
  have e:b=G:=by simpa using L
  subst e;obtain⟨o,e,c,d⟩:=st;exact⟨o,e,λv z=>by rw[d]at z;cases z⟩
 keep:=λi h R st k=>st.at λo e=>k G (by simp) o e
 item:=by
  intro X A D S t i Z s U H E I O st F;subst A D S;obtain⟨m,x,N,B⟩:=F;obtain⟨J,T,p,l⟩:=I.tuple N;obtain⟨u,hu,r⟩:=T.get B;obtain⟨q,y,f2,j,Q,C⟩:=O G (by simp);refine wpAny_pyNext_tuple_item st (show s.heap.IsTuple a J.toArray from p) (x:=u) (by simpa using hu) λR M f=>?_;have I1:Inv X Z U H {s with heap:=R}:=I.turned (t':=s.toks) (λb o L e=>(f.2 b L).trans e) q y j Q C;obtain⟨o,e,c,d⟩:=id M;exact⟨u,Y,Lf (s:={s with heap:=R}) e c d (by decide) ⟨x,H,I1,r,⟨Y,λys n=>by rw[I.tuple_inj n N];exact B⟩,M,λb L=>(O b L).1⟩⟩
 done:=by
  intro X A D S t i Z s U H E I O st F;subst A D S;obtain⟨m,N,B⟩:=F;obtain⟨J,T,p,l⟩:=I.tuple N;obtain⟨q,y,f2,j,Q,C⟩:=O G (by simp);have hl:=T.length;exact wpAny_pyNext_tuple_end (I.ok.hd t) st (show s.heap.IsTuple a J.toArray from p) (by simp;omega) λR eb=>⟨Y,I.turned (t':=s.toks) (λb o L e=>eb b o L e) q y j Q C⟩
 self:=λ_ _ _ _ _ st h=>wpAny_pyIter_tupleiter st h
def N8{P:Program}{w:World}{K:PySem.W.Frag}{m:Expr}(J:Addr)(M:Int)(n:Nat):Turn P w K m (Itr M n) [J] J (λi h=>IsRangeIter h J (M+(i:Nat)*1) ((n:Int)-(i:Nat)) 1) where
 mem:=by simp
 obj:=λi h st b G=>by
  have e:b=J:=by simpa using G
  subst e
  exact⟨_,st,λv z=>by
   have q:Data.fields _=Data.cell v:=z;cases q⟩
 keep:=λi h O st k=>k J (by simp) _ st
 item:=by
  intro X D R F B i Z s U H E I N st T;subst D R F;obtain⟨j,Q,c,C,S,A⟩:=N J (by simp);have W:=Walks.range (prog:=X.prog) (w:=X.w) (I.ok.hd B) J M 1 n;refine W.item i s _ _ T st λv O y p L g=>?_;obtain⟨t,rfl⟩:=p;have f:Inv X Z U H {s with heap:=O,toks:=y}:=I.turned (λb o G e=>g b o (by simpa using G) e) j Q C S A;refine⟨_,Y,Lf (s:={s with heap:=O,toks:=y}) (n:="range_iterator") L Y Y (by decide) ⟨.int<|M+i,H,f,⟨t,?_⟩,⟨rfl,rfl⟩,L,λb G=>(N b G).1⟩⟩;rw[Int.mul_one]
 done:=by
  intro X D R F B i Z s U H E I N st T;subst D R F;obtain⟨j,Q,c,C,S,A⟩:=N J (by simp);exact wpAny_pyNext_range_end (I.ok.hd B) st (by have:n<=i:=T;omega) λO d=>⟨Y,I.turned (t':=s.toks) (λb o G e=>d b o G e) j Q C S A⟩
 self:=λ_ _ _ _ _ st h=>wpAny_pyIter_rangeiter st h
end L2
namespace L2
open PySem PySem.Spec PyProof.Rows
section
def LR(K:W.Frag)(tl:TE):TI:=λU H R=>tl U H λx Z=>V6 x λa=>(∃J,SqL K Z a J)/\R (Itl K a) Z
def yL(K:W.Frag)(tl:TE):TI:=λU H R=>tl U H λx Z=>V6 x λa=>(∃J,SqT K Z a J)/\R (Itt K a) Z
def JP(T:PE X l tl):PI X tg l (LR X.K tl):=by
 intro Z s U H R I h;refine thn (T Z s U H _ I h) λv J ⟨x,D,G,M,L⟩=>?_;replace L:=V6.old L;obtain⟨a,e,⟨E,O⟩,q⟩:=L;subst e;cases M;obtain⟨N,F,p,A⟩:=G.list O;refine jI p.isList ?_;refine⟨J.heap.objs.size,[J.heap.objs.size],_,_,D,Y,G.kept (t':=J.toks) λb o e=>ZE _ e,Ez a _,⟨_,ZY _ Y,Y,Y⟩,λb B=>?_,q⟩;have e:b=J.heap.objs.size:=by simpa using B
 subst e;exact G.fpOk (ZG _)<|G.hok.fresh<|ZG _
def UH(T:PE X l tl):PI X tg l (yL X.K tl):=by
 intro J s U H R I h;refine thn (T J s U H _ I h) λv Z ⟨x,D,G,N,L⟩=>?_;replace L:=V6.old L;obtain⟨a,e,⟨E,O⟩,q⟩:=L;subst e;cases N;obtain⟨M,F,p,A⟩:=G.tuple O;refine wpAny_pyIter_tuple (show Z.heap.IsTuple a M.toArray from p) ?_;refine⟨Z.heap.objs.size,[Z.heap.objs.size],_,_,D,Y,G.kept (t':=Z.toks) λb o e=>ZE _ e,N7 a _,⟨_,ZY _ Y,Y,Y⟩,λb B=>?_,q⟩;have e:b=Z.heap.objs.size:=by simpa using B
 subst e;exact G.fpOk (ZG _)<|G.hok.fresh<|ZG _
def NH{Z J:Int}(I:Inv X G U H s)(B: -(2 ^ 62)<=Z)(T:Z<2 ^ 62)(O: -(2 ^ 62)<=J)(N:J<2 ^ 62)(q:R (Itr Z (J-Z).toNat) H):wpAny (model X.prog X.w) X.A (pyIter<|.ref s.heap.objs.size) (PIE X G U tg R) E {s with heap:=s.heap.push {cls:=.type "range",data:=.fields #[.int Z t,.int J u,.int 1 v]},toks:=tk}:=by
 refine wpAny_pyIter_range (IsRange.new ..) (small_one B T O N) ?_;have L:Inv X G U H {s with heap:=s.heap.push {cls:=.type "range",data:=.fields #[.int Z t,.int J u,.int 1 v]},toks:=tk}:=I.kept λb o e=>ZE _ e;refine⟨(s.heap.push {cls:=.type "range",data:=.fields #[.int Z t,.int J u,.int 1 v]}).objs.size,[(s.heap.push {cls:=.type "range",data:=.fields #[.int Z t,.int J u,.int 1 v]}).objs.size],_,_,H,Y,
  L.kept (t':=tk) λb o e=>ZE _ e,N8 _ Z (J-Z).toNat,?_,λb M=>?_,q⟩
 .have e1:Z+((0:Nat):Int)*1=Z:=by simp
  have D:(((J-Z).toNat:Nat):Int)-((0:Nat):Int)=Builtin.Range.rangeSize Z J 1:=by rw[rangeSize_one];split <;> omega
  show IsRangeIter _ _ (Z+((0:Nat):Int)*1) ((((J-Z).toNat:Nat):Int)-((0:Nat):Int)) 1;rw[e1,D];exact ZY _ Y
 .have e:b=(s.heap.push {cls:=.type "range",data:=.fields #[.int Z t,.int J u,.int 1 v]}).objs.size:=by simpa using M
  subst e;exact L.fpOk (ZG _)<|L.hok.fresh<|ZG _
def Cy(ta:TA):TI:=λU H R=>ta U H λZ J=>∃j:Int,Z=[.int j]/\ -(2 ^ 62)<=j/\j<2 ^ 62/\R (Itr 0 j.toNat) J
def Cw(ta:TA):TI:=λU H R=>ta U H λZ J=>∃i j:Int,Z=[.int i,.int j]/\(-(2 ^ 62)<=i/\i<2 ^ 62/\ -(2 ^ 62)<=j/\j<2 ^ 62)/\R (Itr i (j-i).toNat) J
def UQ(T:Gl X "range")(O:X.mg "range"=none)(B:PA X [a] ta)(N:starEach [a] X.env=[(false,eval a X.env)]:=by rfl):PI X tg (.Call (.Name "range" p) [a] [] pos) (Cy ta):=by
 intro Z s U H R I h;refine Call_<|Ue I T O boot_range<|yz (thn (B pos Z s U H _ I h) λF A ⟨E,S,D,L,J⟩=>?_) N rfl;obtain⟨j,e,J,M,q⟩:=J;subst e
 cases L with
 |cons r G=>
  cases G;obtain⟨t,rfl⟩:=r;exact call_range_1<|NH D (by omega) (by omega) J M<|by simpa using q
def FI(F:Gl X "range")(E:X.mg "range"=none)(A:PA X [a,b] ta)(D:starEach [a,b] X.env=[(false,eval a X.env),(false,eval b X.env)]:=by rfl)(J:starEach [b] X.env=[(false,eval b X.env)]:=by rfl):
  PI X tg (.Call (.Name "range" p) [a,b] [] pos) (Cw ta):=by
 intro Z s U H R I h;refine Call_ (Ue I F E boot_range<|yz (thn (A pos Z s U H _ I h) λP y ⟨C,z,S,M,L⟩=>?_) (by rw[D,J]) (by rw[J];rfl));obtain⟨i,j,e,⟨L,B,T,O⟩,q⟩:=L;subst e
 cases M with
 |cons r G=>
  cases G with
  |cons N G=>
   cases G;obtain⟨t,rfl⟩:=r;obtain⟨Q,rfl⟩:=N;exact call_range_2<|NH S L B T O q
def XH(wi:TI)(g:TG)(tb:TS):TS:=λD U H=>wi U H λJ O=>∃W:Nat->Nat->St->Hp->Prop,(∃m,W 0 m U O)/\∀i m U H,W i m U H->
 (J.stop i H/\D.nx U H)\/(J.go i H/\∃N:kJ,(∀L Z,N L Z->∃G,G<m/\W (i+1) G L Z)/\∀x Z,J.yld i H x Z->g x U Z fun σ2 M=>tb {D with nx:=N,ct:=N,bk:=D.nx} σ2 M)
def VU(fp:kC)(h:Heap):ka:=fp.filterMap λb=>(h.get? b).map λo=>(b,o)
def JS(Z:b∈fp)(e:h.get? b=some o):(b,o)∈VU fp h:=List.mem_filterMap.mpr ⟨b,Z,by rw[e];rfl⟩
def WT(Z:p∈VU fp h):p.1∈fp/\h.get? p.1=some p.2:=by
 obtain⟨b,J,e⟩:=List.mem_filterMap.mp Z
 cases q:h.get? b with
 |none=>rw[q]at e;cases e
 |some o=>
  rw[q]at e;have G:(b,o)=p:=ZT e;subst G;exact⟨J,q⟩
def Inv.pinned(I:Inv X Z U H s)(N:∀b∈fp,J6 X Z H b)(M:∀b∈fp,∃o,s.heap.get? b=some o/\∀v,o.data≠.cell v):Inv X (Z++ VU fp s.heap) U H s:=
 I.pins_of λp L=>(ZX.mp L).elim (λz=>I.pin p<|ZU _ z) λz=>by
  obtain⟨J,e⟩:=WT z;obtain⟨T,R,O,_⟩:=N p.1 J;obtain⟨o,G,d⟩:=M p.1 J;rw[e]at G;cases G;exact⟨e,T,R,O,d⟩
def Inv.unpinned(I:Inv X (Z++ pl) U H s):Inv X Z U H s:=I.pins_of λp J=>I.pin p<|ZU _<|yn _ J
def Jb(S:PassesOwn (model X.prog X.w) X.A X.env X.xe)(a:X.calm=true)(hi:PI X tg iter wi)(hg:PG X tg g)(L:PSs X body tb)(hs:∀x,foldedSetIterable iter X.env x=pure x:=by intro _;rfl):PS X (.For tg iter body [] pos) (XH wi g tb):=by
 intro Z s U H D I h;refine wpAny_For (thn (hi Z s U H _ I h) λv s1 h1=>thn h1 λJ2 s2 h2=>?_) hs;obtain⟨it,P,p,J,H2,e,I2,T,y,f2,W,⟨m0,w0⟩,turn⟩:=h2;subst e;have G:∀{R:Hp},(∀b∈P,R b=none)->∀b∈P,J6 X Z R b:=λhn b L=>⟨hn b L,(f2 b L).2⟩;refine codeAny_forLoop_any (λn l=>∃i Q R,Inv X Z Q R l/\p i l.heap/\(∀b∈P,R b=none)/\W i n Q R) ?_ m0 ⟨0,U,H2,I2,y,λb L=>(f2 b L).1,w0⟩;rintro n w ⟨i,σ3,j,I3,F,C,w3⟩;rcases turn i n σ3 j w3 with⟨stop,qn⟩|⟨go,N,hN,step⟩
 .refine vM S (thn (T.done X rfl rfl rfl a i Z w σ3 j X.xe I3 (G C) F stop) λr s4 ⟨q,I4⟩=>?_)
  subst q;exact jY ⟨σ3,j,I4,qn⟩
 .refine vM S (thn (T.item X rfl rfl rfl a i Z w σ3 j X.xe I3 (G C) F go) λr s4 ⟨u,q,h4⟩=>?_)
  subst q;refine vM S<|thn h4 λ_ c ⟨x,H5,I5,r5,y5,E,t⟩=>?_;have k:=I5.pinned (G t)<|T.obj _ _ E;refine vM S<|thn (hg _ c σ3 H5 x u _ k r5<|step x H5 y5) λ_ s6 ⟨σ6,H6,I6,q6⟩=>?_;refine vM S<|thn (L _ s6 σ6 H6 _ I6 q6) λf z B=>?_
  have again:∀{σ7:St}{O:Hp},Inv X (Z++ VU P c.heap) σ7 O z->N σ7 O->∃m,m<n/\∃i Q R,Inv X Z Q R z/\p i z.heap/\(∀b∈P,R b=none)/\W i m Q R:=λ{σ7 O} M A=>by
   obtain⟨m',hm,w7⟩:=hN σ7 O A;refine⟨m',hm,i+1,σ7,O,M.unpinned,T.keep _ _ _ E λb L o e=>(M.pin (b,o)<|ZU _<|ZU _<|JS L e).1,λb L=>?_,w7⟩;obtain⟨o,e,d⟩:=T.obj _ _ E b L;exact(M.pin (b,o)<|ZU _<|ZU _<|JS L e).2.1
  cases f with
  |next=>obtain⟨σ7,O,M,A⟩:=B;exact again M A
  |cont=>obtain⟨σ7,O,M,A⟩:=B;exact again M A
  |brk=>obtain⟨σ7,O,M,B⟩:=B;exact⟨σ7,O,M.unpinned,B⟩
  |ret v=>obtain⟨x7,σ7,O,M,r7,B⟩:=B;exact⟨x7,σ7,O,M.unpinned,r7,B⟩
end
def Nj{K:PySem.W.Frag}{g:TG}{M:TS}{D:Ends}(Z:kI)(I:Z 0 U H)(E:∀i U H,i<=xs.length->Z i U H->SqL K H a xs)(B:∀i x U H,xs[i]?=some x->Z i U H->g x U H fun σ2 L=>M {D with nx:=Z<|i+1,ct:=Z<|i+1,bk:=D.nx} σ2 L)(A:∀U H,Z xs.length U H->D.nx U H):
  ∃W:Nat->Nat->St->Hp->Prop,(∃m,W 0 m U H)/\∀i m U H,W i m U H->
   ((Itl K a).stop i H/\D.nx U H)\/((Itl K a).go i H/\∃N:kJ,(∀G J,N G J->∃O,O<m/\W (i+1) O G J)/\∀x J,(Itl K a).yld i H x J->g x U J fun σ2 L=>M {D with nx:=N,ct:=N,bk:=D.nx} σ2 L):=by
 refine⟨λi m U H=>m=xs.length-i/\i<=xs.length/\Z i U H,⟨xs.length,by simp,Zc _,I⟩,?_⟩;rintro i m U H ⟨rfl,F,p⟩;have q:=E i U H F p
 by_cases hlt:i<xs.length
 .refine .inr ⟨⟨xs,xs[i],q,by simp[hlt]⟩,Z<|i+1,λG J R=>⟨xs.length-(i+1),by omega,rfl,hlt,R⟩,λx J y=>?_⟩
  obtain⟨e,y⟩:=y;subst e;exact B i x U _ (y xs q) p
 .have e:i=xs.length:=by omega
  subst e;exact .inl ⟨⟨xs,q,ZG _⟩,A U H p⟩
def Pw{K:PySem.W.Frag}{g:TG}{O:TS}{D:Ends}(J:kI)(S:J 0 U H)(F:∀i U H,i<=Z.length->J i U H->SqT K H a Z)(E:∀i x U H,Z[i]?=some x->J i U H->g x U H fun σ2 M=>O {D with nx:=J<|i+1,ct:=J<|i+1,bk:=D.nx} σ2 M)(I:∀U H,J Z.length U H->D.nx U H):
  ∃W:Nat->Nat->St->Hp->Prop,(∃m,W 0 m U H)/\∀i m U H,W i m U H->
   ((Itt K a).stop i H/\D.nx U H)\/((Itt K a).go i H/\∃N:kJ,(∀L G,N L G->∃R,R<m/\W (i+1) R L G)/\∀x G,(Itt K a).yld i H x G->g x U G fun σ2 M=>O {D with nx:=N,ct:=N,bk:=D.nx} σ2 M):=by
 refine⟨λi m U H=>m=Z.length-i/\i<=Z.length/\J i U H,⟨Z.length,by simp,Zc _,S⟩,?_⟩;rintro i m U H ⟨rfl,A,p⟩;have q:=F i U H A p
 by_cases hlt:i<Z.length
 .refine .inr ⟨⟨Z,Z[i],q,by simp[hlt]⟩,J<|i+1,λL G T=>⟨Z.length-(i+1),by omega,rfl,hlt,T⟩,λx G y=>?_⟩
  obtain⟨e,y⟩:=y;subst e;exact E i x U _ (y Z q) p
 .have e:i=Z.length:=by omega
  subst e;exact .inl ⟨⟨Z,q,ZG _⟩,I U H p⟩
def FY{G:Int}{g:TG}{O:TS}{D:Ends}(Z:kI)(A:Z 0 U H)(E:∀i U H,i<n->Z i U H->g (.int<|G+i) U H fun σ2 M=>O {D with nx:=Z<|i+1,ct:=Z<|i+1,bk:=D.nx} σ2 M)(F:∀U H,Z n U H->D.nx U H):
  ∃W:Nat->Nat->St->Hp->Prop,(∃m,W 0 m U H)/\∀i m U H,W i m U H->
   ((Itr G n).stop i H/\D.nx U H)\/((Itr G n).go i H/\∃N:kJ,(∀L J,N L J->∃R,R<m/\W (i+1) R L J)/\∀x J,(Itr G n).yld i H x J->g x U J fun σ2 M=>O {D with nx:=N,ct:=N,bk:=D.nx} σ2 M):=by
 refine⟨λi m U H=>m=n-i/\i<=n/\Z i U H,⟨n,by simp,Zc _,A⟩,?_⟩;rintro i m U H ⟨rfl,I,p⟩
 by_cases hlt:i<n
 .refine .inr ⟨hlt,Z<|i+1,λL J T=>⟨n-(i+1),by omega,rfl,hlt,T⟩,λx J y=>?_⟩
  obtain⟨e,y⟩:=y;subst e y;exact E i U _ hlt p
 .have e:i=n:=by omega
  subst e;exact .inl ⟨ZG _,F U H p⟩
abbrev R2:=V->V->Hp->VK->Prop
def OpR(X:Cx)(f:Value->Value->Sem Value)(r:R2):Prop:=
 ∀(Z:ka)(s:Shared)(U:St)(H:Hp)(x y:V)(v u:Value)(Q:VK),Inv X Z U H s->RelV x v->RelV y u->r x y H Q->
  wpAny (model X.prog X.w) X.A (f v u) (EP X Z U Q) X.xe s
def UnR(X:Cx)(f:Value->Sem Value)(r:V->Hp->VK->Prop):Prop:=
 ∀(Z:ka)(s:Shared)(U:St)(H:Hp)(x:V)(v:Value)(Q:VK),Inv X Z U H s->RelV x v->r x H Q->
  wpAny (model X.prog X.w) X.A (f v) (EP X Z U Q) X.xe s
def Jt(X:Cx)(f:Value)(r:List V->Hp->VK->Prop):Prop:=
 ∀(Z:ka)(s:Shared)(U:St)(H:Hp)(J:kH)(G:kq)(Q:VK),Inv X Z U H s->Vals J G->r J H Q->
  wpAny (model X.prog X.w) X.A (call f G) (EP X Z U Q) X.xe s
def tOp(r:R2)(ta tb:TE):TE:=λU H Q=>ta U H λx J=>tb U J λy Z=>r x y Z Q
def tUn(r:V->Hp->VK->Prop)(ta:TE):TE:=λU H Q=>ta U H λx Z=>r x Z Q
def rI(C:Int->Int->Prop)(g:Int->Int->V):R2:=λx y H Q=>UU x λi=>UU y λj=>C i j/\Q (g i j) H
def rI.old(h:rI C g x y H Q):∃i j,x=.int i/\y=.int j/\C i j/\Q (g i j) H:=by
 replace h:=UU.old h;obtain⟨i,e,h⟩:=h;replace h:=UU.old h;obtain⟨j,Z,h⟩:=h;exact⟨i,j,e,Z,h⟩
def rI0(g:Int->Int->V):R2:=λx y H Q=>UU x λi=>UU y λj=>Q (g i j) H
def rI0.old(h:rI0 g x y H Q):∃i j,x=.int i/\y=.int j/\Q (g i j) H:=by
 replace h:=UU.old h;obtain⟨i,e,h⟩:=h;replace h:=UU.old h;obtain⟨j,Z,h⟩:=h;exact⟨i,j,e,Z,h⟩
def rU(g:Int->V):V->Hp->VK->Prop:=λx H Q=>∃i,x=.int i/\Q (g i) H
section
def Ad(S:PE X a ta)(A:PE X b tb){R:V->V->Hp->Prop}(I:Inv X Z U H s)(h:ta U H λx N=>tb U N λy J=>R x y J){f:Value->Value->Sem Value}(F:∀v u M x y J,Inv X Z U J M->RelV x v->RelV y u->R x y J->wpAny (model X.prog X.w) X.A (f v u) Q X.xe M):
  wpAny (model X.prog X.w) X.A (eval a X.env) (λv L=>wpAny (model X.prog X.w) X.A (eval b X.env) (λu G=>wpAny (model X.prog X.w) X.A (f v u) Q X.xe G) X.xe L) X.xe s:=by
 refine thn (S Z s U H _ I h) λv O ⟨x,N,P,B,E⟩=>?_;refine thn (A Z O U N _ P E) λu M ⟨y,J,C,T,D⟩=>?_;exact F v u M x y J C B T D
def Y9(M:OpR X (binaryOp op) r)(O:PE X a ta)(N:PE X b tb):PE X (.BinOp a op b pos) (tOp r ta tb):=by
 intro Z s U H Q I h;exact wpAny_BinOp<|Ad O N I h λv u J x y T R L G q=>M Z J U T x y v u Q R L G q
def Wr(M:UnR X (unaryOp op) r)(N:PE X a ta):PE X (.UnaryOp op a pos) (tUn r ta):=by
 intro Z s U H Q I h;exact UnaryOp_<|thn (N Z s U H _ I h) λv J ⟨x,R,O,G,L⟩=>M Z J U R x v Q O G L
def opI{g:Int->Int->Int}(rule:∀(i j:Int)(t u:Tok)(s:Shared)(Q:kh)(E:kh),C i j->Q (.int (g i j) s.toks) {s with toks:=s.toks+1}->wpAny (model X.prog X.w) X.A (f (.int i t)<|.int j u) Q E s):
  OpR X f (rI C λi j=>.int<|g i j):=by
 intro Z s U H x y v u Q I L G h;replace h:=rI.old h;obtain⟨i,j,rfl,rfl,M,q⟩:=h;obtain⟨t,rfl⟩:=L;obtain⟨J,rfl⟩:=G;exact rule i j t J s _ _ M ⟨.int<|g i j,H,I.tok _,⟨_,rfl⟩,q⟩
def Sm{g:Int->Int->Int}(rule:∀(i j:Int)(t u:Tok)(s:Shared)(Q:kh)(E:kh),Q (.int (g i j) s.toks) {s with toks:=s.toks+1}->wpAny (model X.prog X.w) X.A (f (.int i t)<|.int j u) Q E s):
  OpR X f (rI0 λi j=>.int<|g i j):=by
 intro Z s U H x y v u Q I L G h;replace h:=rI0.old h;obtain⟨i,j,rfl,rfl,q⟩:=h;obtain⟨t,rfl⟩:=L;obtain⟨J,rfl⟩:=G;exact rule i j t J s _ _ ⟨.int<|g i j,H,I.tok _,⟨_,rfl⟩,q⟩
def PD{g:Int->Int->Bool}(rule:∀(i j:Int)(t u:Tok)(s:Shared)(Q:kh)(E:kh),Q (.bool<|g i j) s->wpAny (model X.prog X.w) X.A (f (.int i t)<|.int j u) Q E s):
  OpR X f (rI0 λi j=>.bl<|g i j):=by
 intro Z s U H x y v u Q I L G h;replace h:=rI0.old h;obtain⟨i,j,rfl,rfl,q⟩:=h;obtain⟨t,rfl⟩:=L;obtain⟨J,rfl⟩:=G;exact rule i j t J s _ _ ⟨.bl<|g i j,H,I,rfl,q⟩
def yf(i j:Int):Prop:=0<j/\j<1073741824
def zO(i j:Int):Prop:=0<=j/\j<=1000000/\i.natAbs<2 ^ 64
def QI(i j:Int):Prop:=(-(2 ^ 64)<i/\i<2 ^ 64)\/(-(2 ^ 64)<j/\j<2 ^ 64)
def QI.ok(h:QI i j):IntMulOk i j:=by
 rcases h with⟨J,Z⟩|⟨J,Z⟩
 .exact .of_left (intBits_le_64 J Z)
 .exact .of_right (intBits_le_64 J Z)
def Vn:OpR X (binaryOp .Add) (rI0 λi j=>.int<|i+j):=Sm λ_ _ _ _ _ _ _ q=>add_int q
def Kc:OpR X (binaryOp .Sub) (rI0 λi j=>.int<|i-j):=Sm λ_ _ _ _ _ _ _ q=>sub_int q
def XX:OpR X (binaryOp .Mult) (rI QI λi j=>.int<|i*j):=opI λ_ _ _ _ _ _ _ Z q=>mul_int q Z.ok
def W9:OpR X (binaryOp .FloorDiv) (rI yf λi j=>.int<|i / j):=opI λi j _ _ _ _ _ Z q=>by
 have G:(0:Int)<j:=Z.1;have J:j<1073741824:=Z.2;exact floordiv_int (by omega) (by rw[Int.fdiv_eq_ediv_of_nonneg i (by omega)];exact q)<|.inl<|PyProof.noPylong_small<|by omega
def Jr:OpR X (binaryOp .Mod) (rI (λ_ j=>0<j) λi j=>.int<|i % j):=opI λi j _ _ _ _ _ Z q=>by
 have J:(0:Int)<j:=Z;exact mod_int' (by omega) (by rw[Int.fmod_eq_emod_of_nonneg i (by omega)];exact q)
def Ke:OpR X (binaryOp .Pow) (rI zO λi j=>.int<|i ^ j.toNat):=opI λ_ _ _ _ _ _ _ Z q=>pow_int_small Z.1 Z.2.1 Z.2.2 q
def Pn:OpR X (inplaceOp .Add) (rI0 λi j=>.int<|i+j):=Sm λ_ _ _ _ _ _ _ q=>iadd_int q
def Pm:OpR X (inplaceOp .Mult) (rI QI λi j=>.int<|i*j):=opI λ_ _ _ _ _ _ _ Z q=>imul_int q Z.ok
def unI{g:Int->Int}(rule:∀(i:Int)(t:Tok)(s:Shared)(Q:kh)(E:kh),Q (.int (g i) s.toks) {s with toks:=s.toks+1}->wpAny (model X.prog X.w) X.A (f<|.int i t) Q E s):
  UnR X f (rU λi=>.int<|g i):=by
 intro Z s U H x v Q I J h;obtain⟨i,rfl,q⟩:=h;obtain⟨t,rfl⟩:=J;exact rule i t s _ _ ⟨.int<|g i,H,I.tok _,⟨_,rfl⟩,q⟩
def Ur:UnR X (unaryOp .USub) (rU λi=>.int<|-i):=unI λ_ _ _ _ _ q=>neg_int q
end
def Ax:V->V->Bool
 |.non,.non=>true|.non,.int _=>true|.int _,.non=>true|.non,.bl _=>true|.bl _,.non=>true|.non,.str _=>true|.str _,.non=>true
 |.int _,.int _=>true|.bl _,.bl _=>true|.str _,.str _=>true|.byt _,.byt _=>true
 |.int _,.str _=>true|.str _,.int _=>true|.bl _,.str _=>true|.str _,.bl _=>true
 |_,_=>false
def rEq:R2:=λx y H Q=>Ax x y=true/\Q (.bl<|decide<|x=y) H
def rNe:R2:=λx y H Q=>Ax x y=true/\Q (.bl<|!decide (x=y)) H
def Eg:decide (V.int i=V.int j)=(i==j):=by
 rw[vJ];simp
def Ly:decide (V.bl i=V.bl j)=(i==j):=by
 rw[vJ];simp
def Ef:decide (V.str i=V.str j)=(i==j):=by
 rw[vJ];simp
def Eh:decide (V.byt i=V.byt j)=(i.toList==j.toList):=by
 rw[vJ];cases i;cases j;simp
section
variable{a b c:Expr}{ta tb tc:TE}
def VJ(I:Inv X Z U H s)(q:Q (.bl k) H)(e:k=k'):EP X Z U Q (.bool k') s:=by
 subst e;exact⟨.bl k,H,I,Y,q⟩
def VZ:OpR X (compareOp .Eq) rEq:=by
 intro M s U H x y v u Q I L Z h;obtain⟨G,q⟩:=h
 cases x with
 |non=>
  cases L
  cases y with
  |non=>cases Z;exact PySem.EqNone.eq_none_none<|VJ I q<|by simp
  |bl j=>cases Z;exact PySem.EqNone.eq_none_bool<|VJ I q<|by simp
  |int j=>obtain⟨J,rfl⟩:=Z;exact PySem.EqNone.eq_none_int<|VJ I q<|by simp
  |str j=>obtain⟨J,rfl⟩:=Z;exact PySem.EqNone.eq_none_str<|VJ I q<|by simp
  |_=>exact Zr (show false=true from G) Zi
 |bl i=>
  cases L
  cases y with
  |non=>cases Z;exact PySem.EqNone.eq_bool_none<|VJ I q<|by simp
  |bl j=>cases Z;exact eq_bool<|VJ I q Ly
  |str j=>obtain⟨J,rfl⟩:=Z;exact PySem.EqMixed.eq_bool_str<|VJ I q<|by simp
  |_=>exact Zr (show false=true from G) Zi
 |int i=>
  obtain⟨t,rfl⟩:=L
  cases y with
  |non=>cases Z;exact PySem.EqNone.eq_int_none<|VJ I q<|by simp
  |int j=>obtain⟨J,rfl⟩:=Z;exact eq_int<|VJ I q Eg
  |str j=>obtain⟨J,rfl⟩:=Z;exact PySem.EqMixed.eq_int_str<|VJ I q<|by simp
  |_=>exact Zr (show false=true from G) Zi
 |str i=>
  obtain⟨t,rfl⟩:=L
  cases y with
  |non=>cases Z;exact PySem.EqNone.eq_str_none<|VJ I q<|by simp
  |bl j=>cases Z;exact PySem.EqMixed.eq_str_bool<|VJ I q<|by simp
  |int j=>obtain⟨J,rfl⟩:=Z;exact PySem.EqMixed.eq_str_int<|VJ I q<|by simp
  |str j=>obtain⟨J,rfl⟩:=Z;exact eq_str<|VJ I q Ef
  |_=>exact Zr (show false=true from G) Zi
 |byt i=>
  obtain⟨t,rfl⟩:=L
  cases y with
  |byt j=>obtain⟨J,rfl⟩:=Z;exact W.eq_bytes<|VJ I q Eh
  |_=>exact Zr (show false=true from G) Zi
 |_=>cases y <;> exact Zr (show false=true from G) Zi
def UR:OpR X (compareOp .NotEq) rNe:=by
 intro M s U H x y v u Q I L Z h;obtain⟨G,q⟩:=h
 cases x with
 |non=>
  cases L
  cases y with
  |non=>cases Z;exact PySem.EqNone.ne_none_none<|VJ I q<|by simp
  |bl j=>cases Z;exact PySem.EqNone.ne_none_bool<|VJ I q<|by simp
  |int j=>obtain⟨J,rfl⟩:=Z;exact PySem.EqNone.ne_none_int<|VJ I q<|by simp
  |str j=>obtain⟨J,rfl⟩:=Z;exact PySem.EqNone.ne_none_str<|VJ I q<|by simp
  |_=>exact Zr (show false=true from G) Zi
 |bl i=>
  cases L
  cases y with
  |non=>cases Z;exact PySem.EqNone.ne_bool_none<|VJ I q<|by simp
  |bl j=>cases Z;exact ne_bool<|VJ I q<|congrArg not Ly
  |str j=>obtain⟨J,rfl⟩:=Z;exact PySem.EqMixed.ne_bool_str<|VJ I q<|by simp
  |_=>exact Zr (show false=true from G) Zi
 |int i=>
  obtain⟨t,rfl⟩:=L
  cases y with
  |non=>cases Z;exact PySem.EqNone.ne_int_none<|VJ I q<|by simp
  |int j=>obtain⟨J,rfl⟩:=Z;exact ne_int<|VJ I q<|congrArg not Eg
  |str j=>obtain⟨J,rfl⟩:=Z;exact PySem.EqMixed.ne_int_str<|VJ I q<|by simp
  |_=>exact Zr (show false=true from G) Zi
 |str i=>
  obtain⟨t,rfl⟩:=L
  cases y with
  |non=>cases Z;exact PySem.EqNone.ne_str_none<|VJ I q<|by simp
  |bl j=>cases Z;exact PySem.EqMixed.ne_str_bool<|VJ I q<|by simp
  |int j=>obtain⟨J,rfl⟩:=Z;exact PySem.EqMixed.ne_str_int<|VJ I q<|by simp
  |str j=>obtain⟨J,rfl⟩:=Z;exact ne_str<|VJ I q<|congrArg not Ef
  |_=>exact Zr (show false=true from G) Zi
 |byt i=>
  obtain⟨t,rfl⟩:=L
  cases y with
  |byt j=>obtain⟨J,rfl⟩:=Z;exact W.ne_bytes<|VJ I q<|congrArg not Eh
  |_=>exact Zr (show false=true from G) Zi
 |_=>cases y <;> exact Zr (show false=true from G) Zi
def QW:OpR X (compareOp .Lt) (rI0 λi j=>.bl<|decide<|i<j):=PD λ_ _ _ _ _ _ _ q=>lt_int q
def Xp:OpR X (compareOp .LtE) (rI0 λi j=>.bl<|decide<|i<=j):=PD λ_ _ _ _ _ _ _ q=>le_int q
def G8:OpR X (compareOp .Gt) (rI0 λi j=>.bl<|decide<|j<i):=PD λ_ _ _ _ _ _ _ q=>gt_int q
def QX:OpR X (compareOp .GtE) (rI0 λi j=>.bl<|decide<|j<=i):=PD λ_ _ _ _ _ _ _ q=>ge_int q
def FJ:OpR X (compareOp .In) (λx y H Q=>∃i j,x=.str i/\y=.str j/\Q (.bl<|!(Builtin.Str.occurrences j i 0 j.length 1).isEmpty) H):=by
 intro Z s U H x y v u Q I G J h;obtain⟨i,j,rfl,rfl,q⟩:=h;obtain⟨t,rfl⟩:=G;obtain⟨L,rfl⟩:=J;exact in_str<|VJ I q rfl
def G7:OpR X (compareOp .Is) (λx y H Q=>y=.non/\Q (.bl<|decide<|x=.non) H):=by
 intro J s U H x y v u Q I Z G h;obtain⟨rfl,q⟩:=h;cases G;refine is_none_gen<|VJ I q ?_;cases x <;> first
  |(cases Z;rfl)
  |(obtain⟨t,rfl⟩:=Z;rfl)
def OpR.or(h:OpR X f r)(L:OpR X f r'):OpR X f (λx y H Q=>r x y H Q\/r' x y H Q):=by
 intro Z s U H x y v u Q I G J q;rcases q with q|q
 .exact h Z s U H x y v u Q I G J q
 .exact L Z s U H x y v u Q I G J q
def Yz(b:Expr)(h:op≠.In:=by decide)(Z:op≠.NotIn:=by decide):behindInMarks op b=false:=by
 have G:(op==CmpOp.In)=false:=by cases op <;> first|rfl|exact Zr Y h
 have J:(op==CmpOp.NotIn)=false:=by cases op <;> first|rfl|exact Zr Y Z
 cases b <;> simp[behindInMarks,G,J]
def Jc(M:OpR X (compareOp op) r)(R:PE X a ta)(O:PE X b tb)(N:behindInMarks op b=false):PE X (.Compare a [op] [b] pos) (tOp r ta tb):=by
 intro Z s U H Q I h;exact wpAny_Compare1 (Ad R O I h λv u J x y B T L G q=>M Z J U B x y v u Q T L G q) N
def QN(t:TE):TT:=λU H Q=>t U H λx Z=>∃k,x=.bl k/\Q k Z
def Yr(B:OpR X (compareOp op) r)(F:PE X a ta)(E:PE X b tb)(D:behindInMarks op b=false):PT X (.Compare a [op] [b] pos) (QN<|tOp r ta tb):=by
 intro Z s U H Q I h
 refine wpAny_isTrue_Compare1 (thn (F Z s U H _ I h) λv G ⟨x,q,C,N,T⟩=>thn (E Z G U q _ C T) λu J ⟨y,j,S,M,R⟩=>
  thn (B Z J U j x y v u _ S N M R) λc t ⟨z,P,A,L,k,e,O⟩=>?_) D
 subst e;cases L;exact yq ⟨P,A,O⟩
def IQ(r r':R2)(ta tb tc:TE):TE:=λU H Q=>ta U H λx M=>tb U M λy L=>r x y L λz Z=>∃k,z=.bl k/\
 (if k=true then tc U Z λJ G=>r' y J G Q else Q (.bl false) Z)
def KY(q:OpR X (compareOp op) r)(J:OpR X (compareOp op') r')(p:PE X a ta)(g:PE X b tb)(m:PE X c tc)(t:lastMarks [op,op'] [b,c]=false:=by with_unfolding_all rfl):PE X (.Compare a [op,op'] [b,c] pos) (IQ r r' ta tb tc):=by
 intro Z s U H Q I h
 refine Compare_chain (thn (p Z s U H _ I h) λv E ⟨x,n,l,S,j⟩=>chain_link (thn (g Z E U n _ l j) λu D ⟨y,i,w,G,P⟩=>
  thn (q Z D U i x y v u _ w S G P) λd B ⟨z,N,M,A,k,e,L⟩=>?_)) t
 subst e;cases A;refine yq ?_
 cases k with
 |false=>exact ite_ff ⟨.bl false,N,M,Y,L⟩
 |true=>exact ite_tt<|chain_last<|thn (m Z B U N _ M L) λR T ⟨O,o,f,F,C⟩=>J Z T U o y O u R Q f G F C
def Gy(g:OpR X (compareOp op) r)(J:OpR X (compareOp op') r')(l:PE X a ta)(w:PE X b tb)(f:PE X c tc)(p:lastMarks [op,op'] [b,c]=false:=by with_unfolding_all rfl):PT X (.Compare a [op,op'] [b,c] pos) (QN<|IQ r r' ta tb tc):=by
 intro Z s U H Q I h
 refine isTrue_chain (thn (l Z s U H _ I h) λv E ⟨x,H1,I1,C,t⟩=>test_link (thn (w Z E U H1 _ I1 t) λu D ⟨y,H2,I2,G,q⟩=>
  thn (g Z D U H2 x y v u _ I2 C G q) λd B ⟨z,N,M,S,k,e,L⟩=>?_)) p
 subst e;cases S;refine yq ?_
 cases k with
 |false=>
  obtain⟨k',i,m⟩:=L;cases i;exact ite_ff ⟨N,M,m⟩
 |true=>
  refine ite_tt<|test_last<|thn (f Z B U N _ M L) λR T ⟨O,H4,I4,A,j⟩=>thn (J Z T U H4 y O u R _ I4 G A j) λd' s5 ⟨z2,H5,n,F,k2,o,P⟩=>?_;subst o;cases F;exact yq ⟨H5,n,P⟩
def WY:(sizeLine:Nat)<2 ^ 63:=by rw[sizeLine_eq];decide
def XY:OpR X (binaryOp .Add) (λx y H Q=>∃i j,x=.str i/\y=.str j/\i.length+j.length<=sizeLine/\Q (.str<|i++ j) H):=by
 intro Z s U H x y v u Q I L G h;obtain⟨i,j,rfl,rfl,M,q⟩:=h;obtain⟨t,rfl⟩:=L;obtain⟨J,rfl⟩:=G;exact add_str (λJ N=>⟨.str<|i++ j,H,I.tok _,⟨_,rfl⟩,q⟩) M
def vals1(r:Vals [x] Z):∃u,Z=[u]/\RelV x u:=by
 cases r with
 |cons G J=>cases J;exact⟨_,Y,G⟩
def vals2(r:Vals [x,y] J):∃u Z,J=[u,Z]/\RelV x u/\RelV y Z:=by
 cases r with
 |cons N M=>
  cases M with
  |cons L G=>cases G;exact⟨_,_,Y,N,L⟩
def Fh(G:X.calm=true):Jt X (.builtin "max") (λZ H Q=>∃i j,Z=[.int i,.int j]/\Q (.int<|if j > i then j else i) H):=by
 intro J s U H Z M Q I r h;obtain⟨i,j,rfl,q⟩:=h;obtain⟨u,L,rfl,⟨t,rfl⟩,⟨O,rfl⟩⟩:=vals2 r;refine max_two_ints (I.ok.hd G) λR N k=>⟨_,H,I.kept k,?_,q⟩
 by_cases hj:j > i
 .rw [Zp hj,Zp hj];exact⟨_,Y⟩
 .rw [Zq hj,Zq hj];exact⟨_,Y⟩
def Fj:Jt X (.type "int") (λZ H Q=>(∃i,Z=[.int i]/\Q (.int i) H) \/ ∃k,Z=[.bl k]/\Q (.int<|if k then 1 else 0) H):=by
 intro J s U H Z G Q I r h;rcases h with⟨i,rfl,q⟩|⟨k,rfl,q⟩
 .obtain ⟨u,rfl,t,rfl⟩:=vals1 r
  exact call_int_int ⟨.int i,H,I,⟨_,Y⟩,q⟩
 .obtain ⟨u,rfl,r1⟩:=vals1 r
  cases r1;exact call_int_bool ⟨.int<|if k then 1 else 0,H,I.tok _,⟨_,rfl⟩,q⟩
end
structure Dx(h:Heap)(x dx C:Addr)(mA:Str->Option Value):Prop where
 obj:h.get? x=some (W.instObj C dx)
 ns:h.Ns1 dx mA
 ne:dx≠x
set_option tactic.hygienic true in
def FR{h:Heap}(n:h.Ns1 T mA):∃J,h.get? T=some J/\∀name,W.lookIn name J=some (mA name):=by
 obtain⟨o,G,D,M,R,O,_,N⟩:=n;refine⟨o,M,λname=>?_⟩;have e:=N name;unfold nsFind findBy at e;rw[<-Array.find?_toList]at e;unfold W.lookIn;rw[R];dsimp only
 split
 .rename_i y q
  rw[q]at e;exact congrArg some e
 .rename_i q
  rw[q]at e
  have a:G.toList.any (·.refKey)=false:=by
   rw[j9];intro y L;obtain⟨z,t,Z⟩:=O y<|Array.mem_toList_iff.mp L;simp[DictEntry.refKey,Z]
  have B:¬G.toList.any (·.refKey)=true:=by rw[a];exact Zi
  rw[Zq B];exact congrArg some e
def Dx.look(I:Dx h x L C mA):∃Z,W.InstAt h x (W.instObj C L) C (some Z)/\∀name,W.lookIn name Z=some (mA name):=
 let⟨Z,J,G⟩:=FR I.ns
 ⟨Z,⟨I.obj,rfl,rfl,J⟩,G⟩
section
variable{K:W.Frag}
def Ps(X:K.In s.heap)(I:Dx s.heap x T C mA)(N:W.plainGet K C name=true)(M:W.hasDictIn K C=true)(O:W.findIn K (.ref C) name=some none)(G:mA name=some v)(Z:W.handedIn v=true)(h:Q v {s with toks:=s.toks+1}):
  wpAny (model prog w) A (getAttr (.ref x) name expr) Q E s:=by
 obtain⟨R,J,L⟩:=I.look;exact W.get_value X J (W.plainGet_of N).1 (W.findObj_own M O Y (by rw[L,G])) Z h
def Lh(X:K.In s.heap)(I:Dx s.heap x R C mA)(Z:W.plainGet K C name=true)(O:W.findIn K (.ref C) name=some (some<|.ref f))(M:W.isFn K (.ref f)=true)(L:mA name=none)(h:Q (.ref f,[.ref x]) s):
  wpAny (model prog w) A (getMethod (.ref x) name pl) Q E s:=by
 obtain⟨G,J,N⟩:=I.look;exact W.method_fn X J (W.plainGet_of Z).1 (W.plainGet_of Z).2 O (beq_iff_eq.mp M) (by show(W.lookIn name G).map (·.isSome)=some false;rw[N,L];rfl) h
def Oe(X:K.In s.heap)(I:Dx s.heap x M C mA)(U:W.findIn K (.ref C) "__setattr__"=some (some<|.builtin "object.__setattr__"))(P:W.plainOver K C=true)(F:W.takerIn K C name=some none)(j:W.hasDictIn K C=true)(D:PySem.Within mA T)(S:T.length<=sizeLine)(h:∀L,Dx L x M C (λy=>if y=name then some v else mA y)->Heap.SameBut M s.heap L->Q () {s with heap:=L,toks:=s.toks+2}):
  wpAny (model prog w) A (setAttr (.ref x) name v) Q E s:=by
 obtain⟨m,J,k⟩:=I.look;refine W.set_plain X J U<|W.osa_open (s:={s with toks:=s.toks+1}) (r:=none) X J P F λb=>?_;obtain⟨p,z,O⟩:=W.any_some j;have B:s.heap.get? x=some ⟨.ref C,some M,.plain,#[]⟩:=I.obj;refine Zl<|Zm<|Zl<|Zl<|wpAny_loadPart B<|Zl<|W.Looks.here (s:={s with toks:=s.toks+1}) (W.looks_clsIn X z) ?_;rw[O];refine Zm (a:=some M)<|Zl<|Zm<|Zl ?_;refine wpAny_nsSet1 (s:={s with toks:=s.toks+1}) I.ns λL G Z=>?_;obtain⟨g,q,t,N,hdD,R⟩:=G.count<|PySem.Within.cons name v D;refine Zl<|wpAny_lookBehind N (by rw[hdD];exact pastItsLine_dict<|Zb R (by rw[Zf];omega)) ?_;exact Zm<|h _ ⟨(Z.2 _<|Zs I.ne).trans I.obj,G,I.ne⟩ Z
def LE(X:K.In s.heap)(J:W.makesIn K C=true)(G:W.findIn K (.ref C) "__init__"=some (some<|.ref f))(L:W.typeIn K (.ref f)=some (.type "function"))(h:codeAny (model prog w) (A.under<|.builtin "type.__call__" ⟨.ref C::Z,kw⟩) (.call (.ref f) ⟨.ref (s.heap.objs.size+1)::Z,kw⟩) (W.InitBack (s.heap.objs.size+1) R)
   {s with heap:=(s.heap.push W.emptyDict).push (W.instObj C s.heap.objs.size)}):
  codeAny (model prog w) A (.call (.ref C) ⟨Z,kw⟩) R s:=by
 obtain⟨N,g,d,t,M⟩:=s;exact W.make_core (W.makes_of X J) (W.looks_findIn X G) (λself=>W.bind_fn X self L) (.inl Y) h
end
def VR(f:Str)(v:V):List (Str×V)->List (Str×V)
 |[]=>[(f,v)]
 |(g,x)::r=>if g=f then(g,v)::r else(g,x)::VR f v r
theorem Ws(f g:Str)(v:V):∀Z:List (Str×V),(VR f v Z).lookup g=if g=f then some v else Z.lookup g
 |[]=>by
  show List.lookup g [(f,v)]=_
  by_cases h:g=f
  .have hb:(g==f)=true:=beq_iff_eq.mpr h
   simp only[List.lookup,hb,Zp h]
  .have hb:(g==f)=false:=beq_eq_false_iff_ne.mpr h
   simp only[List.lookup,hb,Zq h]
 |(k,x)::r=>by
  have ih:=Ws f g v r;rw[show VR f v ((k,x)::r)=(if k=f then(k,v)::r else(k,x)::VR f v r)from rfl]
  by_cases hk:k=f
  .rw [Zp hk]
   by_cases h:g=k
   .have hb:(g==k)=true:=beq_iff_eq.mpr h
    simp only[List.lookup,hb,Zp (h.trans hk)]
   .have hb:(g==k)=false:=beq_eq_false_iff_ne.mpr h
    simp only[List.lookup,hb,Zq (λe:g=f=>h<|e.trans hk.symm)]
  .rw [Zq hk]
   by_cases h:g=k
   .have hb:(g==k)=true:=beq_iff_eq.mpr h
    simp only[List.lookup,hb,Zq (λe:g=f=>hk<|h.symm.trans e)]
   .have hb:(g==k)=false:=beq_eq_false_iff_ne.mpr h
    simp only[List.lookup,hb];exact ih
theorem WZ(f:Str)(v:V):∀Z:List (Str×V),f∈(VR f v Z).map (·.1)/\∀g,g∈Z.map (·.1)->g∈(VR f v Z).map (·.1)
 |[]=>⟨by simp[VR],λg h=>by simp at h⟩
 |(k,x)::r=>by
  obtain⟨G,J⟩:=WZ f v r;rw[show VR f v ((k,x)::r)=(if k=f then(k,v)::r else(k,x)::VR f v r)from rfl]
  by_cases hk:k=f
  .rw [Zp hk]
   subst hk;exact⟨by simp,λg h=>by simpa using h⟩
  .rw [Zq hk]
   refine⟨?_,λg h=>?_⟩
   .rw [ZV]
    exact ZM _ G
   .rw [ZV]at h |-
    rcases Zd.mp h with e|e
    .exact Zd.mpr (.inl e)
    .exact ZM _ (J g e)
theorem Wt(f:Str)(v:V):∀Z:List (Str×V),(VR f v Z).length<=Z.length+1
 |[]=>by simp[VR]
 |(k,x)::r=>by
  have ih:=Wt f v r;rw[show VR f v ((k,x)::r)=(if k=f then(k,v)::r else(k,x)::VR f v r)from rfl]
  by_cases hk:k=f
  .rw [Zp hk,Zf,Zf];omega
  .rw [Zq hk,Zf,Zf];omega
def UY.some_of(r:UY (some v) o):∃u,o=some u/\RelV v u:=by
 cases o with
 |none=>exact(show False from r).elim
 |some u=>exact⟨u,Y,r⟩
def UY.none_of(r:UY none o):o=none:=by
 cases o with
 |none=>rfl
 |some u=>exact(show False from r).elim
def FW(r:RelV v u):W.handedIn u=true:=by
 cases v with
 |non=>cases(show u=Value.none from r);rfl
 |bl b=>cases(show u=Value.bool b from r);rfl
 |int i=>obtain⟨t,e⟩:=(show ∃t,u=Value.int i t from r);cases e;rfl
 |str x=>obtain⟨t,e⟩:=(show ∃t,u=Value.str x t from r);cases e;rfl
 |byt b=>obtain⟨t,e⟩:=(show ∃t,u=Value.bytes b t from r);cases e;rfl
 |flt b=>obtain⟨t,e⟩:=(show ∃t,u=Value.float b t from r);cases e;rfl
 |ref a=>cases(show u=Value.ref a from r);rfl
 |ty n=>cases(show u=Value.type n from r);rfl
section
def GL(J:HOk P w H h)(e:H a=some (.ins C G fs)):∃Z,Dx h a G C Z/\(∀f,UY (fs.lookup f)<|Z f)/\PySem.Within Z (fs.map (·.1))/\fs.length<=1000/\H G=some (.own a):=by
 obtain⟨d,z,M,L,Z,n,r,q⟩:=(show VL P w H h a (.ins C G fs)from J a _ e);exact⟨Z,⟨L,n,M⟩,r,q,z,d⟩
end
structure Cls(K:W.Frag)(C:Addr):Prop where
 pg:W.plainGet K C Str.empty=true
 hd:W.hasDictIn K C=true
 po:W.plainOver K C=true
 sa:W.findIn K (.ref C) "__setattr__"=some (some (.builtin "object.__setattr__"))
def Cls.get{K:W.Frag}(c:Cls K C)(f:Str):W.plainGet K C f=true:=c.pg
def VF(K:W.Frag)(C:Addr)(f:Str):Prop:=W.findIn K (.ref C) f=some none
def VF.taker{K:W.Frag}(n:VF K C f):W.takerIn K C f=some none:=by
 unfold W.takerIn;rw[show W.findIn K (.ref C) f=some none from n]
 rfl
structure VI(K:W.Frag)(C:Addr)(m:Str)(f:Addr):Prop where
 at_:W.findIn K (.ref C) m=some (some (.ref f))
 fn:W.isFn K (.ref f)=true
 kp:W.keepIn K (.ref f)=true
section
def TX(I:Inv X Z U H s)(e:H a=some (.ins C N fs))(c:Cls X.K C)(n:VF X.K C f)(l:fs.lookup f=some v)(h:∀u J,Inv X Z U H J->RelV v u->Q u J):wpAny (model X.prog X.w) A (getAttr (.ref a) f b) Q E s:=by
 obtain⟨L,O,r,_,_,_⟩:=GL I.hok e;obtain⟨u,M,G⟩:=UY.some_of (v:=v) (o:=L f) (by rw[<-l];exact r f);exact Ps I.kIn O (c.get f) c.hd n M (FW G)<|h u _ (I.tok _) G
def TV(I:Inv X Z U H s)(e:H a=some (.ins C L fs))(c:Cls X.K C)(k:VI X.K C m g)(l:fs.lookup m=none)(h:Q (.ref g,[.ref a]) s):wpAny (model X.prog X.w) A (getMethod (.ref a) m pl) Q E s:=by
 obtain⟨J,O,r,_,_,_⟩:=GL I.hok e;have G:J m=none:=UY.none_of (by rw[<-l];exact r m);exact Lh I.kIn O (c.get m) k.at_ k.fn G h
def XS(I:Inv X Z U H s)(e:H a=some (.ins C J fs))(c:Cls X.K C)(n:VF X.K C f)(m:fs.length<1000)(B:RelV y u)(h:∀M,Inv X Z U (upd H a<|.ins C J<|VR f y fs) M->Q () M):wpAny (model X.prog X.w) A (setAttr (.ref a) f u) Q E s:=by
 obtain⟨N,O,r,L,_,R⟩:=GL I.hok e;have D:(fs.map (·.1)).length<=sizeLine:=by rw[ZA,sizeLine_eq];omega
 refine Oe I.kIn O c.sa c.po n.taker c.hd L D λj G T=>h _ ?_;have S:∃o,j.get? J=some o:=let⟨o,_,_,t,_⟩:=G.ns;⟨o,t⟩
 refine I.write (x:=a) (e:=J) (by rw[e];exact True.intro) (.inr R) (λb q P z=>(T.2 b P).trans z) S ?_;refine⟨by rw[Yg O.ne];exact R,?_,O.ne,G.obj,_,G.ns,λg=>?_,λg F=>?_⟩
 .have:=Wt f y fs;omega
 .show UY ((VR f y fs).lookup g) (if g=f then some u else N g)
  rw[Ws]
  by_cases q:g=f
  .rw [Zp q,Zp q];exact B
  .rw [Zq q,Zq q];exact r g
 .by_cases q:g=f
  .rw [q];exact(WZ f y fs).1
  .refine (WZ f y fs).2 g (L g λz=>F ?_)
   show(if g=f then some u else N g)=none;rw[Zq q];exact z
def Inv.made(I:Inv X Z U H s):Inv X Z U (upd (upd H s.heap.objs.size<|.own<|s.heap.objs.size+1) (s.heap.objs.size+1)<|.ins C s.heap.objs.size [])
  {s with heap:=(s.heap.push W.emptyDict).push (W.instObj C s.heap.objs.size)}:=by
 have G:(s.heap.push W.emptyDict).get? s.heap.objs.size=some W.emptyDict:=ZY s.heap rfl
 have O:((s.heap.push W.emptyDict).push<|W.instObj C s.heap.objs.size).get? (s.heap.objs.size+1)=some (W.instObj C s.heap.objs.size):=by
  have:=ZY (s.heap.push W.emptyDict) (o:=W.instObj C s.heap.objs.size) rfl
  rwa [vg]at this
 have N:(s.heap.push W.emptyDict).Ns s.heap.objs.size (λ_=>none):=⟨W.emptyDict,#[],_,G,rfl,(λe M=>Zr M<|by simp),λ_=>rfl⟩;have R:=I.laid (a:=s.heap.objs.size) (o:=.own<|s.heap.objs.size+1) (h':=s.heap.push W.emptyDict) (t':=s.toks) (λb u q=>ZE _ q) (ZG _) ⟨_,G⟩;refine R.laid (a:=s.heap.objs.size+1) (o:=.ins C s.heap.objs.size []) (t':=s.toks) (λb u q=>ZE _ q) (jF<|vg _ _) ?_;have J:s.heap.objs.size≠s.heap.objs.size+1:=Ze<|yk _;refine⟨by rw[Yg J,Ye],Zc _,J,O,λ_=>none,(Heap.Ns1.of_empty N).at λo q=>ZE _ q,λ_=>True.intro,λy L=>Zr Y L⟩
def QF(J:attributeBase e f env (eval e env)=eval e env)(h:wpAny (model prog w) A (eval e env) (λo Z=>wpAny (model prog w) A (getAttr o f true) Q E Z) E s):wpAny (model prog w) A (eval (.Attribute e f pos) env) Q E s:=
 Attribute_any_ h (by rw[arm_eval_Attribute,J])
end
def Q3(K:W.Frag)(ta:TE)(f:Str):TE:=λU H Q=>ta U H λx J=>V6 x λa=>∃C G Z v,J a=some (.ins C G Z)/\Cls K C/\VF K C f/\Z.lookup f=some v/\Q v J
def zp(K:W.Frag)(ta tv:TE)(f:Str):TS:=λD U H=>tv U H λy L=>ta U L λx G=>∃a C J Z,x=.ref a/\G a=some (.ins C J Z)/\Cls K C/\VF K C f/\Z.length<1000/\
 D.nx U (upd G a<|.ins C J<|VR f y Z)
def zN(X:Cx)(op:Operator)(rd:V->V->Hp->VK->Prop):Prop:=
 ∀(Z:ka)(s:Shared)(U:St)(H:Hp)(x y:V)(u v:Value)(Q:VK),Inv X Z U H s->RelV x u->RelV y v->rd x y H Q->wpAny (model X.prog X.w) X.A (inplaceOp op u v) (EP X Z U Q) X.xe s
def Ov(K:W.Frag)(ta tv:TE)(rd:V->V->Hp->VK->Prop)(f:Str):TS:=λD U H=>ta U H λx M=>∃a C N G v,x=.ref a/\M a=some (.ins C N G)/\Cls K C/\VF K C f/\G.lookup f=some v/\
 tv U M λy O=>rd v y O λz L=>∃J Z,L a=some (.ins C J Z)/\Z.length<1000/\D.nx U (upd L a<|.ins C J<|VR f z Z)
section
def Yn(L:PE X e ta)(M:attributeBase e f X.env (eval e X.env)=eval e X.env):PE X (.Attribute e f pos) (Q3 X.K ta f):=by
 intro Z s U H Q I h;refine QF M<|thn (L Z s U H _ I h) λu F ⟨x,B,T,J,q⟩=>?_;replace q:=V6.old q;obtain⟨a,N,C,S,A,v,O,c,n,l,q⟩:=q;subst N;obtain rfl:u=Value.ref a:=J;exact TX T O c n l λD E R G=>⟨v,B,R,G,q⟩
def VT(T:PE X o ta)(O:PE X value tv)(R:swapsWith value (some<|.Attribute o f pos') pos.line X.env=pure false):PS X (.Assign [.Attribute o f pos'] value pos) (zp X.K ta tv f):=by
 intro Z s U H D I h;refine plainObj_wpAny_Assign_Attribute (thn (O Z s U H _ I h) λu J ⟨y,P,S,G,q⟩=>thn (T Z J U P _ S q) λN j ⟨x,m,A,L,a,C,t,z,B,E,c,n,l,M⟩=>?_) R;subst B;obtain rfl:N=Value.ref a:=L;exact XS A E c n l G λQ F=>⟨U,_,F,M⟩
def FG(Q:PE X o ta)(P:PE X value tv)(J:zN X op rd):PS X (.AugAssign (.Attribute o f tpos) op value pos) (Ov X.K ta tv rd f):=by
 intro Z s U H D I h;refine wpAny_AugAssign_AttributeAny<|thn (Q Z s U H _ I h) λA s1 ⟨x,e,r,T,a,C,dx,fs,v,t,m,c,n,l,q⟩=>?_;subst t;obtain rfl:A=Value.ref a:=T;refine TX r m c n l λu N w B=>thn (P Z N U e _ w q) λL M ⟨y,b,d,R,F⟩=>thn (J Z M U b v y u L _ d B R F) λi s4 ⟨z,H3,p,O,g,j,G,S,E⟩=>?_;exact XS p G c n S O λs5 k=>⟨U,_,k,E⟩
def yF:V->V->Hp->VK->Prop:=λx y H Q=>∃i j,x=.int i/\y=.int j/\Q (.int<|i+j) H
def AO:zN X .Add yF:=by
 rintro J s U H x y u v Q I L G ⟨i,j,rfl,rfl,q⟩;obtain⟨t,rfl⟩:=(show ∃t,u=Value.int i t from L);obtain⟨Z,rfl⟩:=(show ∃Z,v=Value.int j Z from G);exact PyProof.Rows.iadd_int ⟨.int<|i+j,H,I.tok _,⟨_,rfl⟩,q⟩
end
section
variable{H:Hp}
inductive Xd(K:W.Frag)(H:Hp):V->Value->Prop where
 |non:Xd K H .non (.type "NoneType")
 |bl (x:Bool):Xd K H (.bl x) (.type "bool")
 |int (i:Int):Xd K H (.int i) (.type "int")
 |str (x:Str):Xd K H (.str x) (.type "str")
 |flt (x:UInt64):Xd K H (.flt x) (.type "float")
 |lst {a:Addr}{xs:List V}(e:H a=some (.lst xs)):Xd K H (.ref a) (.type "list")
 |frz {a:Addr}{o:Obj}{xs:List V}(e:H a=some (.frz o (.lst xs))):Xd K H (.ref a) (.type "list")
 |tup {a:Addr}{xs:List V}(e:H a=some (.tup xs)):Xd K H (.ref a) (.type "tuple")
 |dK {a:Addr}{kvs:List (Key×V)}(e:H a=some (.dK kvs)):Xd K H (.ref a) (.type "dict")
 |dT {a:Addr}{kvs:List (List Key×V)}(e:H a=some (.dT kvs)):Xd K H (.ref a) (.type "dict")
 |ins {a C dx:Addr}{fs:List (Str×V)}(e:H a=some (.ins C dx fs)) (cl:Cls K C) (ha:W.findIn K (.ref C) "__class__"=some (some (.builtin "object.__class__")))
   (hn:W.specialIn K (.builtin "object.__class__") "__get__"=some (some (.builtin "getset_descriptor.__get__"))) (htk:W.takesIn K (.builtin "object.__class__")=some true)
   (hm:W.mroIn K C (.type "object")=some true):Xd K H (.ref a) (.ref C)
def FS(I:Inv X B U H s)(Z:RelV x u)(ty:Xd X.K H x t)(e:W.kitOne X.K t c=some b)(h:∀F,Q (.bool b) {s with toks:=F}):
  wpAny (model X.prog X.w) A (call (.builtin "isinstance") [u,c]) Q E s:=by
 cases ty with
 |non=>cases(show u=Value.none from Z);exact vV W.kitx_none I.kIn True.intro e (λz=>nomatch z) h
 |bl y=>cases(show u=Value.bool y from Z);exact vV W.kitx_bool I.kIn True.intro e (λz=>nomatch z) h
 |int i=>obtain⟨t,q⟩:=(show ∃t,u=Value.int i t from Z);cases q;exact vV W.kitx_int I.kIn True.intro e (λz=>nomatch z) h
 |str y=>obtain⟨t,q⟩:=(show ∃t,u=Value.str y t from Z);cases q;exact vV W.kitx_str I.kIn True.intro e (λz=>nomatch z) h
 |flt y=>obtain⟨t,q⟩:=(show ∃t,u=Value.float y t from Z);cases q;exact vV W.kitx_float I.kIn True.intro e (λz=>nomatch z) h
 | @lst a N G=>
  cases(show u=Value.ref a from Z);obtain⟨_,_,n,_,L⟩:=(show VL X.prog X.w H s.heap a (.lst N)from I.hok a _ G);exact vV W.kitx_list I.kIn ⟨_,L,Y⟩ e (λz=>nomatch z) h
 | @frz a S N G=>
  cases(show u=Value.ref a from Z);obtain⟨_,_,_,n,_,L⟩:=(show VL X.prog X.w H s.heap a (.frz S<|.lst N)from I.hok a _ G);exact vV W.kitx_list I.kIn ⟨_,L,Y⟩ e (λz=>nomatch z) h
 | @tup a N G=>
  cases(show u=Value.ref a from Z);obtain⟨_,_,_,p⟩:=(show VL X.prog X.w H s.heap a (.tup N)from I.hok a _ G);obtain⟨o,L,_,R,_⟩:=p;exact vV W.kitx_tuple I.kIn ⟨o,L,R⟩ e (λz=>nomatch z) h
 | @dK a M G=>
  cases(show u=Value.ref a from Z);obtain⟨_,_,d,_,p⟩:=(show VL X.prog X.w H s.heap a (.dK M)from I.hok a _ G);obtain⟨o,g,k,L,R,_⟩:=p;exact vV W.kitx_dict I.kIn ⟨o,L,R.1⟩ e (λz=>nomatch z) h
 | @dT a M G=>
  cases(show u=Value.ref a from Z);obtain⟨_,_,N,_,o,g,k,L,R,_⟩:=(show VL X.prog X.w H s.heap a (.dT M)from I.hok a _ G);exact vV W.kitx_dict I.kIn ⟨o,L,R.1⟩ e (λz=>nomatch z) h
 | @ins a C r w G D m P T j=>
  cases(show u=Value.ref a from Z);obtain⟨v,O,_⟩:=GL I.hok G;obtain⟨f,J,_⟩:=O.look;exact vV (W.kitx_own (D.get _) D.hd m P T j) I.kIn J e (λz=>nomatch z) h
end
structure Vo(k:Nat)(A:Around):Prop where
 hd:A.handled=none
 dp:A.depth+3*k+5<recursionLimit
 un:A.units+16*k+200<cLine
def Vo.mono(r:Vo k A)(h:j<=k):Vo j A:=⟨r.hd,by have:=r.dp;omega,by have:=r.un;omega⟩
def Vo.deeper(r:Vo (k+1) A)(Z:Env):Vo k (A.deeper Z):=
 ⟨r.hd,by have:=r.dp;show A.depth+1+3*k+5<_;omega,by have:=r.un;show A.units+3+16*k+200<_;omega⟩
def Vo.in1(r:Vo (k+1) A):Vo k A.in1:=
 ⟨r.hd,by have:=r.dp;show A.depth+3*k+5<_;omega,by have:=r.un;show A.units+1+16*k+200<_;omega⟩
def DJ{A:Around}:(A.under<|.builtin "type.__call__" ⟨.ref C::Z,kw⟩).depth=A.depth+1:=by
 first|rfl|simp[Around.under,Code.weight,Code.isCreation,Code.isGuard,Code.isCaller,Code.frames,Code.isFrame,guardIds]
def DI{A:Around}:(A.under<|.builtin "type.__call__" ⟨.ref C::Z,kw⟩).units=A.units+1:=by
 first|rfl|simp[Around.under,Code.cUnits,Code.frames,Code.isFrame]
def Vo.make(r:Vo (k+1) A)(C:Addr)(Z:kq)(J:List (Str×Value)):Vo k (A.under<|.builtin "type.__call__" ⟨.ref C::Z,J⟩):=
 ⟨r.hd,by have:=r.dp;rw[DJ];omega,by have:=r.un;rw[DI];omega⟩
def Vo.depth(r:Vo k A):A.depth<recursionLimit:=by have:=r.dp;omega
def Vo.units(r:Vo k A):A.units+64<cLine:=by have:=r.un;omega
def Vo.units0(r:Vo k A):A.units<cLine:=by have:=r.un;omega
def Rn:TA:=λ_ H Q=>Q [] H
def JZ(ta:TE)(tr:TA):TA:=λU H Q=>ta U H λx G=>tr U G λZ J=>Q (x::Z) J
section
variable{t:TA}
def VP:PA X [] Rn:=λ_ _ _ _ H Q I h=>Calls.spliced_nil ⟨[],H,I,.nil,h⟩
def Vw(E:PE X e te)(D:PA X G t)(B:starEach (e::G) X.env=(false,eval e X.env)::starEach G X.env:=by rfl):PA X (e::G) (JZ te t):=by
 intro J Z s U H Q I h;rw[B];show wpAny _ _ (spliced ((false,eval e X.env)::backTo J (starEach G X.env))) _ _ s;refine Calls.spliced_cons<|thn (E Z s U H _ I h) λu M ⟨x,C,A,O,T⟩=>?_;exact thn (D J Z M U C _ A T) λP j ⟨L,S,F,N,R⟩=>⟨x::L,S,F,.cons O N,R⟩
def pa1(J:PE X e0 t0)(Z:starEach [e0] X.env=(false,eval e0 X.env)::starEach [] X.env:=by rfl):PA X [e0] (JZ t0<|Rn):=Vw J (VP) Z
def pa2(L:PE X e0 t0)(G:PE X e1 t1)(J:starEach [e0,e1] X.env=(false,eval e0 X.env)::starEach [e1] X.env:=by rfl)(Z:starEach [e1] X.env=(false,eval e1 X.env)::starEach [] X.env:=by rfl):PA X [e0,e1] (JZ t0<|JZ t1<|Rn):=Vw L (Vw G (VP) Z) J
def pa3(N:PE X e0 t0)(M:PE X e1 t1)(L:PE X e2 t2)(G:starEach [e0,e1,e2] X.env=(false,eval e0 X.env)::starEach [e1,e2] X.env:=by rfl)(J:starEach [e1,e2] X.env=(false,eval e1 X.env)::starEach [e2] X.env:=by rfl)(Z:starEach [e2] X.env=(false,eval e2 X.env)::starEach [] X.env:=by rfl):PA X [e0,e1,e2] (JZ t0<|JZ t1<|JZ t2<|Rn):=Vw N (Vw M (Vw L (VP) Z) J) G
def pa4(R:PE X e0 t0)(O:PE X e1 t1)(N:PE X e2 t2)(M:PE X e3 t3)(L:starEach [e0,e1,e2,e3] X.env=(false,eval e0 X.env)::starEach [e1,e2,e3] X.env:=by rfl)(G:starEach [e1,e2,e3] X.env=(false,eval e1 X.env)::starEach [e2,e3] X.env:=by rfl)(J:starEach [e2,e3] X.env=(false,eval e2 X.env)::starEach [e3] X.env:=by rfl)(Z:starEach [e3] X.env=(false,eval e3 X.env)::starEach [] X.env:=by rfl):PA X [e0,e1,e2,e3] (JZ t0<|JZ t1<|JZ t2<|JZ t3<|Rn):=Vw R (Vw O (Vw N (Vw M (VP) Z) J) G) L
def pa5(B:PE X e0 t0)(T:PE X e1 t1)(R:PE X e2 t2)(O:PE X e3 t3)(N:PE X e4 t4)(M:starEach [e0,e1,e2,e3,e4] X.env=(false,eval e0 X.env)::starEach [e1,e2,e3,e4] X.env:=by rfl)(L:starEach [e1,e2,e3,e4] X.env=(false,eval e1 X.env)::starEach [e2,e3,e4] X.env:=by rfl)(G:starEach [e2,e3,e4] X.env=(false,eval e2 X.env)::starEach [e3,e4] X.env:=by rfl)(J:starEach [e3,e4] X.env=(false,eval e3 X.env)::starEach [e4] X.env:=by rfl)(Z:starEach [e4] X.env=(false,eval e4 X.env)::starEach [] X.env:=by rfl):PA X [e0,e1,e2,e3,e4] (JZ t0<|JZ t1<|JZ t2<|JZ t3<|JZ t4<|Rn):=Vw B (Vw T (Vw R (Vw O (Vw N (VP) Z) J) G) L) M
def zP(t:TA):TE:=λU H Q=>t U H λZ J=>Z.length<=sizeLine/\∀p,J p=none->Q (.ref p) (upd J p<|.tup Z)
def zT(t:TA):TE:=λU H Q=>t U H λZ J=>Z.length<=sizeLine/\∀p,J p=none->Q (.ref p) (upd J p<|.lst Z)
def Yi(h:PA X T t):PE X (.Tuple T x1 pos) (zP t):=by
 intro Z s U H Q I O;refine wpAny_Tuple_spliced<|thn (h pos Z s U H _ I O) λN J ⟨M,L,G,r,z,q⟩=>⟨by rw[<-r.length];exact z,?_⟩;have R:L J.heap.objs.size=none:=G.hok.fresh<|ZG _;refine⟨.ref J.heap.objs.size,upd L J.heap.objs.size<|.tup M,G.laid (t':=J.toks) (λb u e=>ZE _ e) (ZG _) ?_,rfl,q _ R⟩;exact⟨z,N,r,⟨_,ZY _ Y,Y,Y,_,Y⟩⟩
def V8(h:PA X T t):PE X (.List T pos) (zT t):=by
 intro Z s U H Q I O;refine wpAny_List_spliced<|thn (h pos Z s U H _ I O) λN J ⟨M,L,G,r,z,q⟩=>⟨by rw[<-r.length];exact z,?_⟩;have R:L J.heap.objs.size=none:=G.hok.fresh<|ZG _;refine⟨.ref J.heap.objs.size,upd L J.heap.objs.size<|.lst M,G.laid (t':=J.toks) (λb u e=>ZE _ e) (ZG _) ?_,rfl,q _ R⟩;exact⟨z,N,0,r,ZY _ Y⟩
end
abbrev Sp:=List V->Hp->VK->XK->Prop
abbrev CXT:=List Env->Hp->Shared->XK->Value->Shared->Prop
structure Dy(P:Program)(w:World)(K:W.Frag)(mg:Str->Option Value)(base:Heap)(A:Around)(outer:List Env)(s:Shared)(H:Hp):Prop where
 frames:A.frames=some outer
 mod:Mod K mg base
 bs:∀b o,base.get? b=some o->s.heap.get? b=some o/\H b=none
 bsz:base.objs.size<=s.heap.objs.size
 funs:s.heap.FunFrames base outer
 frf:∀b∈frs outer,H b=none
 hok:HOk P w H s.heap
 bare:AllBare s.gens
def CE(outer:List Env)(P:Program)(w:World)(H:Hp)(s:Shared)(Q:VK)(u:Value)(s':Shared):Prop:=
 ∃v Z,s'.os=s.os/\AllBare s'.gens/\Un (frs outer) [] H Z s.heap s'.heap/\HOk P w Z s'.heap/\RelV v u/\Q v Z
def CR(CX:CXT)(outer:List Env)(P:Program)(w:World)(H:Hp)(s:Shared)(Q:VK)(E:XK)(r:Result)(s':Shared):Prop:=
 match r with
 |.ok (.ret u)=>CE outer P w H s Q u s'
 |.ok _=>False
 |.error e=>CX outer H s E e s'
structure Yf(P:Program)(w:World)(K:W.Frag)(mg:Str->Option Value)(base:Heap)(CX:CXT)(k:Nat)(f:Addr)(fd:FuncData)(ps:List Str)(sp:Sp):Prop where
 len:∀vs H Q E,sp vs H Q E->vs.length=ps.length
 run:∀(A:Around)(outer:List Env)(s:Shared)(H:Hp)(args:Args)(us:List Value)(vs:List V)(Q:VK)(E:XK),Vo k A->Dy P w K mg base A outer s H->BindsTo s fd args (ps.zip us)->Vals vs us->sp vs H Q E->
  codeAny (model P w) A (.call (.ref f) args) (CR CX outer P w H s Q E) s
def Yf.mono{K:W.Frag}(F:Yf P w K N base CX j f R M L)(h:j<=k):
  Yf P w K N base CX k f R M L:=⟨F.len,λA Z s H args G J Q E O=>F.run A Z s H args G J Q E<|O.mono h⟩
def Dy.make{K:W.Frag}(e:Dy P w K J base A outer s H)(C:Addr)(Z:kq)(G:List (Str×Value)):
  Dy P w K J base (A.under<|.builtin "type.__call__" ⟨.ref C::Z,G⟩) outer s H:=⟨by first|exact e.frames|(simpa[Around.under,Code.envs,Code.isFrame,pushEnvs]using e.frames),e.mod,e.bs,e.bsz,e.funs,e.frf,e.hok,e.bare⟩
section
def Inv.env0(I:Inv X Z U H s):Dy X.prog X.w X.K X.mg X.base X.A X.stack s H:=
 ⟨I.ok.frames,I.ok.mod,I.bs,Zb I.ok.bsz I.sz,I.stack,I.stkFree,I.hok,I.bare⟩
def Inv.after(I:Inv X Z U H s)(h:CE X.stack X.prog X.w H s Q u L):EP X Z U Q u L:=by
 obtain⟨v,R,N,bare,M,G,r,q⟩:=h;obtain⟨O,g,d,t,J⟩:=L;obtain rfl:J=s.os:=N;exact⟨v,R,I.call (h':=O) (g':=g) (d':=d) (t':=t) (ch:=[]) M G bare (λb z=>Zr z<|by simp),r,q⟩
end
def M6(sp:Sp)(dvs:kH)(E:XK)(t:TA):TE:=λU H Q=>t U H λZ J=>sp (Z++ dvs) J Q E
def IN(C:Addr)(m:Str)(sp:Sp)(dvs:kH)(E:XK)(ta:TE)(t:TA):TE:=λU H Q=>ta U H λx J=>V6 x λa=>∃L Z,J a=some (.ins C L Z)/\Z.lookup m=none/\
 t U J λG M=>sp (x::(G++ dvs)) M Q E
def Ar(C:Addr)(sp:Sp)(dvs:kH)(E:XK)(t:TA):TE:=λU H Q=>t U H λG J=>∀x Z,J x=none->J Z=none->Z≠x->
 sp (.ref x::(G++ dvs)) (upd (upd J Z<|.own x) x<|.ins C Z []) (λv L=>v=.non/\Q (.ref x) L) E
def Binds(K:W.Frag)(fd:FuncData)(ps:ky)(ds:kq):Prop:=
 ∀(s:Shared)(Z:kq),K.In s.heap->(Z++ ds).length=ps.length->BindsTo s fd ⟨Z,[]⟩ (ps.zip<|Z++ ds)
def Binds.all{K:W.Frag}(h:∀Z:kq,Z.length=J.length->bindArgs L ⟨Z,[]⟩=pure (J.zip Z)):Binds K L J []:=λs Z _ G=>by
 rw[yu]at G |-;exact .of_eq<|h Z G
def Um(CX:CXT)(X:Cx)(E:XK):Prop:=∀(Z:ka)(U:St)(H:Hp)(s:Shared)(e:Value)(J:Shared),Inv X Z U H s->CX X.stack H s E e J->X.xe e J
section
variable{f C:Addr}
def Gr(F:Yf X.prog X.w X.K X.mg X.base CX k f P M N)(T:Vo k X.A)(A:Binds X.K P M G)(D:Vals dvs G)(R:Um CX X E)(I:Inv X Z U H s)(r:Vals vs us)(h:N (vs++ dvs) H Q E):wpAny (model X.prog X.w) X.A (call (.ref f) us) (EP X Z U Q) X.xe s:=by
 have L:Vals (vs++ dvs) (us++ G):=r.append D;have B:(us++ G).length=M.length:=by rw[<-L.length];exact F.len _ _ _ _ h
 refine wpAny_call<|jV (F.run X.A X.stack s H ⟨us,[]⟩ (us++ G) (vs++ dvs) Q E T I.env0 (A s us I.kIn B) L h) λr O J=>?_
 cases r with
 |error e=>exact R Z U H s e O I J
 |ok S=>
  cases S with
  |ret u=>exact I.after J
  |next=>exact False.elim J
  |brk=>exact False.elim J
  |cont=>exact False.elim J
def Jd(F:Yf X.prog X.w X.K X.mg X.base CX k f z O N)(T:Vo k X.A)(A:Gl X x)(B:X.mg x=some (.ref f))(D:W.keepIn X.K (.ref f)=true)(j:Binds X.K z O m)(P:Vals dvs m)(R:Um CX X E)(y:PA X (e::J) t)(L:(x==("__debug__":Str))=false:=by decide)(S:starEach (e::J) X.env=(false,eval e X.env)::starEach J X.env:=by rfl)(G:(backTo pos<|starEach J X.env).any (·.1)=false:=by rfl):
  PE X (.Call (.Name x p) (e::J) [] pos) (M6 N dvs E t):=by
 intro Z s U H Q I h;refine jd<|GD I A B ?_ L;refine jW (h₀:=X.base) I.ok.mod.kin D (thn (y pos Z s U H _ I h) λc d ⟨g,u,M,r,q⟩=>⟨M.kIn,?_⟩) S G;exact Gr F T j P R M r q
def Y6(y:PE X o ta)(c:Cls X.K C)(M:VI X.K C m f)(F:Yf X.prog X.w X.K X.mg X.base CX k f d A R)(j:Vo k X.A)(g:Binds X.K d A b)(z:Vals dvs b)(S:Um CX X E)(p:PA X (e::J) t)(G:starEach (e::J) X.env=(false,eval e X.env)::starEach J X.env:=by rfl)(L:(backTo pos<|starEach J X.env).any (·.1)=false:=by rfl)(P:eval (.Call (.Attribute o m apos) (e::J) [] pos) X.env=(do
   let ov <-eval o X.env
   standAt apos.atName
   let(f,first) <-holding [ov] (getMethod ov m pl)
   callWith pos f first (backTo pos<|starEach (e::J) X.env) (backToKw pos<|keywordEach [] X.env)):=by rfl):
  PE X (.Call (.Attribute o m apos) (e::J) [] pos) (IN C m R dvs E ta t):=by
 intro Z s U H Q I h;refine W.methodCall_KW (pl:=pl) (thn (y Z s U H _ I h) λu T ⟨x,i,O,B,q⟩=>?_) P;replace q:=V6.old q;obtain⟨a,v,dx,fs,w,l,q⟩:=q;subst v;obtain rfl:u=Value.ref a:=B;refine TV O w c M l ?_;refine jW (first:=[.ref a]) (h₀:=X.base) I.ok.mod.kin M.kp (thn (p pos Z T U i _ O q) λus n ⟨vs,H2,N,r,D⟩=>⟨N.kIn,?_⟩) G L;exact Gr (us:=.ref a::us) (vs:=.ref a::vs) F j g z S N (.cons Y r) D
def Ve(B:PE X o ta)(c:Cls X.K C)(G:VI X.K C m f)(F:Yf X.prog X.w X.K X.mg X.base CX k f S N L)(T:Vo k X.A)(A:Binds X.K S N y)(D:Vals dvs y)(O:Um CX X E)(R:eval (.Call (.Attribute o m apos) [] [] pos) X.env=(do
   let ov <-eval o X.env
   standAt apos.atName
   let(f,first) <-holding [ov] (getMethod ov m pl)
   callWith pos f first (backTo pos<|starEach [] X.env) (backToKw pos<|keywordEach [] X.env)):=by rfl):
  PE X (.Call (.Attribute o m apos) [] [] pos) (IN C m L dvs E ta Rn):=by
 intro Z s U H Q I h;refine W.methodCall_KW (pl:=pl) (thn (B Z s U H _ I h) λu z ⟨x,p,J,M,q⟩=>?_) R;replace q:=V6.old q;obtain⟨a,P,g,t,j,l,q⟩:=q;subst P;obtain rfl:u=Value.ref a:=M;refine TV J j c G l ?_;exact W.callWith_K0 (first:=[.ref a]) J.kIn G.kp<|Gr (us:=[.ref a]) (vs:=[.ref a]) F T A D O J (.cons rfl .nil) q
structure Mk(K:W.Frag)(C f:Addr):Prop where
 makes:W.makesIn K C=true
 init:W.findIn K (.ref C) "__init__"=some (some (.ref f))
 fn:W.isFn K (.ref f)=true
 kp:W.keepIn K (.ref C)=true
def Iz(M:Mk X.K C f)(F:Yf X.prog X.w X.K X.mg X.base CX k f p B A)(z:Vo (k+1) X.A)(m:Binds X.K p B N)(t:Vals dvs N)(y:Um CX X E)(I:Inv X G U H s)(r:Vals R J)(h:∀x L,H x=none->H L=none->L≠x->A (.ref x::(R++ dvs)) (upd (upd H L<|.own x) x<|.ins C L []) (λv w=>v=.non/\Q (.ref x) w) E):
  wpAny (model X.prog X.w) X.A (call (.ref C) J) (EP X G U Q) X.xe s:=by
 have D:=h (s.heap.objs.size+1) s.heap.objs.size (I.hok.fresh<|jP _) (I.hok.fresh<|ZG _)<|Ze<|yk _;have O:=Inv.made (C:=C) I;have T:Vals (V.ref (s.heap.objs.size+1)::(R++ dvs)) (Value.ref (s.heap.objs.size+1)::(J++ N)):=.cons rfl (r.append t)
 have q:(Value.ref (s.heap.objs.size+1)::J++ N).length=B.length:=by
  have e:=T.length;rw[F.len _ _ _ _ D]at e;exact e.symm
 refine wpAny_call (LE (f:=f) I.kIn M.makes M.init (beq_iff_eq.mp M.fn) (jV (F.run _ X.stack _ _ ⟨Value.ref (s.heap.objs.size+1)::J,[]⟩ (Value.ref (s.heap.objs.size+1)::(J++ N)) _ _ E (z.make C J [])
  (O.env0.make C J []) (m _ (Value.ref (s.heap.objs.size+1)::J) O.kIn q) T D) λr S Z=>?_))
 cases r with
 |error e=>exact y G U _ _ e S O Z
 |ok g=>
  cases g with
  |ret u=>
   obtain⟨v,l,d,P,c,j⟩:=O.after Z;subst c;exact⟨P,⟨V.ref<|s.heap.objs.size+1,l,d,rfl,j⟩⟩
  |next=>exact False.elim Z
  |brk=>exact False.elim Z
  |cont=>exact False.elim Z
def Xm(M:Mk X.K C f)(F:Yf X.prog X.w X.K X.mg X.base CX k f z R O)(B:Vo (k+1) X.A)(A:Gl X x)(D:X.mg x=some (.ref C))(j:Binds X.K z R m)(P:Vals dvs m)(T:Um CX X E)(y:PA X (e::J) t)(L:(x==("__debug__":Str))=false:=by decide)(S:starEach (e::J) X.env=(false,eval e X.env)::starEach J X.env:=by rfl)(G:(backTo pos<|starEach J X.env).any (·.1)=false:=by rfl):
  PE X (.Call (.Name x p) (e::J) [] pos) (Ar C O dvs E t):=by
 intro Z s U H Q I h;refine jd<|GD I A D ?_ L;refine jW (h₀:=X.base) I.ok.mod.kin M.kp (thn (y pos Z s U H _ I h) λc d ⟨g,u,N,r,q⟩=>⟨N.kIn,?_⟩) S G;exact Iz M F B j P T N r q
end
structure Yh(N P:List Str)(sc:Scope):Prop where
 kind:sc.kind=.function
 co:sc.isCoroutine=false
 gen:sc.isGenerator=false
 nd:N.Nodup
 pre:N.take P.length=P
 par:∀x∈P,sc.names.lookup x=some .local\/sc.names.lookup x=some .cell
 nofree:∀y∈sc.names,y.2≠.free
theorem RZ{kindOf:Str->Option NameKind}:∀{binds:List (Str×Value)}{m:Str->Option Value},(∀v,(x,v)∉binds)->bindL kindOf binds m x=m x
 |[],_,_=>rfl
 |(n,v)::r,m,h=>by
  unfold bindL;rw[RZ λw Z=>h w (ZM _ Z)]
  split
  .have:x≠n:=by rintro rfl;exact h v Za
   simp[this]
  .rfl
theorem Rb{kindOf:Str->Option NameKind}:∀{binds:List (Str×Value)}{m:Str->Option Value},(∀v,(x,v)∉binds)->bindC kindOf binds m x=m x
 |[],_,_=>rfl
 |(n,v)::r,m,h=>by
  unfold bindC;rw[Rb λw Z=>h w (ZM _ Z)]
  split
  .rfl
  .have:x≠n:=by rintro rfl;exact h v Za
   simp[this]
theorem Ra{kindOf:Str->Option NameKind}:∀{P:ky}{Z:kq}{i:Nat}{m:Str->Option Value},P.Nodup->P[i]?=some x->Z[i]?=some v->kindOf x=some .local->
  bindL kindOf (P.zip Z) m x=some v
 |[],_,_,_,_,h,_,_=>by simp at h
 |_::_,[],_,_,_,_,h,_=>by simp at h
 |p::P,w::Z,0,m,nd,h1,h2,hk=>by
  simp at h1 h2;subst h1;subst h2;show bindL kindOf ((p,w)::P.zip Z) m p=_;unfold bindL;rw[RZ λv J=>(vK.mp nd).1 (List.of_mem_zip J).1,Zp hk];simp
 |p::P,w::Z,i+1,m,nd,h1,h2,hk=>by
  show bindL kindOf ((p,w)::P.zip Z) m x=_;unfold bindL;exact Ra (i:=i) (vK.mp nd).2 (by simpa using h1) (by simpa using h2) hk
theorem Rc{kindOf:Str->Option NameKind}:∀{P:ky}{Z:kq}{i:Nat}{m:Str->Option Value},P.Nodup->P[i]?=some x->Z[i]?=some v->kindOf x≠some .local->
  bindC kindOf (P.zip Z) m x=some v
 |[],_,_,_,_,h,_,_=>by simp at h
 |_::_,[],_,_,_,_,h,_=>by simp at h
 |p::P,w::Z,0,m,nd,h1,h2,hk=>by
  simp at h1 h2;subst h1;subst h2;show bindC kindOf ((p,w)::P.zip Z) m p=_;unfold bindC;rw[Rb λv J=>(vK.mp nd).1 (List.of_mem_zip J).1,Zq hk];simp
 |p::P,w::Z,i+1,m,nd,h1,h2,hk=>by
  show bindC kindOf ((p,w)::P.zip Z) m x=_;unfold bindC;exact Rc (i:=i) (vK.mp nd).2 (by simpa using h1) (by simpa using h2) hk
def start(N:ky)(vs:kH):St:=vs.map some++ List.replicate (N.length-vs.length) none
def Vf(CX:CXT)(P:Program)(w:World)(K:W.Frag)(mg:Str->Option Value)(base:Heap)(N:ky)(qual:Str)(scope:Scope)(f:Addr)(cd:Value)(A:Around)(outer:List Env)(s:Shared)(H:Hp)(E:XK):Cx where
 prog:=P
 w:=w
 K:=K
 mg:=mg
 base:=base
 A:=A.deeper (envOfC qual scope s.heap.objs.size f cd)
 N:=N
 s₀:=s
 H₀:=H
 env:=envOfC qual scope s.heap.objs.size f cd
 outer:=outer
 stack:=envOfC qual scope s.heap.objs.size f cd::outer
 ex:=[]
 calm:=true
 fn:=λ_=>true
 pn:=[]
 xe:=λe J=>wpAny (model P w) (A.deeper<|envOfC qual scope s.heap.objs.size f cd) (leaving (envOfC qual scope s.heap.objs.size f cd) e) (λ_ Z=>CX outer H s E e Z) (λG Z=>CX outer H s E G Z) J
def Nv{Z:Scope}(h:Z.names.lookup x=some .cell):∃c,(cellsFrom n Z.names []).lookup x=some c:=by
 have q:=W.cellsFrom_some Z.names n []<|.inl h;exact vR.mp q
def FU{C:CXT}{P:Program}{w:World}{K:W.Frag}(S:Yh N O scope)(j:A.handled=none)(J:Dy P w K F base A outer s H)(g:M.length=O.length)(r:Vals M D)(x:InCallC s s.heap.objs.size (bindL (envOfC qual scope s.heap.objs.size f cd).kindOf (O.zip D) λ_=>none) (cellsFrom (s.heap.objs.size+1) scope.names []) (bindC (envOfC qual scope s.heap.objs.size f cd).kindOf (O.zip D) λ_=>none) s1):
  Inv (Vf C P w K F base N qual scope f cd A outer s H E) [] (start N M) H s1:=by
 have Q:O.length<=N.length:=by have:=congrArg List.length S.pre;rw[ZN]at this;omega
 obtain⟨B,m,rfl,U⟩:=x.done;have G:∀b:Addr,b∉(Vf C P w K F base N qual scope f cd A outer s H E).ex:=λb z=>Zr (show b∈([]:kC)from z) (by simp);refine⟨⟨J.mod,S.kind,Y,Y,ZG _,λy z c B Z=>?_,λy L=>?_,λy c _ h=>?_,λ_=>j,Around.frames_deeper J.frames,.inr ⟨Y,Y⟩,λb z=>Zr z<|G b,J.bs,J.bsz,λb _ _=>G b,λb z=>Zr z<|G b,J.funs,J.frf⟩,
  rfl,J.bare,Un.kept U,⟨_,x.toInCall.ns,λi y v B Z d=>?_⟩,λy c h=>⟨_,x.cell y c h⟩,J.hok.fresh<|ZG _,λy c h=>?_,λp T=>Zr (show p∈([]:ka)from T) (by simp),J.hok.kept U,?_⟩
 .exact name_of_addr x.apart (vy B) (vy Z)
 .have L:scope.names.lookup y=some .cell\/scope.names.lookup y=some .free:=L
  rcases L with L|L
  .exact Nv L
  .exact Zr rfl (S.nofree _<|vy L)
 .exact Zh (x.above y c<|vy h)
 .have hi:i<M.length:=by
   unfold start at Z
   by_cases hi:i<M.length
   .exact hi
   .rw [yh (by simpa using hi)]at Z
    rw[vX]at Z
    split at Z <;> cases Z
  have t:M[i]?=some v:=by
   unfold start at Z;rw[yi (by simpa using hi),ZH]at Z
   cases e:M[i]? with
   |none=>rw[e]at Z;cases Z
   |some a=>rw[e]at Z;cases Z;rfl
  obtain⟨u,I,X⟩:=r.get t
  have T:O[i]?=some y:=by
   rw[<-S.pre,List.getElem?_take_of_lt (by omega)];exact B
  have R:O.Nodup:=by rw[<-S.pre];exact S.nd.sublist<|vv _ _
  exists u,X;rcases S.par y (ZJ T)with k|k
  .exact .inl ⟨k,Ra R T I k⟩
  .obtain ⟨c,e⟩:=Nv (n:=s.heap.objs.size+1) k
   refine .inr ⟨.inl k,c,e,?_⟩;have q:=x.cell y c e;rw[Rc R T I (by show scope.names.lookup y≠_;rw[k];decide)]at q;exact q
 .exact J.hok.fresh (Zh<|x.above y c<|vy h)
 .unfold start
  show _=N.length;rw[ZL,ZA,List.length_replicate];omega
def Ql{j:CXT}{P:Program}{K:W.Frag}{dV kV C a G ct oc:Value}(lk:K.lookup f=some ⟨oc,od,.func<|W.fnOf name qual params body scope dV kV C a an G ct,osl⟩)(l:W.codeIn K G qual=true)(S:Yh N g scope)(B:∀L H Q E,i L H Q E->L.length=g.length)(R:∀(A:Around)(Z:List Env)(s:Shared)(H:Hp)(L:kH)(Q:VK)(E:XK),Vo k (A.deeper<|envOfC qual scope s.heap.objs.size f G)->i L H Q E->
   ∃t,PSs (Vf j P w K p base N qual scope f G A Z s H E) body t/\t {nx:=λ_ M=>Q .non M,rt:=Q} (start N L) H):
  Yf P w K p base j (k+1) f (W.fnOf name qual params body scope dV kV C a an G ct) g i:=by
 refine⟨B,λA Z s H args us L Q E d U hb r D=>?_⟩;have hl:=B _ _ _ _ D;have KX:K.In s.heap:=U.mod.kin.keeps λb o e=>(U.bs b o e).1;have c:s.heap.NoLimit:=U.mod.nolimit.keeps λb o e=>(U.bs b o e).1
 have O:∀y∈g.zip us,scope.names.lookup y.1=some .local\/(scope.names.lookup y.1=some .cell/\((cellsFrom (s.heap.objs.size+1) scope.names []).lookup y.1).isSome=true):=λ⟨n,v⟩ hy=>by
  rcases S.par n (List.of_mem_zip hy).1 with q|q
  .exact .inl q
  .exact .inr ⟨q,W.cellsFrom_some _ _ _<|.inl q⟩
 refine codeAny_call_function d.depth (KX _ _ lk) Y S.co S.gen Y (W.codeRec_of KX l) (hb _ _ _ _ ?_);refine wpAny_newFunctionEnv_cells S.kind O λJ2 he h x=>?_;subst he;refine⟨c.keeps x.toInCall.keep,codeAny_func ?_⟩;obtain⟨t,ht,hq⟩:=R A Z s H L Q E (d.deeper _) D;have I:Inv (Vf j P w K p base N qual scope f G A Z s H E) [] (start N L) H h:=FU S d.hd U hl r x;refine Zn (ht [] h (start N L) H _ I hq) (λfl z T=>?_) λe z T=>T
 have F:∀{X:St}{M:Hp}{v:V}{u:Value},Inv (Vf j P w K p base N qual scope f G A Z s H E) [] X M z->RelV v u->Q v M->CE Z P w H s Q u z:=
  λ{X M v u} J m q=>⟨v,M,J.os,J.bare,J.base,J.hok,m,q⟩
 cases fl with
 |ret u=>
  obtain⟨v,X,M,J,m,q⟩:=T;exact F J m q
 |next=>
  obtain⟨X,M,J,q⟩:=T;exact F (v:=V.non) (u:=Value.none) J Y q
 |brk=>
  obtain⟨_,_,_,q⟩:=T;exact False.elim q
 |cont=>
  obtain⟨_,_,_,q⟩:=T;exact False.elim q
end L2
namespace L2
open PySem PySem.Spec PyProof.Rows
section
variable{t:TA}{id T:String}{r:List V->Hp->VK->Prop}
def tCB(r:List V->Hp->VK->Prop)(t:TA):TE:=λU H Q=>t U H λZ J=>r Z J Q
def VA(S:Jt X (.builtin id) r)(A:Gl X x)(F:X.mg x=none)(D:bootBuiltins x=some (.builtin id))(C:PA X (e::J) t)(E:x≠"__name__":=by decide)(L:(x==("__debug__":Str))=false:=by decide)(he:starEach (e::J) X.env=(false,eval e X.env)::starEach J X.env:=by rfl)(G:(backTo pos<|starEach J X.env).any (·.1)=false:=by rfl):PE X (.Call (.Name x p) (e::J) [] pos) (tCB r t):=by
 intro Z s U H Q I h;refine jd<|Ue I A F D ?_ E L;exact PyProof.Rows.callWith_builtin1 (thn (C pos Z s U H _ I h) λN O ⟨M,j,P,R,B⟩=>S Z O U j M N Q P R B) he G
def VY(C:Jt X (.type T) r)(A:Gl X x)(F:X.mg x=none)(D:bootBuiltins x=some (.type T))(P:PA X (e::J) t)(E:x≠"__name__":=by decide)(L:(x==("__debug__":Str))=false:=by decide)(S:starEach (e::J) X.env=(false,eval e X.env)::starEach J X.env:=by rfl)(G:(backTo pos<|starEach J X.env).any (·.1)=false:=by rfl):PE X (.Call (.Name x p) (e::J) [] pos) (tCB r t):=by
 intro Z s U H Q I h;refine jd<|Ue I A F D ?_ E L;exact yz (thn (P pos Z s U H _ I h) λN O ⟨M,y,j,R,B⟩=>C Z O U y M N Q j R B) S G
end
end L2
namespace HT
open PySem PyProof.Rows
section
open PySem.SeqAt
open PySem.AutoSeq1 (wpAny_loadPart')
open PySem.MeetsSeq PySem.MeetsSeq2 PySem.MeetsSeq3
end
section
def cat_tup(X:IsTup s.heap t G.toArray)(P:IsTup s.heap b Z.toArray)(F:G≠[])(y:Z=[]->Q (.ref t) s)(j:Z≠[]->Q (.ref s.heap.objs.size) {s with heap:=s.heap.push {cls:=.type "tuple",data:=.seq (G++ Z).toArray}})(T:G.length+Z.length<=sizeLine):wpAny (model prog w) A (binaryOp .Add (.ref t)<|.ref b) Q E s:=by
 obtain⟨⟨B,U,data,sl⟩,R,S,n,I⟩:=id X;obtain⟨⟨C,O,data2,L⟩,J,N,D,M⟩:=id P;simp only at S I N M;subst S I N M;have e:G.toArray++ Z.toArray=(G++ Z).toArray:=by simp
 by_cases hw:Z=[]
 .exact concat_meets ⟨_,R,rfl⟩ ⟨_,J,rfl⟩ noFill_tuple_add seq_tuple_add jG jB (jz _ _)
   (tuple_addW1 t b G.toArray Z.toArray n D U O sl L (by simpa using F)<|by simp[hw]) ⟨R,J,y hw⟩
 .refine concat_meets ⟨_,R,rfl⟩ ⟨_,J,rfl⟩ noFill_tuple_add seq_tuple_add jG jB (jz _ _)
   (tuple_addW2 t b G.toArray Z.toArray n D U O sl L (by simpa using F) (by simpa using hw) (by rw[ZO,ZO];exact T)) ⟨R,J,?_⟩
  rw[e];exact j hw
def sIx(n d:Nat):Option Int->Nat
 |none=>d
 |some v=>if v<0 then(v+(n:Int)).toNat else min v.toNat n
def sIx_none(n d:Nat):sIx n d none=d:=rfl
def sIx_nat(n d k:Nat):sIx n d (some (k:Int))=min k n:=by
 show(if(k:Int)<0 then((k:Int)+(n:Int)).toNat else min (k:Int).toNat n)=min k n;rw[Zq (by omega),jt]
def SZ(n d:Nat)(Z:d<=n)(o:Option Int):sIx n d o<=n:=by
 cases o with
 |none=>exact Z
 |some v=>
  show(if v<0 then(v+(n:Int)).toNat else min v.toNat n)<=n
  by_cases hv:v<0
  .rw [Zp hv];omega
  .rw [Zq hv];exact Nat.min_le_right _ _
def En(v:Int)(n d:Nat):(if v<0 then max (v+(n:Int)) 0 else min v (n:Int))=((sIx n d (some v):Nat):Int):=by
 show(if v<0 then max (v+(n:Int)) 0 else min v (n:Int))=(((if v<0 then(v+(n:Int)).toNat else min v.toNat n):Nat):Int)
 by_cases hv:v<0
 .simp only[Zp hv];omega
 .simp only[Zq hv];omega
def Dw(Z J:Option Int)(n:Nat):Builtin.Slice.sliceAdjust Z J 1 (n:Int)=(((sIx n 0 Z:Nat):Int),((sIx n n J:Nat):Int)):=by
 have G:¬((1:Int)<0):=by omega
 unfold Builtin.Slice.sliceAdjust;simp only[G,if_false];refine Prod.ext ?_ ?_
 .cases Z with
  |none=>rfl
  |some v=>exact En v n 0
 .cases J with
  |none=>rfl
  |some v=>exact En v n n
def Bw(i j:Nat):Builtin.Slice.slicePlaces (i:Int) (j:Int) 1=j-i:=by
 unfold Builtin.Slice.slicePlaces;have Z:(1:Int) > 0:=by omega
 simp only[Z,if_true,Int.ediv_one]
 split <;> omega
def Gg(p:IsPart v o)(h:Q o s):wpAny (model prog w) A (Builtin.Slice.slicePartIndex v) Q E s:=by
 cases p with
 |none=>exact slicePart_none h
 |int i t=>exact slicePart_int h
def WD{Z G:Option Int}{n:Nat}(O:s.heap.IsSliceOf sl vl vu .none)(N:IsPart vl Z)(M:IsPart vu G)(h:Q (((sIx n 0 Z:Nat):Int),1,sIx n n G-sIx n 0 Z) s):wpAny (model prog w) A (Builtin.Slice.sliceApplied (.ref sl)<|pure (n:Int)) Q E s:=by
 obtain⟨T,J,R,L⟩:=id O;unfold Builtin.Slice.sliceApplied Builtin.Slice.sliceFields;refine Zl<|Zl<|Zo J L (x:=vl) rfl (Zl<|Zo J L (x:=vu) rfl (Zl<|Zo J L (x:=.none) rfl (Zm ?_)));refine Zl<|slicePart_none ?_;show wpAny _ _ (if((1:Int)==0)=true then _ else _) _ _ s;rw[Zq (by decide)];refine Zl<|Gg N<|Zl<|Gg M<|Zl<|Zm ?_;show wpAny _ _ (match Builtin.Slice.sliceAdjust Z G 1 (n:Int)with|(Z,G)=>pure (Z,(1:Int),Builtin.Slice.slicePlaces Z G 1)) _ _ s;rw[Dw Z G n];show wpAny _ _ (pure (((sIx n 0 Z:Nat):Int),(1:Int),Builtin.Slice.slicePlaces ((sIx n 0 Z:Nat):Int) ((sIx n n G:Nat):Int) 1)) _ _ s;rw[Bw];exact Zm h
def KP(Z:Array Value)(i k:Nat):((List.range k).filterMap λ(m:Nat)=>Z[((i:Int)+(m:Int)*1).toNat]?).toArray=((Z.toList.drop i).take k).toArray:=by
 have e:(λ(m:Nat)=>Z[((i:Int)+(m:Int)*1).toNat]?)=λm=>Z[i+m]?:=by
  funext m
  have:((i:Int)+(m:Int)*1).toNat=i+m:=by omega
  rw[this]
 rw[e];have:=pick_run Z i k;rw[List.filterMap_map]at this;have J:((λx=>Z[x]?) ∘ λx=>i+x)=λm=>Z[i+m]?:=rfl;rw[J]at this;rw[this]
def getItem_tuple_cut{J G:Option Int}(L:IsTup s.heap t items)(T:s.heap.IsSliceOf sl vl vu .none)(D:IsPart vl J)(B:IsPart vu G)(I:¬(sIx items.size 0 J=0/\sIx items.size items.size G=items.size))(h:Q (.ref s.heap.objs.size) {s with heap:=s.heap.push {cls:=.type "tuple",data:=.seq ((items.toList.drop<|sIx items.size 0 J).take<|sIx items.size items.size G-sIx items.size 0 J).toArray}})(S:items.size<=sizeLine):wpAny (model prog w) A (getItem (.ref t)<|.ref sl) Q E s:=by
 have Z:sizeOk (.seq ((items.toList.drop<|sIx items.size 0 J).take<|sIx items.size items.size G-sIx items.size 0 J).toArray):=by
  show((items.toList.drop<|sIx items.size 0 J).take<|sIx items.size items.size G-sIx items.size 0 J).toArray.size<=sizeLine;rw[ZO,ZN,vO,jU];omega
 have P:sIx items.size items.size G<=items.size:=SZ _ _ (ZG _) G;obtain⟨F,M,O,U⟩:=id T;have R:s.TypeIs (.ref sl) "slice":=⟨F,M,O⟩;unfold getItem
 try with_reducible refine wpAny_holding ?_
 first|refine Zl (Zm ?_)|skip
 refine Zl<|wpAny_sequenceKey L.typeIs (by decide) ?_;refine Zl (wpAny_callSpecial?_slot (name:=Str.ofString "__getitem__") L.typeIs qh
  (y0 qh L.typeIs entry_tuple_getitem ?_<|args_tuple_getitem _ _))
 show wpAny _ _ (Builtin.Tuple.tupleItemsOf (.ref t) >>=_) _ _ s;refine Zl<|tupleItemsOf_ L ?_;refine Zl<|jX R ?_;rw[Zp (by decide)];refine Zl<|WD T D B ?_
 have N:¬((((sIx items.size 0 J:Nat):Int)==0 && (1:Int)==1 && (sIx items.size items.size G-sIx items.size 0 J)==items.size)=true):=by
  intro q;rw[ZZ,ZZ]at q;have X:((sIx items.size 0 J:Nat):Int)=0:=eq_of_beq q.1.1;have C:sIx items.size items.size G-sIx items.size 0 J=items.size:=eq_of_beq q.2;exact I ⟨by omega,by omega⟩
 show wpAny _ _ (if(((sIx items.size 0 J:Nat):Int)==0 && (1:Int)==1 && (sIx items.size items.size G-sIx items.size 0 J)==items.size)=true then _ else _) _ _ s;rw[Zq N,KP]
 first
  |exact Zl (m:=Builtin.Tuple.tupleExact _)<|vD (Zm ⟨_,rfl,Zm h⟩) Z
  |exact Zl (m:=Builtin.Tuple.tupleExact _)<|vD (Zl<|Zm<|Zm ⟨_,rfl,Zm h⟩) Z
  |exact Zl<|Zl (m:=Builtin.Tuple.tupleExact _)<|vD (Zm<|Zm ⟨_,rfl,Zm h⟩) Z
  |exact Zl<|Zl (m:=Builtin.Tuple.tupleExact _)<|vD (Zm ⟨_,rfl,Zm h⟩) Z
end
end HT
namespace L2
open PySem PySem.Spec PyProof.Rows
abbrev TO:=St->Hp->(Option Int->Hp->Prop)->Prop
def PO(X:Cx)(e:Option Expr)(t:TO):Prop:=
 ∀(Z:ka)(s:Shared)(U:St)(H:Hp)(Q:Option Int->Hp->Prop),Inv X Z U H s->t U H Q->
  wpAny (model X.prog X.w) X.A (evalPart e X.env) (λu G=>∃o J,Inv X Z U J G/\IsPart u o/\Q o J) X.xe s
def OZ:TO:=λ_ H Q=>Q none H
def Ap(t:TE):TO:=λU H Q=>t U H λx Z=>∃i,x=.int i/\Q (some i) Z
section
variable{X:Cx}{te:TE}{lo hi:Option Expr}{tl th:TO}
def JO:PO X none OZ:=by
 intro Z s U H Q I h;rw[evalPart_none];exact Zm ⟨none,H,I,.none,h⟩
def JN(h:PE X e te):PO X (some e) (Ap te):=by
 intro Z s U H Q I L;rw[evalPart_some];refine thn (h Z s U H _ I L) λu O ⟨x,N,M,J,G⟩=>?_;obtain⟨i,rfl,q⟩:=G;obtain⟨t,rfl⟩:=J;exact⟨some i,N,M,.int i t,q⟩
def SlR(X:Cx)(r:V->Option Int->Option Int->Hp->VK->Prop):Prop:=
 ∀(Z:ka)(s:Shared)(U:St)(H:Hp)(x:V)(v G J:Value)(lo hi:kz)(sl:Addr)(Q:VK),Inv X Z U H s->RelV x v->s.heap.IsSliceOf sl G J .none->IsPart G lo->IsPart J hi->r x lo hi H Q->
  ∃T L,typeLookup (.type T) "__getitem__"=pure (some<|.builtin L)/\s.TypeIs v T/\wpAny (model X.prog X.w) X.A (getItem v<|.ref sl) (EP X Z U Q) X.xe s
def tSl(r:V->Option Int->Option Int->Hp->VK->Prop)(te:TE)(tl th:TO):TE:=λU H Q=>te U H λx G=>tl U G λl J=>th U J λu Z=>r x l u Z Q
def Vz(P:SlR X r)(z:PE X e te)(j:PO X lo tl)(S:PO X hi th):PE X (.Subscript e (.Slice lo hi none p2) pos) (tSl r te tl th):=by
 intro Z s U H Q I h;refine Subscript_<|thn (z Z s U H _ I h) λv O ⟨x,d,p,R,E⟩=>?_;refine wpAny_Slice<|thn (j Z O U d _ p E) λL N ⟨l,c,k,A,D⟩=>thn (S Z N U c _ k D) λG J ⟨u,M,g,F,B⟩=>?_;rw[evalPart_none];refine Zm ?_;have m:Inv X Z U M {J with heap:=J.heap.push {cls:=.type "slice",data:=.fields #[L,G,.none]}}:=g.kept (t':=J.toks) λb f q=>ZE _ q;obtain⟨T,w,t,C,y⟩:=P Z {J with heap:=J.heap.push {cls:=.type "slice",data:=.fields #[L,G,.none]}} U M x v L G l u J.heap.objs.size Q m R (Heap.IsSliceOf.new ..) A F B;show wpAny (model X.prog X.w) X.A (subscriptTail e (.Slice lo hi none p2) v<|.ref J.heap.objs.size) (EP X Z U Q) X.xe {J with heap:=J.heap.push {cls:=.type "slice",data:=.fields #[L,G,.none]}};exact tail_any (ops:=[.ref J.heap.objs.size,v]) C t y<|by with_unfolding_all rfl
def Uq(xs:kH)(lo hi:kz):kH:=(xs.drop<|HT.sIx xs.length 0 lo).take<|HT.sIx xs.length xs.length hi-HT.sIx xs.length 0 lo
def Wv(Z:kH)(lo hi:kz):(Uq Z lo hi).length<=Z.length:=by
 unfold Uq;rw[ZN,vO];omega
def zq(K:W.Frag):V->Option Int->Option Int->Hp->VK->Prop:=λx lo hi H Q=>∃a Z,x=.ref a/\SqT K H a Z/\
 ¬(HT.sIx Z.length 0 lo=0/\HT.sIx Z.length Z.length hi=Z.length)/\∀p,H p=none->Q (.ref p) (upd H p<|.tup<|Uq Z lo hi)
def Id:SlR X (zq X.K):=by
 intro L s U H x v A F lo hi sl Q I O E T R h;obtain⟨a,J,rfl,B,D,q⟩:=h;cases O;obtain⟨G,r,N,M⟩:=I.tuple B;have Z:G.toArray.size=J.length:=by rw[ZO];exact r.length.symm
 exists "tuple",_,PyProof.Rows.slot_tuple_getitem.lookup,N.typeIs;refine HT.getItem_tuple_cut N E T R (by rw[Z];exact D) ?_ (by rw[Z];exact M);rw[Z];refine⟨.ref s.heap.objs.size,_,I.laid (t':=s.toks) (o:=.tup<|Uq J lo hi) (λb S q=>ZE _ q) (ZG _) ?_,rfl,q _<|I.hok.fresh<|ZG _⟩;exact⟨Zb (Wv J lo hi) M,_,(r.drop<|HT.sIx J.length 0 lo).take<|HT.sIx J.length J.length hi-HT.sIx J.length 0 lo,Wx.new _ _⟩
def UN(K:W.Frag):R2:=λx y H Q=>∃a b J Z,x=.ref a/\y=.ref b/\SqT K H a J/\SqT K H b Z/\J≠[]/\J.length+Z.length<=sizeLine/\
 (Z=[]->Q (.ref a) H)/\(Z≠[]->∀p,H p=none->Q (.ref p) (upd H p<|.tup<|J++ Z))
def Vals.nil_iff(r:Vals Z J):J=[]↔Z=[]:=by
 cases r with
 |nil=>simp
 |cons _ _=>simp
def MY:OpR X (binaryOp .Add) (UN X.K):=by
 intro G s U H x y v u Q I T R h;obtain⟨a,b,O,N,rfl,rfl,P,C,S,M,D,B⟩:=h;cases T;cases R;obtain⟨A,J,F,_⟩:=I.tuple P;obtain⟨L,Z,E,_⟩:=I.tuple C;refine HT.cat_tup F E (λz=>S<|J.nil_iff.mp z) (λz=>⟨.ref a,H,I,rfl,D<|Z.nil_iff.mp z⟩) (λz=>?_) (by rw[<-J.length,<-Z.length];exact M);refine⟨.ref s.heap.objs.size,_,I.laid (t':=s.toks) (o:=.tup<|O++ N) (λb j q=>ZE _ q) (ZG _) ?_,rfl,B (λw=>z<|Z.nil_iff.mpr w) _<|I.hok.fresh<|ZG _⟩;exact⟨by rw[ZL];exact M,_,J.append Z,Wx.new _ _⟩
end
def ixN(n:Nat)(i:Int):Option Nat:=if 0<=i then(if i<n then some i.toNat else none)else if -(n:Int)<=i then some (i+n).toNat else none
def atI{α:Type}(xs:List α)(i:Int):Option α:=(ixN xs.length i).bind λj=>xs[j]?
def EW(h:ixN n i=some j):seqIndex? i n=some j/\j<n/\ -(n:Int)<=i/\i<n:=by
 unfold ixN at h
 by_cases h0:0<=i
 .rw [Zp h0]at h
  by_cases h1:i<n
  .rw [Zp h1]at h
   have e:i.toNat=j:=ZT h;exact⟨by rw[seqIndex_of h0 h1,e],by omega,by omega,h1⟩
  .rw [Zq h1]at h;cases h
 .rw [Zq h0]at h
  by_cases h1: -(n:Int)<=i
  .rw [Zp h1]at h
   have e:(i+n).toNat=j:=ZT h;exact⟨by rw[seqIndex_neg (by omega) h1,e],by omega,h1,by omega⟩
  .rw [Zq h1]at h;cases h
def Mv(h:atI Z i=some v):∃j,seqIndex? i Z.length=some j/\Z[j]?=some v/\j<Z.length/\ -(Z.length:Int)<=i/\i<Z.length:=by
 unfold atI at h
 cases e:ixN Z.length i with
 |none=>rw[e]at h;cases h
 |some j=>
  rw[e]at h;obtain⟨M,L,G,J⟩:=EW e;exact⟨j,M,h,L,G,J⟩
def VG{Z:List α}{j:Nat}{v:α}(h:Z[j]?=some v):atI Z (j:Int)=some v:=by
 have J:j<Z.length:=(ZF.mp h).1
 have e:ixN Z.length (j:Int)=some j:=by
  unfold ixN;rw[Zp (by omega),Zp (by omega)];simp
 unfold atI;rw[e];exact h
def UX(Z:List α)(v:α):atI (Z++[v]) (-1)=some v:=by
 have J:(Z++[v]).length=Z.length+1:=by simp
 have e:ixN (Z++[v]).length (-1)=some Z.length:=by
  unfold ixN;rw[J,Zq<|by decide,Zp (by omega)]
  congr 1
  omega
 unfold atI;rw[e];show(Z++[v])[Z.length]?=some v;simp
def QG(b:Expr):Prop:=∀o i,subscripted b false o i=operate [o,i] (getItem o i)
def IxR(X:Cx)(r:R2):Prop:=
 ∀(value slice:Expr)(Z:ka)(s:Shared)(U:St)(H:Hp)(x y:V)(v u:Value)(Q:VK),Inv X Z U H s->RelV x v->RelV y u->r x y H Q->
  subscripted slice false v u=operate [v,u] (getItem v u)->wpAny (model X.prog X.w) X.A (subscriptTail value slice v u) (EP X Z U Q) X.xe s
def MtR(X:Cx)(id:String)(r:V->List V->Hp->VK->Prop):Prop:=
 ∀(Z:ka)(s:Shared)(U:St)(H:Hp)(x:V)(J:kH)(v:Value)(G:kq)(Q:VK),Inv X Z U H s->RelV x v->Vals J G->r x J H Q->
  wpAny (model X.prog X.w) X.A (call (.builtin id) (v::G)) (EP X Z U Q) X.xe s
section
variable{a b:Expr}{ta tb:TE}
def Yo(N:IxR X r)(R:PE X a ta)(O:PE X b tb)(M:QG b:=by exact λ_ _=>Y):PE X (.Subscript a b pos) (tOp r ta tb):=by
 intro Z s U H Q I h;exact Subscript_<|Ad R O I h λv u J x y B T L G q=>N a b Z J U B x y v u Q T L G q<|M _ _
def Ow(K:W.Frag):R2:=λx y H Q=>V6 x λp=>UU y λi=>∃Z v,SqL K H p Z/\atI Z i=some v/\Q v H
def Ow.old{K:W.Frag}(h:Ow K x y H Q):∃p Z i v,x=.ref p/\y=.int i/\SqL K H p Z/\atI Z i=some v/\Q v H:=by
 replace h:=V6.old h;obtain⟨p,e,h⟩:=h;replace h:=UU.old h;obtain⟨i,J,Z,v,h⟩:=h;exact⟨p,Z,i,v,e,J,h⟩
def Vb(K:W.Frag):R2:=λx y H Q=>V6 x λp=>UU y λi=>∃Z v,SqT K H p Z/\atI Z i=some v/\Q v H
def Vb.old{K:W.Frag}(h:Vb K x y H Q):∃p Z i v,x=.ref p/\y=.int i/\SqT K H p Z/\atI Z i=some v/\Q v H:=by
 replace h:=V6.old h;obtain⟨p,e,h⟩:=h;replace h:=UU.old h;obtain⟨i,J,Z,v,h⟩:=h;exact⟨p,Z,i,v,e,J,h⟩
def A7:R2:=λx y H Q=>∃z i c,x=.str z/\y=.int i/\z.length<=sizeLine/\atI z.cps.toList i=some c/\Q (.str ⟨#[c]⟩) H
def VB:IxR X (Ow X.K):=by
 intro value slice Z s U H x y v u Q I D B h O;replace h:=Ow.old h;obtain⟨p,m,i,z,rfl,rfl,E,A,q⟩:=h;cases D;obtain⟨t,rfl⟩:=B;obtain⟨N,r,M,g⟩:=I.list E;obtain⟨j,G,P,c,C,S⟩:=Mv A;obtain⟨w,R,L⟩:=r.get P;have F:=r.length;have k:=WY;have J:EP X Z U Q w s:=⟨z,H,I,L,q⟩
 by_cases h0:0<=i
 .have hj:i.toNat=j:=by
   rw[seqIndex_of h0 S]at G;exact ZT G
  exact item_listR M.isList h0 (by omega) (by rw[hj];simpa using R) J O
 .have hj:(i+(N.toArray.size:Int)).toNat=j:=by
   rw[seqIndex_neg (by omega) C]at G;rw[ZO,<-F];exact ZT G
  exact subscriptTail_builtinR (x:=w) M.isList.typeIs slot_list_getitem.lookup
   (wpAny_getItem_list_neg (Q:=λr T=>r=w/\EP X Z U Q r T) M.isList (by omega) (by rw[ZO] <;> omega) (by omega) (by rw[hj];simpa using R) ⟨rfl,J⟩) O
def Yt:IxR X (Vb X.K):=by
 intro value slice Z s U H x y v u Q I O N h T;replace h:=Vb.old h;obtain⟨p,C,i,z,rfl,rfl,B,E,q⟩:=h;cases O;obtain⟨t,rfl⟩:=N;obtain⟨R,r,L,P⟩:=I.tuple B;obtain⟨j,A,F,c,k,g⟩:=Mv E;obtain⟨w,S,J⟩:=r.get F;have D:=r.length;have m:=WY;have G:EP X Z U Q w s:=⟨z,H,I,J,q⟩;exact subscriptTail_builtinR (x:=w) L.typeIs slot_tuple_getitem.lookup
  (getItem_tuple (j:=j) (Q:=λr M=>r=w/\EP X Z U Q r M) L (by omega) (by omega) (by rw[ZO,<-D];exact A) (by simpa using S) ⟨rfl,G⟩) T
def DX:IxR X A7:=by
 intro value slice Z s U H x y v u Q I L G h M;obtain⟨z,i,c,rfl,rfl,A,O,q⟩:=h;obtain⟨t,rfl⟩:=L;obtain⟨F,rfl⟩:=G;obtain⟨j,J,B,C,T,R⟩:=Mv O;have N:z.cps.toList.length=z.length:=by simp[Str.length]
 rw[N]at J T R;have S:=WY
 exact tail_any (typeIs_str s z t) slot_str_getitem.lookup (getItem_str (c:=c) (by
  have E:decide (i < -(2 ^ 63:Int))=false:=Zy (by omega);have D:decide (i ≥ 2 ^ 63)=false:=Zy (by omega);rw[E,D,Bool.or_false]) (by rw[J];simpa using B) ⟨.str ⟨#[c]⟩,H,I.tok _,⟨_,rfl⟩,q⟩) M
def DH(Z:kq)(n j:Nat)(u:Value):Obj.mapSeq (·.setIfInBounds j u) {cls:=.type "list",data:=.seq Z.toArray n}={cls:=.type "list",data:=.seq (Z.set j u).toArray n}:=by
 simp[Obj.mapSeq]
def Inv.lst(I:Inv X G U H s)(h:H p=some (.lst J)):
  ∃(Z:kq)(n:Nat),Vals J Z/\s.heap.get? p=some {cls:=.type "list",data:=.seq Z.toArray n}/\J.length<=sizeLine:=by
 obtain⟨z,Z,n,r,e⟩:=I.hok p _ h;exact⟨Z,n,r,e,z⟩
def Inv.lstUpd{G Z:kq}(I:Inv X J U H s)(h:H p=some (.lst T))(O:s.heap.get? p=some {cls:=.type "list",data:=.seq G.toArray n})(M:f {cls:=.type "list",data:=.seq G.toArray n}={cls:=.type "list",data:=.seq Z.toArray n'})(r:Vals L Z)(N:L.length<=sizeLine)(t:Nat):
  Inv X J U (upd H p<|.lst L) {s with heap:=s.heap.update p f,toks:=t}:=by
 have e:(s.heap.update p f).get? p=some {cls:=.type "list",data:=.seq Z.toArray n'}:=by
  rw[Heap.get?_update_self f O (by rw[M] <;> rfl),M]
 refine I.write (x:=p) (e:=p) (by rw[h];trivial) (.inl Y) (λb u R q=>(Heap.get?_update_other _ _<|Zs R).trans q) ⟨_,e⟩ ?_;exact⟨N,Z,n',r,e⟩
def A6:V->V->V->Hp->(Hp->Prop)->Prop:=λo i v H Q=>∃p Z k j,o=.ref p/\i=.int k/\H p=some (.lst Z)/\ixN Z.length k=some j/\Q (upd H p<|.lst<|Z.set j v)
def set_list:zM X A6:=by
 intro Z s U H o i v C P u Q I E F D h;obtain⟨p,B,k,j,rfl,rfl,N,S,q⟩:=h;cases E;obtain⟨t,rfl⟩:=F;obtain⟨J,n,r,L,A⟩:=I.lst N;obtain⟨G,z,R,O⟩:=EW S;have M:=r.length;have y:=WY
 have T:Inv X Z U (upd H p<|.lst<|B.set j v) {s with heap:=s.heap.update p (Obj.mapSeq (·.setIfInBounds j u))}:=
  I.lstUpd N L (DH J n j u) (r.set D j) (by rw[List.length_set];exact A) s.toks
 by_cases h0:0<=k
 .have hk:k.toNat=j:=by
   rw[seqIndex_of h0 O]at G;exact ZT G
  exact W.ki_setAt L h0 (by omega) (by rw[ZO,<-M];exact O) (by rw[hk];exact⟨_,T,q⟩)
 .have hk:(k+(J.toArray.size:Int)).toNat=j:=by
   rw[seqIndex_neg (by omega) R]at G;rw[ZO,<-M];exact ZT G
  exact W.ki_setBack L (by omega) (by rw[ZO,<-M];exact R) (by omega) (by rw[hk];exact⟨_,T,q⟩)
def MD(Z J:kz)(n:Nat):(sliceBounds Z J none n).1=((HT.sIx n 0 Z:Nat):Int)/\(sliceBounds Z J none n).2.1=((HT.sIx n n J:Nat):Int)/\(sliceBounds Z J none n).2.2=1:=by
 refine⟨?_,?_,Y⟩
 .cases Z with
  |none=>simp[sliceBounds,HT.sIx]
  |some i=>
   simp only[sliceBounds,HT.sIx,Option.getD_none,show(1:Int) > 0 by decide,if_true]
   by_cases h:i<0
   .simp only[h,if_true] <;> omega
   .simp only[h,if_false] <;> omega
 .cases J with
  |none=>simp[sliceBounds,HT.sIx]
  |some i=>
   simp only[sliceBounds,HT.sIx,Option.getD_none,show(1:Int) > 0 by decide,if_true]
   by_cases h:i<0
   .simp only[h,if_true] <;> omega
   .simp only[h,if_false] <;> omega
def Tr(Z:kq)(J G:kz):slicePick Z.toArray J G none=((Z.drop<|HT.sIx Z.length 0 J).take<|HT.sIx Z.length Z.length G-HT.sIx Z.length 0 J).toArray:=by
 obtain⟨N,M,L⟩:=MD J G Z.toArray.size;unfold slicePick;rw[N,M,L];simp only[sliceRange_one,pick_run,ZO] <;> rfl
def zu(K:W.Frag):V->Option Int->Option Int->Hp->VK->Prop:=λx J G H Q=>∃a Z,x=.ref a/\SqL K H a Z/\∀p,H p=none->Q (.ref p) (upd H p<|.lst<|Uq Z J G)
def Xg:SlR X (zu X.K):=by
 intro M s U H x v S A G L sl Q I O F T R h;obtain⟨a,Z,rfl,E,q⟩:=h;cases O;obtain⟨B,r,N,D⟩:=I.list E;have J:=r.length;exists "list",_,slot_list_getitem.lookup,N.isList.typeIs;refine wpAny_getItem_list_slice N.isList F T R .none (by simp) ?_ (by rw[ZO] <;> omega);rw[Tr,<-J];refine⟨.ref s.heap.objs.size,_,I.laid (t':=s.toks) (o:=.lst<|Uq Z G L) (λb C q=>ZE _ q) (ZG _) ?_,rfl,q _<|I.hok.fresh<|ZG _⟩;exact⟨Zb (Wv Z G L) D,_,0,(r.drop<|HT.sIx Z.length 0 G).take<|HT.sIx Z.length Z.length L-HT.sIx Z.length 0 G,ZY _ rfl⟩
def UD:V->Bool
 |.non=>true
 |.bl _=>true
 |.int _=>true
 |.str _=>true
 |_=>false
def eqV:V->V->Bool
 |.non,.non=>true
 |.bl a,.bl b=>a==b
 |.bl a,.int b=>(if a then 1 else 0)==b
 |.int a,.bl b=>a==(if b then 1 else 0)
 |.int a,.int b=>a==b
 |.str a,.str b=>a==b
 |_,_=>false
def AY(G:RelV y u)(Z:RelV x v)(M:UD y=true)(L:UD x=true):SeqAt.EqAt A s u v (eqV y x):=by
 cases y with
 |non=>
  cases G
  cases x with
  |non=>cases Z;exact SeqAt.EqAt.same _
  |bl b=>cases Z;exact SeqAt.EqAt.none_bool b
  |int b=>obtain⟨t,rfl⟩:=Z;exact SeqAt.EqAt.none_int b t
  |str b=>obtain⟨t,rfl⟩:=Z;exact SeqAt.EqAt.none_str b t
  |_=>exact Zr (show false=true from L) Zi
 |bl a=>
  cases G
  cases x with
  |non=>cases Z;exact SeqAt.EqAt.bool_none a
  |bl b=>cases Z;exact SeqAt.EqAt.bool_bool a b
  |int b=>obtain⟨t,rfl⟩:=Z;exact SeqAt.EqAt.bool_int a b t
  |str b=>obtain⟨t,rfl⟩:=Z;exact SeqAt.EqAt.bool_str a b t
  |_=>exact Zr (show false=true from L) Zi
 |int a=>
  obtain⟨J,rfl⟩:=G
  cases x with
  |non=>cases Z;exact SeqAt.EqAt.int_none a J
  |bl b=>cases Z;exact SeqAt.EqAt.int_bool a J b
  |int b=>obtain⟨t,rfl⟩:=Z;exact SeqAt.EqAt.int_int a J b t
  |str b=>obtain⟨t,rfl⟩:=Z;exact SeqAt.EqAt.int_str a J b t
  |_=>exact Zr (show false=true from L) Zi
 |str a=>
  obtain⟨J,rfl⟩:=G
  cases x with
  |non=>cases Z;exact SeqAt.EqAt.str_none a J
  |bl b=>cases Z;exact SeqAt.EqAt.str_bool a J b
  |int b=>obtain⟨t,rfl⟩:=Z;exact SeqAt.EqAt.str_int a J b t
  |str b=>obtain⟨t,rfl⟩:=Z;exact SeqAt.EqAt.str_str a J b t
  |_=>exact Zr (show false=true from L) Zi
 |_=>exact Zr (show false=true from M) Zi
def eqU(x:V)(u:Value):Bool:=match u with
 |.none=>eqV .non x
 |.bool b=>eqV (.bl b) x
 |.int i _=>eqV (.int i) x
 |.str z _=>eqV (.str z) x
 |_=>false
def Dj(r:RelV y u)(f:UD y=true):eqU x u=eqV y x:=by
 cases y with
 |non=>cases r;rfl
 |bl b=>cases r;rfl
 |int i=>obtain⟨t,rfl⟩:=r;rfl
 |str z=>obtain⟨t,rfl⟩:=r;rfl
 |_=>exact Zr (show false=true from f) Zi
theorem X4:∀{Z:kH}{J:kq},Vals Z J->Z.all UD=true->J.any (eqU x)=Z.any λy=>eqV y x
 |_,_,.nil,_=>rfl
 |y::Z,u::J,.cons r t,f=>by
  rw[jZ,ZZ]at f;rw[jA,jA,Dj r f.1,X4 t f.2]
theorem US(L:RelV x v)(M:UD x=true):∀{J:kH}{G:kq},Vals J G->J.all UD=true->∀u∈G,SeqAt.EqAt A s u v<|eqU x u
 |_,_,.nil,_=>λu Z=>by cases Z
 |y::J,u::G,.cons r t,f=>λN Z=>by
  rw[jZ,ZZ]at f;rcases Zd.mp Z with rfl|Z
  .rw [Dj r f.1];exact AY r L f.1 M
  .exact US L M t f.2 N Z
def inV(x:V)(xs:kH):Bool:=xs.any λy=>eqV y x
def rIn(K:W.Frag)(neg:Bool):R2:=λx y H Q=>∃p Z,y=.ref p/\(SqL K H p Z\/SqT K H p Z)/\UD x=true/\Z.all UD=true/\Q (.bl<|if neg then !inV x Z else inV x Z) H
def U9:OpR X (compareOp .In) (rIn X.K false):=by
 intro M s U H x y v u Q I L O h;obtain⟨p,R,rfl,Z,N,J,q⟩:=h;cases O;rcases Z with Z|Z
 .obtain ⟨its,r,pl,hz⟩:=I.list Z
  refine SeqAt.in_listAt (eqU x) pl.isList (λw G=>US L N r J w<|by simpa using G) ⟨.bl _,H,I,rfl,?_⟩;rw[show its.toArray.any (eqU x)=its.any (eqU x) by simp,X4 r J];exact q
 .obtain ⟨its,r,pl,hz⟩:=I.tuple Z
  refine SeqAt.in_tupleAt (eqU x) pl (λw G=>US L N r J w<|by simpa using G) ⟨.bl _,H,I,rfl,?_⟩;rw[show its.toArray.any (eqU x)=its.any (eqU x) by simp,X4 r J];exact q
def Ju:OpR X (compareOp .NotIn) (rIn X.K true):=by
 intro M s U H x y v u Q I L O h;obtain⟨p,R,rfl,Z,N,J,q⟩:=h;cases O;rcases Z with Z|Z
 .obtain ⟨its,r,pl,hz⟩:=I.list Z
  refine SeqAt.notIn_listAt (eqU x) pl.isList (λw G=>US L N r J w<|by simpa using G) ⟨.bl _,H,I,rfl,?_⟩;rw[show its.toArray.any (eqU x)=its.any (eqU x) by simp,X4 r J];exact q
 .obtain ⟨its,r,pl,hz⟩:=I.tuple Z
  refine SeqAt.notIn_tupleAt (eqU x) pl (λw G=>US L N r J w<|by simpa using G) ⟨.bl _,H,I,rfl,?_⟩;rw[show its.toArray.any (eqU x)=its.any (eqU x) by simp,X4 r J];exact q
def Y7:Jt X (.builtin "len") (λL H Q=>∃p J,L=[.ref p]/\(SqL X.K H p J\/SqT X.K H p J)/\Q (.int J.length) H):=by
 intro M s U H L O Q I r h;obtain⟨p,J,rfl,G,q⟩:=h;obtain⟨u,rfl,N⟩:=vals1 r;cases N;have R:=WY;rcases G with G|G
 .obtain ⟨its,r',pl,hz⟩:=I.list G
  have Z:=r'.length;exact Calls.call_len_list pl.isList (by simp only[ZO] <;> omega) ⟨.int J.length,H,I.tok _,⟨s.toks+1,by rw[ZO,Z]⟩,q⟩
 .obtain ⟨its,r',pl,hz⟩:=I.tuple G
  have Z:=r'.length;exact len_tuple pl (by simp only[ZO] <;> omega) ⟨.int J.length,H,I.tok _,⟨s.toks+1,by rw[ZO,Z]⟩,q⟩
def Ms:Jt X (.builtin "len") (λZ H Q=>∃z,Z=[.str z]/\z.length<=sizeLine/\Q (.int z.length) H):=by
 intro J s U H Z G Q I r h;obtain⟨z,rfl,L,q⟩:=h;obtain⟨u,rfl,t,rfl⟩:=vals1 r;have M:=WY;exact len_str (by omega) ⟨.int z.length,H,I.tok _,⟨_,Y⟩,q⟩
def Uj:Jt X (.type "list") (λS H Q=>∃p G,S=[.ref p]/\(SqL X.K H p G\/SqT X.K H p G)/\∀l,H l=none->Q (.ref l) (upd H l<|.lst G)):=by
 intro N s U H S j Q I r h;obtain⟨p,G,rfl,T,q⟩:=h;obtain⟨u,rfl,P⟩:=vals1 r;cases P;have D:∀(Z:kq),Vals G Z->G.length<=sizeLine->∀(J:Heap)(M:Nat),(∀b C,s.heap.get? b=some C->J.get? b=some C)->
   J.get? s.heap.objs.size=some {cls:=.type "list",dict:=none,data:=.seq Z.toArray M,slots:= #[]}->EP X N U Q (.ref s.heap.objs.size) {s with heap:=J}:=λZ L R J M O e=>
  ⟨.ref s.heap.objs.size,_,I.laid (t':=s.toks) O (ZG _) (show VL X.prog X.w _ J _ (.lst G)from⟨R,Z,M,L,e⟩),rfl,q _<|I.hok.fresh<|ZG _⟩
 rcases T with T|T
 .obtain ⟨Z,L,pl,R⟩:=I.list T
  have B:=L.length;obtain⟨o,E,A,n,F⟩:=pl.isList;exact call_list_seq p (.inl Y) E A F (λJ M O e=>D Z L R J M O e) (by simp only[ZO] <;> omega)
 .obtain ⟨Z,L,pl,R⟩:=I.tuple T
  have B:=L.length;obtain⟨o,E,A,n,F⟩:=pl;exact call_list_seq p (.inr Y) E A F (λJ M O e=>D Z L R J M O e) (by simp only[ZO] <;> omega)
def JL:Jt X (.type "tuple") (λM H Q=>∃p J,M=[.ref p]/\((SqL X.K H p J/\∀l,H l=none->Q (.ref l) (upd H l<|.tup J))\/(SqT X.K H p J/\Q (.ref p) H))):=by
 intro Z s U H M D Q I r h;obtain⟨p,J,rfl,h⟩:=h;obtain⟨u,rfl,R⟩:=vals1 r;cases R;rcases h with⟨L,q⟩|⟨L,q⟩
 .obtain ⟨its,r',pl,hz⟩:=I.list L
  have N:=r'.length;refine call_tuple_list pl.isList (λG T=>?_) (by simp only[ZO] <;> omega);have O:Inv X Z U H {s with heap:=G}:=I.kept (t':=s.toks) T
  have B:Inv X Z U (upd H G.objs.size<|.tup J) {s with heap:=G.push {cls:=.type "tuple",data:=.seq its.toArray}}:=
   O.laid (t':=s.toks) (λb o e=>ZE _ e) (ZG _) (show VL X.prog X.w _ _ _ (.tup J)from⟨hz,its,r',Wx.new _ _⟩)
  exact⟨.ref G.objs.size,_,B,Y,q _<|O.hok.fresh<|ZG _⟩
 .obtain ⟨its,r',pl,hz⟩:=I.tuple L
  exact call_tuple_same pl ⟨.ref p,H,I,Y,q⟩
def tyV(K:W.Frag)(T:String)(x:V)(H:Hp):Prop:=match x with
 |.str _=>T="str"
 |.int _=>T="int"
 |.ref p=>(T="list" /\∃xs,SqL K H p xs)\/(T="tuple" /\∃o,K.lookup p=some o/\o.cls=.type "tuple" /\o.dict=none) \/
   (T="dict" /\((∃kvs,H p=some (.dK kvs)) \/ ∃kvs,H p=some (.dT kvs)))\/(T="set" /\∃S n,H p=some (.set S n))
 |_=>False
def IK(I:Inv X N U H s)(r:RelV x v)(ty:tyV X.K T x H):
  s.TypeIs v T/\∀a,v=.ref a->∃O,s.heap.get? a=some O/\O.dict=none:=by
 cases x with
 |str z=>
  obtain⟨t,rfl⟩:=r;cases(show T="str" from ty);exact⟨typeIs_str s z t,λ_ e=>nomatch e⟩
 |int i=>
  obtain⟨t,rfl⟩:=r;cases(show T="int" from ty);exact⟨typeIs_int s i t,λ_ e=>nomatch e⟩
 |ref p=>
  cases r;rcases ty with⟨rfl,D,R⟩|⟨rfl,o,Z,B,L⟩|⟨rfl,Z⟩|⟨rfl,S,n,Z⟩
  .obtain ⟨its,_,pl,_⟩:=I.list R
   refine⟨pl.isList.typeIs,λa e=>?_⟩;cases e;obtain⟨o,n,e,c,L,_⟩:=pl;exact⟨o,e,L⟩
  .refine ⟨⟨o,I.kIn p o Z,B⟩,λa e=>?_⟩
   cases e;exact⟨o,I.kIn _ o Z,L⟩
  .have z:∃o,s.heap.get? p=some o/\o.ExactDict:=by
    rcases Z with⟨G,Z⟩|⟨G,Z⟩
    .obtain ⟨_,_,_,_,o,_,_,e,J,_⟩:=I.hok p _ Z
     exact⟨o,e,J⟩
    .obtain ⟨_,_,_,_,o,_,_,e,J,_⟩:=I.hok p _ Z
     exact⟨o,e,J⟩
   obtain⟨o,e,J⟩:=z;refine⟨⟨o,e,J.1⟩,λa M=>?_⟩;cases M;exact⟨o,e,J.2.1⟩
  .obtain ⟨o,_,_,_,e,J,_⟩:=I.hok p _ Z
   refine⟨⟨o,e,J.1⟩,λa M=>?_⟩;cases M;exact⟨o,e,J.2.1⟩
 |_=>exact False.elim ty
def zV(K:W.Frag)(T:String)(r:V->List V->Hp->VK->Prop)(to:TE):TE:=λU H Q=>to U H λx Z=>tyV K T x Z/\r x [] Z Q
def tBM(K:W.Frag)(T:String)(r:V->List V->Hp->VK->Prop)(to:TE)(t:TA):TE:=λU H Q=>to U H λx Z=>tyV K T x Z/\t U Z λJ G=>r x J G Q
variable{T id:String}
def Ka(B:PlainAttrs T)(slot:Slot T name id)(L:typeOf (.builtin id)=pure (.type "method_descriptor"))(E:MtR X id r)(D:PE X o to)(G:attributeBase o name X.env (eval o X.env)=eval o X.env:=by rfl)(J:(apos.endLine==cpos.line)=true:=by rfl):PE X (.Call (.Attribute o name apos) [] [] cpos) (zV X.K T r to):=by
 intro Z s U H Q I h;refine wpAny_Call_method0_late G J<|thn (D Z s U H _ I h) λv O ⟨x,S,N,M,ty,R⟩=>?_;obtain⟨A,F⟩:=IK N M ty;exact⟨T,id,B,slot,L,A,F,Calls.callWith_builtin Y (PySem.evalArgs_none<|E Z O U S x [] v [] Q N M .nil R)⟩
def J1(y:PlainAttrs T)(slot:Slot T name id)(O:typeOf (.builtin id)=pure (.type "method_descriptor"))(m:MtR X id r)(q:PE X o to)(g:PA X (e::M) t)(L:attributeBase o name X.env (eval o X.env)=eval o X.env:=by rfl)(N:((backTo cpos<|starEach (e::M) X.env).all (λx=>!x.1) && (backToKw cpos<|keywordEach [] X.env).all (λx=>x.1.isSome)
   && decide ((e::M).length+([]:List Keyword).length+(if([]:List Keyword).isEmpty then 0 else 1)<30))=true:=by rfl)(G:(apos.endLine==cpos.line)=true:=by rfl)(z:starEach (e::M) X.env=(false,eval e X.env)::starEach M X.env:=by rfl)(J:(backTo cpos<|starEach M X.env).any (·.1)=false:=by rfl):
  PE X (.Call (.Attribute o name apos) (e::M) [] cpos) (tBM X.K T r to t):=by
 intro Z s U H Q I h;refine wpAny_Call_method_late L N G Y (thn (q Z s U H _ I h) λv S ⟨x,f,D,R,ty,j⟩=>?_);obtain⟨p,k⟩:=IK D R ty;exists T,id,y,slot,O,p,k;have B:=g cpos Z S U f _ D j;rw[z]at B |-;refine Calls.callWith_builtin (by show(false || (backTo cpos<|starEach M X.env).any (·.1))=false;rw[J] <;> rfl)<|Calls.evalArgs_plain ?_;exact thn B λF A ⟨E,d,c,C,P⟩=>m Z A U d x E v F Q c R C P
end
def MtM(X:Cx)(id:String)(r:V->List V->Hp->VK->Prop):Prop:=
 ∀(Z:ka)(s:Shared)(U:St)(H:Hp)(x:V)(J:kH)(v:Value)(G:kq)(Q:VK),Inv X Z U H s->RelV x v->Vals J G->r x J H Q->
  wpAny (model X.prog X.w) X.A (call (.builtin id) (v::G)) (EP X Z U Q) X.xe s
theorem Vals.one:∀{x:V}{Z:kq},Vals [x] Z->∃u,Z=[u]/\RelV x u
 |_,_,.cons r .nil=>⟨_,rfl,r⟩
theorem Vals.zero:∀{Z:kq},Vals [] Z->Z=[]
 |_,.nil=>rfl
def Vals.dropLast(h:Vals Z J):Vals Z.dropLast J.dropLast:=by
 induction h with
 |nil=>exact .nil
 |cons r t ih=>
  cases t with
  |nil=>exact .nil
  |cons q G=>exact .cons r ih
theorem Vals.rep(h:Vals Z J):∀k:Nat,Vals (List.replicate k Z).flatten (List.replicate k J).flatten
 |0=>.nil
 |k+1=>by
  rw[vz,vz,ju,ju];exact Vals.append h<|Vals.rep h k
def Di(l:List α):l.eraseIdx (l.length-1)=l.dropLast:=by
 induction l with
 |nil=>rfl
 |cons a r ih=>
  cases r with
  |nil=>rfl
  |cons b r=>
   have e:(a::b::r).length-1=((b::r).length-1)+1:=by
    have J:(a::b::r).length=r.length+2:=rfl;have Z:(b::r).length=r.length+1:=rfl;omega
   rw[e,List.eraseIdx_cons_succ,ih]
   all_goals rfl
theorem foldl_rep(Z:kq):∀(k:Nat)(J:kq),
  List.foldl (λL G=>L++ G) J.toArray (List.replicate k Z.toArray)=(J++ (List.replicate k Z).flatten).toArray
 |0,J=>by simp
 |k+1,J=>by
  have e:J.toArray++ Z.toArray=(J++ Z).toArray:=by simp
  have M:(J++ Z)++ (List.replicate k Z).flatten=J++ (List.replicate (k+1) Z).flatten:=by
   rw[vz,ju,vk]
  rw[<-M,<-foldl_rep Z k (J++ Z),<-e,vz,vS]
section
def Inv.lset{J its':kq}(I:Inv X Z U H s)(T:H l=some (.lst B))(e:s.heap.get? l=some {cls:=.type "list",data:=.seq J.toArray n})(O:f J.toArray=its'.toArray)(M:Vals G its')(L:G.length<=sizeLine):
  Inv X Z U (upd H l<|.lst G) {s with heap:=s.heap.update l<|Obj.mapSeq f,toks:=D}:=by
 have q:=PySem.IsL.update e f;rw[O]at q;refine I.write (x:=l) (e:=l) (by rw[T];exact trivial) (.inl Y) (λE u R N=>(Heap.get?_update_other s.heap (Obj.mapSeq f)<|Zs R).trans N) ⟨_,q⟩ ?_;exact⟨L,its',_,M,q⟩
def Inv.lnew(I:Inv X Z U H s)(M:Vals G J)(L:G.length<=sizeLine):
  Inv X Z U (upd H s.heap.objs.size<|.lst G) {s with heap:=s.heap.push {cls:=.type "list",data:=.seq J.toArray},toks:=t'}:=
 I.laid (λ_ _ q=>ZE _ q) (ZG _) ⟨L,J,0,M,ZY _ rfl⟩
def Inv.fresh(I:Inv X Z U H s):H s.heap.objs.size=none:=I.hok.fresh<|ZG _
def Inv.lstM(I:Inv X G U H s)(L:H l=some (.lst J)):J.length<=sizeLine/\∃(Z:kq)(n:Nat),Vals J Z/\J.length=Z.length/\s.heap.get? l=some {cls:=.type "list",data:=.seq Z.toArray n}:=by
 obtain⟨z,Z,n,r,e⟩:=I.hok l _ L;exact⟨z,Z,n,r,r.length,e⟩
def K5(h:n<=sizeLine):Builtin.List.listTooLong n=false:=by
 unfold Builtin.List.listTooLong;exact Zy<|by omega
end
section
def Ox:V->List V->Hp->VK->Prop:=λx J H Q=>∃l Z y,x=.ref l/\J=[y]/\H l=some (.lst Z)/\Z.length<sizeLine/\Q .non (upd H l<|.lst<|Z++[y])
def Vu:MtM X "list.append" Ox:=by
 intro J s U H x R v T Q I L M h;obtain⟨l,O,y,rfl,rfl,G,B,q⟩:=h;cases L;obtain⟨u,rfl,N⟩:=M.one;obtain⟨z,Z,n,r,D,e⟩:=I.lstM G;refine jC F.slot_list_append ⟨_,e,Y⟩ F.entry_list_append (F.args_list_append_2 _ _) (PySem.list_append l Z.toArray n u (by rw[ZO];omega)) ⟨e,?_⟩;refine⟨.non,_,I.lset (its':=Z++[u]) G e (by simp) (r.append<|.cons N .nil) ?_,rfl,q⟩;rw[ZL,yg];omega
def zy:V->List V->Hp->VK->Prop:=λx J H Q=>∃l Z y,x=.ref l/\J=[]/\H l=some (.lst Z)/\Z[Z.length-1]?=some y/\Q y (upd H l<|.lst Z.dropLast)
def K9:MtM X "list.pop" zy:=by
 intro L s U H x A v S Q I N O h;obtain⟨l,E,y,rfl,rfl,M,T,q⟩:=h;cases N;have G:=O.zero;subst G;obtain⟨z,Z,n,r,D,e⟩:=I.lstM M;obtain⟨u,B,R⟩:=r.get T
 have J:Z.toArray[Z.toArray.size-1]?=some u:=by
  show Z.toArray[Z.length-1]?=some u;rw[<-Array.getElem?_toList,<-D];exact B
 refine jC F.slot_list_pop ⟨_,e,Y⟩ F.entry_list_pop (F.args_list_pop_1 _) (MeetsSeq.list_pop_last l Z.toArray n u J (by rw[ZO];omega)) ⟨e,?_⟩;refine⟨y,_,I.lset (its':=Z.dropLast) M e ?_ r.dropLast ?_,R,q⟩
 .show Z.toArray.eraseIdxIfInBounds (Z.toArray.size-1)=Z.dropLast.toArray
  rw[ZO,List.eraseIdxIfInBounds_toArray,Di]
 .rw [jQ]
  omega
def yE:R2:=λx y H Q=>∃l b J Z,x=.ref l/\y=.ref b/\H l=some (.lst J)/\H b=some (.lst Z)/\J.length+Z.length<=sizeLine/\∀p,H p=none->Q (.ref p) (upd H p<|.lst<|J++ Z)
def B5:OpR X (binaryOp .Add) yE:=by
 intro G s U H x y v u Q I M L h;obtain⟨l,b,A,E,rfl,rfl,R,T,C,q⟩:=h;cases M;cases L;obtain⟨z,J,n,r,P,e⟩:=I.lstM R;obtain⟨F,Z,S,N,O,D⟩:=I.lstM T;refine PySem.P.add_list e D ?_ (by rw[ZO,ZO];omega);have B:J.toArray++ Z.toArray=(J++ Z).toArray:=by simp
 rw[B];exact⟨.ref _,_,I.lnew (t':=s.toks) (r.append N) (by rw[ZL];omega),Y,q _ I.fresh⟩
def zw:R2:=λx y H Q=>∃l k Z,x=.ref l/\y=.int k/\H l=some (.lst Z)/\ -(2 ^ 63)<=k/\k<2 ^ 63/\Z.length*k.toNat<=sizeLine/\
 ∀p,H p=none->Q (.ref p) (upd H p<|.lst (List.replicate k.toNat Z).flatten)
def len_rep(Z:List α)(k:Nat):(List.replicate k Z).flatten.length=k*Z.length:=by
 induction k with
 |zero=>simp
 |succ k ih=>rw[vz,ju,ZL,ih,vP,qa]
def Sk:OpR X (binaryOp .Mult) zw:=by
 intro B s U H x y v u Q I S A h;obtain⟨l,k,c,rfl,rfl,P,g,j,D,q⟩:=h;cases S;obtain⟨t,rfl⟩:=A;obtain⟨z,Z,n,r,C,e⟩:=I.lstM P;have L:Z.toArray.size*k.toNat<=sizeLine:=by rw[ZO,<-C];exact D
 have N:¬Z.toArray.size*k.toNat > (2 ^ 63-1) / 8:=by
  have:(sizeLine:Nat)<=(2 ^ 63-1) / 8:=by decide
  omega
 have M:¬(!Builtin.List.listFitsIndex k)=true:=by
  rw[fitsIndex_both g j];exact Zi
 have J:¬Builtin.List.listTooLong (Z.toArray.size*k.toNat)=true:=by
  rw[K5 L];exact Zi
 have G:List.foldl (λR O=>R++ O) #[] (List.replicate (if Z.toArray.isEmpty=true then 0 else k.toNat) Z.toArray)=(List.replicate k.toNat Z).flatten.toArray:=by
  have p:∀m:Nat,List.foldl (λR O=>R++ O) #[] (List.replicate m Z.toArray)=(List.replicate m Z).flatten.toArray:=λm=>by
   have:=foldl_rep Z m [];rw[List.nil_append]at this;exact this
  rw[p]
  cases Z with
  |nil=>simp
  |cons a d=>rw[Zq (by simp)]
 refine wpAny_binaryOp_repeat_ref (T:="list") (U:="int") (by decide) ⟨_,e,Y⟩ (λE=>typeIs_int E k t) noFill_list_mul F.fills_int_mul F.slot_int_rmul repeat_list F.slot_int_index.lookup
  (jC F.slot_int_rmul (typeIs_int s k t) F.entry_int_rmul (F.args_int_rmul_2 _ _) (int___rmul___int_list k t l Z.toArray n)
   ⟨e,rfl,⟨_,e,rfl⟩,jC F.slot_list_mul ⟨_,e,rfl⟩ F.entry_list_mul (F.args_list_mul_2 _ _) (AutoListH.list___mul___list_int_3 l Z.toArray n k t M N J) ⟨e,?_⟩⟩)
 rw[G];exact⟨.ref _,_,I.lnew (t':=s.toks) (r.rep k.toNat) (by rw[len_rep,Nat.mul_comm];exact D),Y,q _ I.fresh⟩
end
section
set_option maxRecDepth 100000 in
end
section
variable{κ:Type}[DecidableEq κ]
def VC(kvs:List (κ×V))(k:κ):kL:=(kvs.find? λZ=>decide<|Z.1=k).map (·.2)
def putK(kvs:List (κ×V))(k:κ)(v:V):List (κ×V):=
 if(kvs.any λZ=>decide<|Z.1=k)=true then kvs.map (λZ=>if Z.1=k then(Z.1,v)else Z)else kvs++[(k,v)]
def Vi{p:κ×V}(e:p.1=k):VC (p::r) k=some p.2:=by simp[VC,vc,e]
def Vr{p:κ×V}(e:¬p.1=k):VC (p::r) k=VC r k:=by simp[VC,vc,e]
theorem JY(k:κ):∀Z:List (κ×V),(Z.any λJ=>decide<|J.1=k)=(VC Z k).isSome
 |[]=>rfl
 |p::r=>by
  rw[jA]
  by_cases e:p.1=k
  .simp only[Vi e,decide_eq_true e,Bool.true_or,Option.isSome_some]
  .rw [Vr e,Zy e,Bool.false_or];exact JY k r
theorem Mz(k j:κ)(y:V):∀Z:List (κ×V),VC (Z.map λJ=>if J.1=k then(J.1,y)else J) j=(VC Z j).map λx=>if j=k then y else x
 |[]=>rfl
 |p::r=>by
  have ih:=Mz k j y r;rw[ZV]
  by_cases h:p.1=k
  .rw [Zp h]
   by_cases e:p.1=j
   .rw [Vi (p:=(p.1,y)) e,Vi e,jJ,Zp (e.symm.trans h)]
   .rw [Vr (p:=(p.1,y)) e,Vr e,ih]
  .rw [Zq h]
   by_cases e:p.1=j
   .rw [Vi (p:=p) e,Vi e,jJ,Zq (λz=>h<|e.trans z)]
   .rw [Vr (p:=p) e,Vr e,ih]
theorem Tx(k j:κ)(y:V):∀Z:List (κ×V),VC Z k=none->VC (Z++[(k,y)]) j=if j=k then some y else VC Z j
 |[],_=>by
  by_cases e:k=j
  .rw [Zp e.symm];exact Vi (p:=(k,y)) e
  .rw [Zq (λz=>e z.symm)];exact Vr (p:=(k,y)) e
 |p::r,hn=>by
  rw[List.cons_append];have J:¬p.1=k:=λz=>by rw[Vi z]at hn;cases hn
  rw[Vr J]at hn;have ih:=Tx k j y r hn
  by_cases e:p.1=j
  .rw [Vi e,Vi e,Zq (λz=>J<|e.trans z)]
  .rw [Vr e,Vr e,ih]
def Vy(Z:List (κ×V))(k j:κ)(y:V):VC (putK Z k y) j=if j=k then some y else VC Z j:=by
 unfold putK
 by_cases a:(Z.any λJ=>decide<|J.1=k)=true
 .rw [Zp a,Mz]
  rw[JY]at a
  by_cases e:j=k
  .obtain ⟨x,hx⟩:=vR.mp a
   rw[Zp e,e,hx,jJ,Zp rfl]
  .rw [Zq e]
   cases VC Z j with
   |none=>rfl
   |some x=>rw[jJ,Zq e]
 .rw [Zq a]
  refine Tx k j y Z ?_;rw[JY]at a
  cases q:VC Z k with
  |none=>rfl
  |some x=>rw[q]at a;exact(a rfl).elim
def VW(Z:List (κ×V))(k:κ)(v:V):(putK Z k v).length<=Z.length+1:=by
 unfold putK
 split
 .rw [ZA];omega
 .rw [ZL,Zf,jK];omega
def V7{Z:List (κ×V)}(v:V)(h:VC Z k=none):putK Z k v=Z++[(k,v)]:=by
 unfold putK;rw[JY,h];exact Zq<|by decide
def UY.isSome_eq(r:UY o u):o.isSome=u.isSome:=by
 cases o with
 |none=>cases u with
  |none=>rfl
  |some _=>exact(show False from r).elim
 |some _=>cases u with
  |none=>exact(show False from r).elim
  |some _=>rfl
def UY.getD(r:UY o u)(Z:RelV d d'):RelV (o.getD d) (u.getD d'):=by
 cases o with
 |none=>cases u with
  |none=>exact Z
  |some _=>exact(show False from r).elim
 |some _=>cases u with
  |none=>exact(show False from r).elim
  |some _=>exact r
def KV.val(r:KV J L)(k:κ):UY (VC J k) (valueAt L k):=by
 unfold KV at r
 induction r with
 |nil=>exact True.intro
 | @cons p q N Z h t ih=>
  obtain⟨G,M⟩:=h
  by_cases e:p.1=k
  .have e':q.1=k:=G.symm.trans e
   have b:valueAt (q::Z) k=some q.2:=by simp[valueAt,vc,e']
   rw[Vi e,b];exact M
  .have e':¬q.1=k:=λz=>e<|G.trans z
   have b:valueAt (q::Z) k=valueAt Z k:=by simp[valueAt,vc,e']
   rw[Vr e,b];exact ih
def KV.any(r:KV Z G)(k:κ):(Z.any λJ=>decide<|J.1=k)=G.any λJ=>decide (J.1=k):=by
 unfold KV at r
 induction r with
 |nil=>rfl
 |cons h t ih=>rw[jA,jA,ih,h.1]
def KV.repl(r:KV G L)(k:κ)(M:RelV y u):
  KV (G.map λZ=>if Z.1=k then(Z.1,y)else Z) (L.map λZ=>if Z.1=k then(Z.1,u)else Z):=by
 unfold KV at r |-
 induction r with
 |nil=>exact .nil
 | @cons p q R O h t ih=>
  rw[ZV,ZV];refine .cons ?_ ih;obtain⟨J,N⟩:=h
  by_cases e:p.1=k
  .rw [Zp e,Zp (J.symm.trans e)];exact⟨J,M⟩
  .rw [Zq e,Zq (λz=>e<|J.trans z)];exact⟨J,N⟩
def KV.put(r:KV Z J)(k:κ)(G:RelV y u):KV (putK Z k y) (stored J k u):=by
 unfold putK stored;rw[r.any k]
 by_cases e:(J.any λL=>decide<|L.1=k)=true
 .rw [Zp e,Zp e];exact r.repl k G
 .rw [Zq e,Zq e];exact Paired.snoc r ⟨Y,G⟩
def KV.keys{Z:List (κ×V)}(r:KV Z J):Z.map (·.1)=J.map (·.1):=by
 unfold KV at r
 induction r with
 |nil=>rfl
 |cons h t ih=>rw[ZV,ZV,ih,h.1]
def KV.length(r:KV Z J):Z.length=J.length:=Paired.length r
end
def XM(r:RelV (kV k) u):(Y8 P w).is k u=true:=by
 cases k with
 |inl i=>obtain⟨t,e⟩:=(show ∃t,u=Value.int i t from r);subst e;exact NT P w i t
 |inr x=>obtain⟨t,e⟩:=(show ∃t,u=Value.str x t from r);subst e;exact NS P w x t
theorem RN:∀{Z:List Key}{J:kq},Vals (Z.map kV) J->ItemsAre (Y8 P w) Z J
 |[],_,r=>by rw[vG]at r;cases r;exact .nil
 |k::Z,_,r=>by
  rw[ZV]at r
  cases r with
  |cons h t=>exact .cons (XM h)<|RN t
abbrev KT(H:Hp):List (List Key×V)->List (List Key×Addr×Value)->Prop:=Paired λp q=>p.1=q.1/\H q.2.1=some (.tup (p.1.map kV))/\RelV p.2 q.2.2
def KT.val(r:KT H J L)(k:List Key):UY (VC J k) ((atKey L k).map (·.2)):=by
 induction r with
 |nil=>exact True.intro
 | @cons p q N Z h t ih=>
  obtain⟨G,_,M⟩:=h
  by_cases e:p.1=k
  .have e':q.1=k:=G.symm.trans e
   have b:atKey (q::Z) k=some q.2:=by simp[atKey,vc,e']
   rw[Vi e,b];exact M
  .have e':¬q.1=k:=λz=>e<|G.trans z
   have b:atKey (q::Z) k=atKey Z k:=by simp[atKey,vc,e']
   rw[Vr e,b];exact ih
def KT.repl(r:KT H J M)(k:List Key)(N:RelV y u):
  KT H (J.map λG=>if G.1=k then(G.1,y)else G) (M.map<|putAt k u):=by
 induction r with
 |nil=>exact .nil
 | @cons p q T R h t ih=>
  rw[ZV,ZV];refine .cons ?_ ih;obtain⟨Z,L,O⟩:=h;unfold putAt
  by_cases e:p.1=k
  .rw [Zp e,Zp (Z.symm.trans e)];exact⟨Z,L,N⟩
  .rw [Zq e,Zq (λz=>e<|Z.trans z)];exact⟨Z,L,O⟩
def KT.put(r:KT H Z J)(k:List Key)(M:H b=some (.tup<|k.map kV))(G:RelV y u):
  KT H (putK Z k y) (storedH J k b u):=by
 have e:(Z.any λL=>decide<|L.1=k)=(atKey J k).isSome:=by
  rw[JY,(r.val k).isSome_eq,vZ]
 unfold putK storedH;rw[e]
 by_cases q:(atKey J k).isSome=true
 .rw [Zp q,Zp q];exact r.repl k G
 .rw [Zq q,Zq q];exact Paired.snoc r ⟨Y,M,G⟩
def KT.keeps(r:KT H Z G)(L:∀b J,H b=some (.tup J)->M b=some (.tup J)):KT M Z G:=
 Paired.mapP r λ_ _ z=>⟨z.1,L _ _ z.2.1,z.2.2⟩
section
def QU(Z:HOk P w H h)(e:Rd H a u):VL P w H h a u:=e.ok Z
def Wu(G:HOk P w H h)(e:Rd H a (.dK Z)):Z.length<=sizeLine/\(a==sysModules)=false/\∃J,KV Z J/\h.DictOf (Y8 P w) a J:=
 show VL P w H h a (.dK Z)from QU G e
def Ee(G:HOk P w H h)(e:H a=some (.dK Z)):Z.length<=sizeLine/\(a==sysModules)=false/\∃J,KV Z J/\h.DictOf (Y8 P w) a J:=Wu G<|.inl e
def Wa(G:HOk P w H h)(e:H a=some (.tup<|J.map kV)):(tupleKind<|Y8 P w).is h J a:=by
 obtain⟨_,Z,r,o,N,_,M,n,L⟩:=(show VL P w H h a (.tup<|J.map kV)from G a _ e);exact⟨o,Z.toArray,n,N,M,L,by simpa using RN r⟩
def Td(M:HOk P w H h)(e:Rd H a (.dT Z)):Z.length<=sizeLine/\(a==sysModules)=false/\
  ∃G,KT H Z G/\h.DictOfH (tupleKind<|Y8 P w) a G:=by
 obtain⟨z,y,G,r,o,E,F,D,B,T,R,O⟩:=(show VL P w H h a (.dT Z)from QU M e);refine⟨z,y,G,r,o,E,F,D,B,T,R,λx J=>?_,O⟩
 have L:∀{l:List (List Key×V)}{m:List (List Key×Addr×Value)},KT H l m->∀x∈m,(tupleKind<|Y8 P w).is h x.1 x.2.1:=by
  intro l m q
  induction q with
  |nil=>intro x J;exact nomatch J
  | @cons p q I A N t ih=>
   intro x J;rcases Zd.mp J with e|J
   .subst e
    exact Wa M (by rw[<-N.1];exact N.2.1)
   .exact ih x J
 exact L r x J
def C7(G:HOk P w H h)(e:H a=some (.dT Z)):Z.length<=sizeLine/\(a==sysModules)=false/\
  ∃J,KT H Z J/\h.DictOfH (tupleKind<|Y8 P w) a J:=Td G<|.inl e
end
def Vg(H:Hp)(a:Addr)(y:V)(r:kL):Prop:=
 (∃Z k,Rd H a (.dK Z)/\y=kV k/\r=VC Z k) \/ ∃Z k b,Rd H a (.dT Z)/\y=.ref b/\H b=some (.tup<|k.map kV)/\r=VC Z k
def Jh(H:Hp)(a:Addr)(y v:V)(H':Hp):Prop:=
 (∃Z k,H a=some (.dK Z)/\y=kV k/\Z.length<sizeLine/\H'=upd H a (.dK<|putK Z k v)) \/
 ∃Z k b,H a=some (.dT Z)/\y=.ref b/\H b=some (.tup<|k.map kV)/\Z.length<sizeLine/\H'=upd H a (.dT<|putK Z k v)
def Vg.k{k:Key}(e:H a=some (.dK Z)):Vg H a (kV k) (VC Z k):=.inl ⟨Z,k,.inl e,rfl,rfl⟩
def Vg.t{k:List Key}(e:H a=some (.dT Z))(J:H b=some (.tup<|k.map kV)):Vg H a (.ref b) (VC Z k):=.inr ⟨Z,k,b,.inl e,rfl,J,rfl⟩
def Jh.k{k:Key}(e:H a=some (.dK Z))(J:Z.length<sizeLine):Jh H a (kV k) v (upd H a<|.dK<|putK Z k v):=.inl ⟨Z,k,e,rfl,J,rfl⟩
def Jh.t{k:List Key}(e:H a=some (.dT Z))(G:H b=some (.tup<|k.map kV))(J:Z.length<sizeLine):
  Jh H a (.ref b) v (upd H a<|.dT<|putK Z k v):=.inr ⟨Z,k,b,e,rfl,G,J,rfl⟩
section
def Inv.big(I:Inv X Z U H s):sysModules<s.heap.objs.size:=by
 have h:mainGlobals<s.heap.objs.size:=(I.mod.glob.keeps I.bk).lt;exact qb (by decide) h
def Fd(C:A.units+1<cLine)(I:Inv X L U H s)(g:Vg H a y (some v))(D:RelV y u)(h:∀G B,Inv X L U H B->RelV v G->Q G B):
  wpAny (model X.prog X.w) A (getItem (.ref a) u) Q E s:=by
 rcases g with⟨M,k,e,R,l⟩|⟨M,k,b,e,R,q,l⟩
 .subst R
  obtain⟨z,j,S,J,T⟩:=Wu I.hok e;obtain⟨G,N,Z⟩:=UY.some_of (v:=v) (o:=valueAt S k) (by rw[l];exact J.val k);exact wpAny_getItem_of (XM D) T.mapOf N<|h G _ (I.tok _) Z
 .subst R
  cases(show u=Value.ref b from D);obtain⟨z,j,F,J,T⟩:=Td I.hok e;obtain⟨G,N,Z⟩:=UY.some_of (v:=v) (o:=(atKey F k).map (·.2)) (by rw[l];exact J.val k);obtain⟨p,P,O⟩:=Zj.mp N;refine wpAny_getItem_heap (je C) (Wa I.hok q) T P ?_;rw[O];exact h G _ (I.tok _) Z
def yZ(T:A.units+1<cLine)(I:Inv X J U H s)(g:Vg H a y o)(R:RelV y u)(h:∀O,Inv X J U H O->Q (.bool o.isSome) O):
  wpAny (model X.prog X.w) A (compareOp .In u<|.ref a) Q E s:=by
 rcases g with⟨G,k,e,M,l⟩|⟨G,k,b,e,M,B,l⟩
 .subst M
  obtain⟨z,L,F,Z,N⟩:=Wu I.hok e;refine wpAny_in_of (XM R) L N.mapOf ?_;rw[<-(Z.val k).isSome_eq,<-l];exact h _<|I.tok _
 .subst M
  cases(show u=Value.ref b from R);obtain⟨z,L,D,Z,N⟩:=Td I.hok e;refine wpAny_in_heap (je T) (Wa I.hok B) L N ?_;have q:=(Z.val k).isSome_eq;rw[vZ]at q;rw[<-q,<-l];exact h _<|I.tok _
def QA(T:A.units+1<cLine)(I:Inv X J U H s)(g:Vg H a y o)(R:RelV y u)(h:∀O,Inv X J U H O->Q (.bool<|!o.isSome) O):
  wpAny (model X.prog X.w) A (compareOp .NotIn u<|.ref a) Q E s:=by
 rcases g with⟨G,k,e,M,l⟩|⟨G,k,b,e,M,B,l⟩
 .subst M
  obtain⟨z,L,F,Z,N⟩:=Wu I.hok e;refine wpAny_notIn_of (XM R) L N.mapOf ?_;rw[<-(Z.val k).isSome_eq,<-l];exact h _<|I.tok _
 .subst M
  cases(show u=Value.ref b from R);obtain⟨z,L,D,Z,N⟩:=Td I.hok e;refine wpAny_notIn_heap (je T) (Wa I.hok B) L N ?_;have q:=(Z.val k).isSome_eq;rw[vZ]at q;rw[<-q,<-l];exact h _<|I.tok _
def GS(I:Inv X Z U H s)(L:Mut (H a))(M:Heap.SameBut a s.heap G)(N:∃q,G.get? a=some q)(J:VL X.prog X.w (upd H a ob) G a ob):
  Inv X Z U (upd H a ob) {s with heap:=G,toks:=R}:=
 I.write (x:=a) (e:=a) L (.inl rfl) (λb q O z=>(M.2 b O).trans z) N J
def Wd(z:Z.length<=sizeLine)(L:(a==sysModules)=false)(J:KV Z G)(N:M.DictOf (Y8 P w) a G):
  VL P w O M a (.dK Z):=⟨z,L,G,J,N⟩
def Fc(f:A.units+1<cLine)(I:Inv X L U H s)(g:Jh H a y v H')(C:RelV y u)(P:RelV v r)(h:∀S,Inv X L U H' S->Q () S):
  wpAny (model X.prog X.w) A (setItem (.ref a) u r) Q E s:=by
 rcases g with⟨J,k,e,B,l,D⟩|⟨J,k,b,e,B,m,l,D⟩
 .subst B D
  obtain⟨z,T,d,Z,F⟩:=Ee I.hok e;have N:d.length<=sizeLine:=by rw[<-Z.length];exact z
  have R:(putK J k v).length<=sizeLine:=by have:=VW J k v;omega
  refine wpAny_setItem_pairs (hsz:=N) (XM C) F λj G O=>h _ ?_;have w:∃q,j.get? a=some q:=let⟨q,_,_,M,_⟩:=G;⟨q,M⟩
  exact GS I (by rw[e];exact True.intro) O w<|Wd R T (Z.put k P) G
 .subst B D
  cases(show u=Value.ref b from C);obtain⟨z,T,p,Z,F⟩:=C7 I.hok e;have N:p.length<=sizeLine:=by rw[<-Paired.length Z];exact z
  have R:(putK J k v).length<=sizeLine:=by have:=VW J k v;omega
  refine wpAny_setItem_heap (hsz:=N) (je f) (Wa I.hok m) F λj G O=>h _ ?_;obtain⟨q,es,ep,M,x,n,i,_,o⟩:=G;refine GS I (by rw[e];exact True.intro) O ⟨q,M⟩ ⟨R,T,_,(Z.put k m P).keeps λc ys t=>?_,q,es,ep,M,x,n,i,o⟩;rw[Yg (JW t e λz=>nomatch z)];exact t
end
def QH(i:Expr):Prop:=∀Z J,subscripted i false Z J=operate [Z,J] (getItem Z J)
def Ro{T B:String}(F:typeLookup (.type T) "__getitem__"=pure (some<|.builtin B))(D:QH slice)(h:wpAny (model prog w) A (eval value env) (λo L=>wpAny (model prog w) A (eval slice env) (λi Z=>Z.TypeIs o T/\wpAny (model prog w) A (getItem o i) Q E Z) E L) E s):
  wpAny (model prog w) A (eval (.Subscript value slice pos) env) Q E s:=by
 refine Subscript_<|Zn h (λo L O=>Zn O (λi Z J=>?_) λ_ _ x=>x) λ_ _ x=>x;obtain⟨R,J⟩:=J;unfold subscriptTail;refine Zl ?_;rw[getitemInPython_of_ne R.not_modules];refine Zl<|jc R F ?_
 have M:wpAny (model prog w) A (subscripted slice false o i) (λr G=>wpAny (model prog w) A (letTemporaryGo value o r >>=λ_=>pure r) Q E G) E Z:=by
  rw[D o i];exact wpAny_operating (Zn J (λr G N=>Zl<|wpAny_letTemporaryGo<|Zm N) λ_ _ x=>x)
 first
  |exact Zm<|Zl M
  |exact Zl<|Zm<|Zl M
  |exact Zl M
def Nn(I:Inv X J U H s)(g:Vg H a y o):s.TypeIs (.ref a) "dict":=by
 rcases g with⟨Z,k,e,_,_⟩|⟨Z,k,b,e,_,_,_⟩
 .obtain ⟨_,_,vs,_,dd⟩:=Wu I.hok e
  exact dd.typeIs
 .obtain ⟨_,_,xs,_,dd⟩:=Td I.hok e
  exact dd.typeIs
def QP(td ty:TE):TE:=λU H Q=>td U H λx J=>ty U J λy Z=>V6 x λa=>∃v,Vg Z a y (some v)/\Q v Z
def zU(ty td:TE):TE:=λU H Q=>ty U H λy J=>td U J λx Z=>V6 x λa=>∃o,Vg Z a y o/\Q (.bl o.isSome) Z
def Oa(ty td:TE):TE:=λU H Q=>ty U H λy J=>td U J λx Z=>V6 x λa=>∃o,Vg Z a y o/\Q (.bl<|!o.isSome) Z
def A5(td ty tv:TE):TS:=λD U H=>tv U H λv L=>td U L λx G=>ty U G λy J=>V6 x λa=>∃Z,Jh J a y v Z/\D.nx U Z
section
def Vj(T:X.A.units+1<cLine)(D:PE X o td)(E:PE X i ty)(B:QH i):PE X (.Subscript o i pos) (QP td ty):=by
 intro Z s U H Q I h;refine Ro PySem.F.slot_dict_getitem.lookup B<|thn (D Z s U H _ I h) λu M ⟨x,P,S,O,R⟩=>thn (E Z M U P _ S R) λt q ⟨y,C,L,N,J⟩=>?_;replace J:=V6.old J;obtain⟨a,F,v,g,J⟩:=J;subst F;obtain rfl:u=Value.ref a:=O;exact⟨Nn L g,Fd T L g N λj z A G=>⟨v,C,A,G,J⟩⟩
def Uw(R:X.A.units+1<cLine)(B:PE X i ty)(T:PE X o td):PC X .In i o (zU ty td):=by
 intro Z s U H Q I h;refine thn (B Z s U H _ I h) λz G ⟨y,C,A,L,N⟩=>thn (T Z G U C _ A N) λu j ⟨x,S,F,M,J⟩=>?_;replace J:=V6.old J;obtain⟨a,D,O,g,J⟩:=J;subst D;obtain rfl:u=Value.ref a:=M;exact yZ R F g L λP E=>⟨.bl O.isSome,S,E,Y,J⟩
def WP(R:X.A.units+1<cLine)(B:PE X i ty)(T:PE X o td):PC X .NotIn i o (Oa ty td):=by
 intro Z s U H Q I h;refine thn (B Z s U H _ I h) λz G ⟨y,C,A,L,N⟩=>thn (T Z G U C _ A N) λu j ⟨x,S,F,M,J⟩=>?_;replace J:=V6.old J;obtain⟨a,D,O,g,J⟩:=J;subst D;obtain rfl:u=Value.ref a:=M;exact QA R F g L λP E=>⟨.bl<|!O.isSome,S,E,rfl,J⟩
def Vc(E:X.A.units+1<cLine)(A:PE X o td)(S:PE X i ty)(B:PE X value tv)(F:swapsWith value (some<|.Subscript o i pos') pos.line X.env=pure false):
  PS X (.Assign [.Subscript o i pos'] value pos) (A5 td ty tv):=by
 intro Z s U H D I h;refine wpAny_Assign_Subscript (thn (B Z s U H _ I h) λr L ⟨v,m,z,O,T⟩=>thn (A Z L U m _ z T) λu G ⟨x,t,j,N,R⟩=>thn (S Z G U t _ j R) λc p ⟨y,d,Q,M,J⟩=>?_) F;replace J:=V6.old J;obtain⟨a,C,q,g,J⟩:=J;subst C;obtain rfl:u=Value.ref a:=N;exact Fc E Q g M O λk P=>⟨U,q,P,J⟩
end
def Nm(h:Heap)(Z:sysModules<h.objs.size):VL P w H (h.push {cls:=.type "dict",data:=.dict #[]}) h.objs.size (.dK []):=
 ⟨Zc _,beq_eq_false_iff_ne.mpr<|Zs<|Ze Z,[],.nil,Heap.DictOf.new h⟩
def Ls(h:Heap)(Z:sysModules<h.objs.size):VL P w H (h.push {cls:=.type "dict",data:=.dict #[]}) h.objs.size (.dT []):=
 ⟨Zc _,beq_eq_false_iff_ne.mpr<|Zs<|Ze Z,[],.nil,_,#[],0,ZY _ rfl,⟨rfl,rfl,rfl⟩,rfl,rfl,vN⟩
def Q5:TE:=λ_ H Q=>∀p,H p=none->Q (.ref p) (upd H p<|.dK [])
def Q4:TE:=λ_ H Q=>∀p,H p=none->Q (.ref p) (upd H p<|.dT [])
section
def V0:PE X (.Dict [] [] pos) Q5:=λZ s U H Q I h=>
 wpAny_Dict_empty ⟨.ref s.heap.objs.size,_,I.laid (a:=s.heap.objs.size) (o:=.dK []) (t':=s.toks) (λ_ _ q=>ZE _ q) (ZG _)<|Nm s.heap I.big,rfl,h _<|I.hok.fresh<|ZG _⟩
def KQ:PE X (.Dict [] [] pos) Q4:=λZ s U H Q I h=>
 wpAny_Dict_empty ⟨.ref s.heap.objs.size,_,I.laid (a:=s.heap.objs.size) (o:=.dT []) (t':=s.toks) (λ_ _ q=>ZE _ q) (ZG _)<|Ls s.heap I.big,rfl,h _<|I.hok.fresh<|ZG _⟩
end
def BG:List (TE×TE)->St->Hp->(List (V×V)->Hp->Prop)->Prop
 |[],_,H,Q=>Q [] H
 |(tk,tv)::r,U,H,Q=>tk U H λx H1=>tv U H1 λy H2=>BG r U H2 λps H3=>Q ((x,y)::ps) H3
abbrev VV:List (V×V)->List (Value×Value)->Prop:=Paired λp q=>RelV p.1 q.1/\RelV p.2 q.2
def PPs(X:Cx)(pos:Pos)(keys:List (Option Expr))(values:kS)(trs:List (TE×TE)):Prop:=
 ∀(Z:ka)(s:Shared)(U:St)(H:Hp)(Q:List (V×V)->Hp->Prop),Inv X Z U H s->BG trs U H Q->
  wpAny (model X.prog X.w) X.A (evalPairs<|pairTrees keys values X.env pos) (λL M=>∃J G,Inv X Z U G M/\VV J L/\Q J G) X.xe s
def O2:PPs X pos [] [] []:=λZ s U H Q I h=>pairTrees_nil_walk ⟨[],H,I,.nil,h⟩
def KO(S:PE X k tk)(F:PE X v tv)(A:PPs X pos E G trs):
  PPs X pos (some k::E) (v::G) ((tk,tv)::trs):=λZ s U H Q I h=>
 pairTrees_cons_walk (thn (S Z s U H _ I h) λu M ⟨x,t,j,O,B⟩=>thn (F Z M U t _ j B) λg L ⟨y,q,P,N,T⟩=>
  thn (A Z L U q _ P T) λm p ⟨D,z,C,J,R⟩=>⟨(x,y)::D,z,C,.cons ⟨O,N⟩ J,R⟩)
def TD(kvs more:kF):kF:=more.foldl (λZ J=>putK Z J.1 J.2) kvs
def KV.merge:∀{more:kF}{G:List (Key×Value)}{Z:kF}{J:List (Key×Value)},KV more G->KV Z J->KV (TD Z more) (merged J G):=by
 intro more G Z J r;unfold KV at r
 induction r generalizing Z J with
 |nil=>intro q;exact q
 | @cons p q N M h t ih=>
  intro L
  have e:KV (putK Z p.1 p.2) (stored J q.1 q.2):=by
   have:=L.put p.1 h.2;rw[<-h.1];exact this
  exact ih e
theorem XI:∀(more Z:kF),(TD Z more).length<=Z.length+more.length
 |[],Z=>by show Z.length<=Z.length+0;omega
 |p::r,Z=>by
  have G:=XI r<|putK Z p.1 p.2;have J:=VW Z p.1 p.2;show(TD (putK Z p.1 p.2) r).length<=_;rw[Zf];omega
theorem Tn:∀{Z:kF}{G:List (Value×Value)},VV (Z.map λL=>(kV L.1,L.2)) G->∃J,Carries (Y8 P w) G J/\KV Z J
 |[],_,r=>by rw[vG]at r;cases r;exact⟨[],True.intro,.nil⟩
 |p::Z,_,r=>by
  rw[ZV]at r
  cases r with
  | @cons a b R N h t=>
   obtain⟨J,c,q⟩:=Tn (P:=P) (w:=w) t;obtain⟨O,M⟩:=b;exact⟨(p.1,M)::J,⟨XM h.1,Y,c⟩,.cons ⟨Y,h.2⟩ q⟩
def Av(trs:List (TE×TE)):TE:=λU H Q=>∀p,H p=none->BG trs U (upd H p<|.dK []) λL G=>G p=some (.dK [])/\∃Z:kF,L=Z.map (λJ=>(kV J.1,J.2))/\Z.length<=15/\Q (.ref p) (upd G p<|.dK<|TD [] Z)
def O6(h:PPs X pos keys values trs)(G:keys.all (·.isSome)=true)(j:keys.length=values.length)(g:keys≠[])(N:keys.length<=15):PE X (.Dict keys values pos) (Av trs):=by
 intro Z s U H Q I q;have C:=I.hok.fresh<|ZG s.heap.objs.size;have d:=I.laid (a:=s.heap.objs.size) (o:=.dK []) (h':=s.heap.push {cls:=.type "dict",data:=.dict #[]}) (t':=s.toks) (λ_ _ q=>ZE _ q) (ZG _)<|Nm s.heap I.big;refine wpAny_Dict_walk (knd:=Y8 X.prog X.w) G j g N<|thn (h Z _ U _ _ d<|q _ C) λf u ⟨v,l,O,M,e,J,k,r,E⟩=>?_;subst k;obtain⟨T,c,B⟩:=Tn (P:=X.prog) (w:=X.w) M;obtain⟨z,t,R,D,p⟩:=Ee O.hok e;cases D;refine⟨T,c,p,λh' L A=>⟨.ref s.heap.objs.size,_,?_,Y,E⟩⟩
 have F:(TD [] J).length<=sizeLine:=by
  have m:=XI J [];rw[jK]at m;rw[sizeLine_eq];omega
 have y:∃q,h'.get? s.heap.objs.size=some q:=let⟨q,_,_,S,_⟩:=L;⟨q,S⟩
 exact GS O (by rw[e];exact True.intro) A y<|Wd F t (B.merge .nil) L
structure M1(X:Cx)(o:Expr)(m:Str)(apos:Pos)(e:Expr)(cpos:Pos):Prop where
 base:attributeBase o m X.env (eval o X.env)=eval o X.env
 few:((backTo cpos (starEach [e] X.env)).all (λx=>!x.1) && (backToKw cpos (keywordEach [] X.env)).all (λx=>x.1.isSome)
  && decide (([e]:List Expr).length+([]:List Keyword).length+(if([]:List Keyword).isEmpty then 0 else 1)<30))=true
 line:(apos.endLine==cpos.line)=true
 trees:backTo cpos (starEach [e] X.env)=[(false,eval e X.env)]
def IsD(H:Hp)(a:Addr):Prop:=(∃Z,Rd H a<|.dK Z) \/ ∃Z,Rd H a<|.dT Z
def AN(I:Inv X M U H s)(d:IsD H a):
  s.TypeIs (.ref a) "dict" /\(∀b,Value.ref a=.ref b->∃Z,s.heap.get? b=some Z/\Z.dict=none)/\(a==sysModules)=false:=by
 rcases d with⟨J,e⟩|⟨J,e⟩
 .obtain ⟨_,hd,vs,_,dd⟩:=Wu I.hok e
  refine⟨dd.typeIs,λb q=>?_,hd⟩;cases q;obtain⟨Z,_,_,L,G,_⟩:=dd;exact⟨Z,L,G.2.1⟩
 .obtain ⟨_,hd,xs,_,dd⟩:=Td I.hok e
  refine⟨dd.typeIs,λb q=>?_,hd⟩;cases q;obtain⟨Z,_,_,L,G,_⟩:=dd;exact⟨Z,L,G.2.1⟩
section
def Ab(D:A.units+1<cLine)(I:Inv X J U H s)(g:Vg H a y o)(T:RelV y u)(h:∀O R,Inv X J U H R->RelV (o.getD .non) O->Q O R):
  wpAny (model X.prog X.w) A (call (.builtin "dict.get") [.ref a,u]) Q E s:=by
 rcases g with⟨L,k,e,N,l⟩|⟨L,k,b,e,N,F,l⟩
 .subst N
  obtain⟨z,M,S,Z,G⟩:=Wu I.hok e;refine call_meetsIn jM G.typeIs PySem.F.entry_dict_get (PySem.F.args_dict_get_2 _ _) (meets_dict_get (Y8 X.prog X.w) a (XM T) M) ⟨_,G.mapOf,h _ _ (I.tok _) ?_⟩;rw[l];exact(Z.val k).getD rfl
 .subst N
  cases(show u=Value.ref b from T);obtain⟨z,M,B,Z,G⟩:=Td I.hok e;refine call_meetsIn jM G.typeIs PySem.F.entry_dict_get (PySem.F.args_dict_get_2 _ _) (meetsH_dict_get (tupleKind<|Y8 X.prog X.w) a b M) ⟨je D,k,B,Wa I.hok F,G,h _ _ (I.tok _) ?_⟩;rw[l];exact(Z.val k).getD rfl
end
def Q8(td ty:TE):TE:=λU H Q=>td U H λx J=>V6 x λa=>IsD J a/\ty U J λy Z=>∃o,Vg Z a y o/\Q (o.getD .non) Z
section
def G4(D:X.A.units+1<cLine)(E:PE X o td)(F:PE X e ty)(m:M1 X o "get" apos e cpos):PE X (.Call (.Attribute o "get" apos) [e] [] cpos) (Q8 td ty):=by
 intro Z s U H Q I h;refine wpAny_Call_method m.base m.few m.line PySem.F.plainAttrs_dict jM PySem.F.type_dict_get<|thn (E Z s U H _ I h) λu O ⟨x,j,L,T,J⟩=>?_;replace J:=V6.old J;obtain⟨a,A,d,J⟩:=J;subst A;obtain rfl:u=Value.ref a:=T;obtain⟨N,M,_⟩:=AN L d;exists N,M;rw[m.trees];refine Calls.callWith_builtin Y (Calls.evalArgs_plain<|Calls.spliced_cons<|thn (F Z O U j _ L J) λp t ⟨y,P,C,R,k,g,B⟩=>Calls.spliced_nil ?_);exact Ab D C g R λz q S G=>⟨_,P,S,G,B⟩
end
end L2
namespace Att
open PySem PySem.W PySem.Calls PyProof.Rows
def Ww:∀(Z:List Int)(J:List Value),WellAll P h J (Z.map WData.int)->IntsAre J Z:=by
 intro Z
 induction Z with
 |nil=>
  intro J w;rw[vG]at w;cases w;exact .nil
 |cons n Z ih=>
  intro J w;rw[ZV]at w
  cases w with
  |cons a b=>
   cases a;exact .cons _ _<|ih _ b
def FB{l:OpenLaw}(I:l.most=some n)(J:l.row.toRowW.claim.pre args=true)(O:WellAll P h vals args):
  ∃a T Z,vals=[Value.ref a]/\args=[WData.list (Z.map WData.int)]/\h.get? a=some {cls:=.type "list",data:=.seq T.toArray}/\IntsAre T Z/\Z.length<=n:=by
 have R:WShape.hasAll [] args [.list .int]=true:=(pre_splitW J).1;have B:l.pre.holds [] {args:=args}=true:=(pre_splitW J).2;obtain⟨d,r,rfl,C,U⟩:=hasAllW_cons R;obtain rfl:=hasAllW_nil U;obtain⟨X,rfl,S⟩:=hasW_list C;obtain⟨Z,rfl⟩:=items_int S
 have G:Z.length<=n:=by
  unfold OpenLaw.pre at B
  have N:(WTm.not<|.lt (.lit<|.int (n:Int))<|.len<|.arg 0).holds [] {args:=[.list (Z.map .int)]}=true:=by
   have N:=(holds_andW B).1;rw[I]at N;exact N
  have M:=condW_of N<|w_not<|w_lt w_lit<|w_len_list<|w_arg rfl;rw[ZA]at M;refine jD λq=>?_;have F:(n:Int)<((Z.length:Nat):Int):=by omega
  first
   |(rw[decide_eq_true F]at M;exact Zr M<|by decide)
   |(simp at M;omega)
 cases O with
 |cons E D=>
  cases D
  cases E with
  |list A L=>exact⟨_,_,Z,Y,Y,A,Ww Z _ L,G⟩
def FH(l:OpenLaw)(args:List WData):l.row.toRowW.claim.post args (.bool true) args=true:=
 postW_of (r:=l.row.toRowW) (X:=(true==true))
  (show WShape.has [] (.bool true) .bool=true by first|rfl|decide|simp[WShape.has,WShape.arms,WShape.armsAll])
  (show(WTm.eq .res<|.lit<|.bool true).value [] {args:=args,res:=some<|.bool true,after:=args}=some (.bool<|true==true)from w_eq_bool (w_res rfl) w_lit) rfl
theorem attach_call{l:OpenLaw}(g:l.most=some n)(X:d.params.defaults=[])(call:∀(w:World)(J Z:Shared)(F S:Str->Option Value)(B:Addr)(o:Obj)(I A M:Value)(a:Addr)(N:List Value)(E:List Int),
   Ground q loose [] XP w J F S Z.heap->YP w Z.heap->
   Z.heap.get? B=some o->o.data=.func (docDef d.name d.params d.body d.scope I A M)->Z.heap.CodeRec A d.name->F d.name=some (.ref B)->
   Z.heap.get? a=some {cls:=.type "list",data:=.seq N.toArray}->IntsAre N E->E.length<=n->Z.gens= #[]->
   codeAny (model l.prog w) callerA (.call (.ref B) ⟨[.ref a],[]⟩) (λr D=>r=.ok (.ret<|.bool true)/\OldK Z.heap D.heap/\D.os=Z.os/\AllBare D.gens) Z):
  WalkO q loose XP YP l.row.toRowW d [] (λf N=>PySem.call f N):=by
 intro w J Z F S G Y B o I A M i kV m u P y C c args Q s O j z U p;obtain rfl:i=.none:=Dflts.none y X;obtain rfl:kV=.none:=Dflts.noKw y;obtain⟨a,N,E,rfl,rfl,R,L,T⟩:=FB g O U;refine enter_call<|jV (call w J Z F S B o I A M a N E G Y m (fd_plain u) P C R L T c) λr D t=>?_;obtain⟨rfl,e,b,v⟩:=t;exact⟨.inl ⟨.bool true,.bool true,[],rfl,λ_=>rfl,.bool true,FH l _,λ_=>⟨List.Pairwise.nil,λ_ k=>(nomatch k)⟩⟩,e,b,v⟩
end Att
namespace L2
open PySem PySem.Spec PyProof.Rows
theorem Tw:∀{Z:kq}{J:kB},IntsAre Z J->Vals (J.map V.int) Z
 |_,_,.nil=>.nil
 |_,_,.cons n t h=>.cons ⟨t,rfl⟩<|Tw h
def Ae(H:Hp):Prop:=∀b,H b=none \/ ∃o Z,H b=some (.frz o<|.lst Z)
def LH{K:W.Frag}(KX:K.In s₁.heap)(D:s₁.heap.Ns mainGlobals C)(J:s₁.heap.Ns builtinsNs mb)(y:∀x:Str,x≠"__name__" ->mb x=bootBuiltins x)(E:s₁.heap.NoLimit)(hg:s₁.gens= #[])(X:s₁.heap.get? a=some {cls:=.type "list",data:=.seq N.toArray})(l:IntsAre N U)(f:U.length<=sizeLine)(hr:Vo k callerA)(F:∀base:Heap,K.In base->base.Ns mainGlobals C->Yf P w K C base CX k fa fd [x] sp)(M:∀(s:Shared)(u:Value),BindsTo s fd ⟨[u],[]⟩ [(x,u)])(j:∀H:Hp,Ae H->SqL K H a (U.map V.int)->sp [.ref a] H (λv _=>v=.bl true) λ_ _ _=>False)(t:∀H e G,CX [] H s₁ (λ_ _ _=>False) e G->False):
  codeAny (model P w) callerA (.call (.ref fa) ⟨[.ref a],[]⟩) (λr G=>r=.ok (.ret<|.bool true)/\OldK s₁.heap G.heap/\G.os=s₁.os/\AllBare G.gens) s₁:=by
 have c:=Tw l;have R:=l.length;have core:∀H:Hp,Ae H->SqL K H a (U.map V.int)->HOk P w H s₁.heap->(∀b,H b≠none->b=a)->(H a≠none->K.lookup a=none)->
   codeAny (model P w) callerA (.call (.ref fa) ⟨[.ref a],[]⟩) (λr G=>r=.ok (.ret<|.bool true)/\OldK s₁.heap G.heap/\G.os=s₁.os/\AllBare G.gens) s₁:=by
  intro H i hS B hA hK;have Z:∀{b:Addr}{o:Obj},s₁.heap.get? b=some o->H b=none->(Mg s₁.heap H).get? b=some o:=λe n=>LS e n
  have Q:∀{b:Addr}{o:Obj}{I:Array DictEntry}{S:Nat},s₁.heap.get? b=some o->o.data=.dict I S->H b=none:=λ{b o I S} e d=>by
   cases q:H b with
   |none=>rfl
   |some u=>
    have g:b=a:=hA b (by rw[q];simp);subst g;rw[X]at e;cases e;have d':Data.seq N.toArray _=Data.dict I S:=d;cases d'
  have L:∀{b:Addr}{m:Str->Option Value},s₁.heap.Ns b m->(Mg s₁.heap H).Ns b m:=λ{b m} ⟨o,I,S,e,d,r⟩=>⟨o,I,S,Z e<|Q e d,d,r⟩
  have A:K.In (Mg s₁.heap H):=λb o e=>Z (KX b o e) (by
   cases q:H b with
   |none=>rfl
   |some u=>
    have g:b=a:=hA b (by rw[q];simp);subst g;rw[hK (by rw[q];simp)]at e;cases e)
  have hM:Mod K C (Mg s₁.heap H):=⟨A,L D,⟨mb,L J,y⟩,let⟨mc,h1,h2⟩:=E;⟨mc,L h1,h2⟩⟩;have e0:Dy P w K C (Mg s₁.heap H) callerA [] s₁ H:=⟨rfl,hM,λb o e=>Pc e,jF<|FV _ _,trivial,λb J=>Zr (show b∈([]:kC)from J) (by simp),B,.of_eq hg⟩;refine jV ((F _ A<|L D).run callerA [] s₁ H ⟨[.ref a],[]⟩ [.ref a] [.ref a] _ _ hr e0 (M s₁<|.ref a) (.cons rfl .nil)<|j H i hS) λr G h=>?_
  cases r with
  |error e=>exact(t H e G h).elim
  |ok fl=>
   cases fl with
   |next=>exact False.elim h
   |brk=>exact False.elim h
   |cont=>exact False.elim h
   |ret u=>
    obtain⟨v,H',os,bare,p,T,r',q⟩:=h;have q':v=.bl true:=q;subst q';obtain rfl:u=Value.bool true:=r';refine⟨Y,OldK.of_keep λb o e=>?_,os,bare⟩
    cases q:H b with
    |none=>exact p.keep b o e q (by intro z;exact Zr (show b∈([]:kC)from z)<|by simp)<|by simp
    |some u=>
     rcases i b with z|⟨ob,xs,z⟩
     .rw [q]at z;cases z
     .have z2:=p.frzs b ob _ z
      obtain⟨e1,_⟩:=B b _ z;obtain⟨e2,_⟩:=T b _ z2;rw[e]at e1;cases e1;exact e2
 cases hk:K.lookup a with
 |some o=>
  have e:=KX a o hk;rw[X]at e;cases e;refine core (λ_=>none) (λ_=>.inl Y) (.inr ⟨_,N.toArray,_,hk,Y,Y,Y,by rw[ZO,R];exact f,by simpa using c⟩) (λb u z=>by have O:(none:Option HO)=some u:=z;cases O) (λb z=>Zr Y z) λz=>Zr Y z
 |none=>
  refine core (λb=>if b=a then some (.frz {cls:=.type "list",data:=.seq N.toArray}<|.lst<|U.map V.int)else none) (λb=>?_) (.inl<|.inr ⟨{cls:=.type "list",data:=.seq N.toArray},Zp rfl⟩) (λb u z=>?_) (λb z=>?_) λ_=>hk
  .by_cases J:b=a
   .exact .inr ⟨_,_,Zp J⟩
   .exact .inl (Zq J)
  .by_cases J:b=a
   .have O:=(Zp J).symm.trans z
    cases O;subst J;exact⟨X,by rw[ZA];exact f,N,_,c,X⟩
   .have O:=(Zq J).symm.trans z
    cases O
  .by_cases J:b=a
   .exact J
   .exact Zr (Zq J) z
theorem walk_of{l:W.OpenLaw}{K:Params->W.Frag}{CX:World->CXT}{sp:World->Sp}(Q:l.most=some n)(D:n<=sizeLine)(A:d.params.defaults=[])(P:Vo k callerA)(t:∀(w:World)(h:Heap),YP w h->(K w.params).In h)(F:∀(w:World)(L:Str->Option Value)(R:Addr)(h:Heap),(K w.params).In h->h.Ns mainGlobals L->L d.name=some (.ref R)->
   ∃S:FuncData,(∀(s:Shared)(u:Value),BindsTo s S ⟨[u],[]⟩ [(x,u)])/\
    ∀base:Heap,(K w.params).In base->base.Ns mainGlobals L->Yf l.prog w (K w.params) L base (CX w) k R S [x] (sp w))(B:∀(w:World)(H:Hp)(a:Addr)(O:kB),O.length<=n->Ae H->SqL (K w.params) H a (O.map V.int)->sp w [.ref a] H (λv _=>v=.bl true) λ_ _ _=>False)(I:∀(w:World)(H:Hp)(s:Shared)(e:Value)(T:Shared),CX w [] H s (λ_ _ _=>False) e T->False):
  W.WalkO q loose XP YP l.row.toRowW d [] (λf U=>PySem.call f U):=by
 refine Att.attach_call Q A λw C M L b R o r cd c a U O G Y i hd y E N J Z j=>?_;have X:=t w _ Y;obtain⟨S,z,p⟩:=F w L R _ X G.T.g E;exact LH X G.T.g G.T.b G.T.builtins G.T.nolimit j N J (Zb Z D) P p z (λH g m=>B w H a O Z g m) λH e T=>I w H M e T
def inClass(s:Stmt)(j:Nat):Stmt:=match s with
 |.ClassDef _ _ _ body _ _ _ _ _ _ _=>body.getD j<|.Pass ⟨0,0,0,0⟩
 |_=>.Pass ⟨0,0,0,0⟩
def JI(s:Stmt):Arguments:=match s with
 |.FunctionDef _ a _ _ _ _ _ _ _ _=>a
 |_=>{posonlyargs:=[],args:=[],vararg:=none,kwonlyargs:=[],kw_defaults:=[],kwarg:=none,defaults:=[]}
def Vm(s:Stmt):List Stmt:=match s with
 |.FunctionDef _ _ b _ _ _ _ _ _ _=>b
 |_=>[]
def Yc(s:Stmt):Scope:=match s with
 |.FunctionDef _ _ _ _ _ _ sc _ _ _=>sc
 |_=>{kind:=.function,names:=[],isGenerator:=false,isCoroutine:=false}
abbrev CX0:CXT:=λ_ _ _ _ _ _=>False
abbrev E0:XK:=λ_ _ _=>False
def Y2:Um CX0 X E0:=λ_ _ _ _ _ _ _ h=>h.elim
structure Fun(K:W.Frag)(x qual:Str)(st:Stmt)(f:Addr)(fd:FuncData):Prop where
 ex:∃(oc:Value)(od:Option Addr)(kV doc pm:Value)(an:Option Addr)(cdv ct:Value)(osl:Array (Option Value)),
  fd=W.fnOf x qual (JI st) (Vm st) (Yc st) .none kV doc pm an cdv ct/\K.lookup f=some ⟨oc,od,.func fd,osl⟩/\W.codeIn K cdv qual=true
 kp:W.keepIn K (.ref f)=true
section
variable{K:W.Frag}
def Fun.ok{st:Stmt}(F:Fun K x qual st f X)(S:Yh N B (Yc st))(M:∀G H Q E,T G H Q E->G.length=B.length)(L:∀(J:Value)(A:Around)(Z:List Env)(s:Shared)(H:Hp)(G:kH)(Q:VK)(E:XK),Vo k (A.deeper<|envOfC qual (Yc st) s.heap.objs.size f J)->T G H Q E->
   ∃t,PSs (Vf CX0 P w K I base N qual (Yc st) f J A Z s H E).nox (Vm st) t/\t {nx:=λ_ y=>Q .non y,rt:=Q} (start N G) H):Yf P w K I base CX0 (k+1) f X B T:=by
 obtain⟨g,m,kV,j,z,c,J,p,D,rfl,U,R⟩:=F.ex;refine Ql U R S M λA Z s H G Q E C O=>?_;obtain⟨t,h,q⟩:=L J A Z s H G Q E C O;exact⟨t,h.nox,q⟩
def Fun.oq{st:Stmt}(F:Fun K x qual st f B)(S:Yh N R (Yc st))(J:∀(L:Value)(A:Around)(Z:List Env)(s:Shared)(H:Hp)(G:kH)(Q:VK)(E:XK),Vo k (A.deeper<|envOfC qual (Yc st) s.heap.objs.size f L)->O G H Q E->
   ∃t,PSs (Vf CX0 P w K T base N qual (Yc st) f L A Z s H E).nox (Vm st) t/\t {nx:=λ_ D=>Q .non D,rt:=Q} (start N G) H)(M:∀G H Q E,O G H Q E->G.length=R.length:=by intro G H Q E h;repeat (obtain⟨e,h⟩:=h;first|(subst e;exact Y)|skip)):Yf P w K T base CX0 (k+1) f B R O:=F.ok S M J
def Fun.binds{st:Stmt}(F:Fun K x qual st f B)(h:∀(kV Z L:Value)(N:kD)(J M:Value)(G:kq),G.length=O.length->bindArgs (W.fnOf x qual (JI st) (Vm st) (Yc st) .none kV Z L N J M) ⟨G,[]⟩=pure (O.zip G)):Binds K B O []:=by
 obtain⟨E,D,kV,Z,L,N,J,M,R,rfl,A,T⟩:=F.ex;exact .all<|h kV Z L N J M
def Lk{st:Stmt}{kV J G Z L:Value}(l:K.lookup f=some ⟨oc,od,.func<|W.fnOf x qual (JI st) (Vm st) (Yc st) .none kV J G an Z L,osl⟩)(c:W.codeIn K Z qual=true)(k:W.keepIn K (.ref f)=true):Fun K x qual st f (W.fnOf x qual (JI st) (Vm st) (Yc st) .none kV J G an Z L):=⟨⟨oc,od,kV,J,G,an,Z,L,osl,rfl,l,c⟩,k⟩
end
def V9(Z:Vo k A):A.units+1<cLine:=jq (Nat.add_le_add_left (by decide:1<=64) _) Z.units
def Yj(h:n<=1000):n<sizeLine:=jq h<|by decide
section
def pv(i:Nat)(L:X.N[i]?=some x:=by rfl)(J:Vis X.env.scope x:=by first|exact Or.inl Y|exact Or.inr (Or.inl Y)|exact Or.inr<|Or.inr rfl)(G:(x==("__debug__":Str))=false:=by decide)(Z:(x==("__classdict__":Str))=false:=by decide):PE X (.Name x pos) (BF i):=Sh L J G Z
end
def AM{c A B:Prop}[Decidable c](J:c->A)(Z:¬c->B):if c then A else B:=by
 by_cases h:c
 .rw [Zp h]
  exact J h
 .rw [Zq h]
  exact Z h
def Same(H H':Hp):Prop:=∀b o,H b=some o->H' b=some o
def Same.refl(H:Hp):Same H H:=λ_ _ h=>h
abbrev Z8:=@Same.refl
def Same.trans(a:Same H J)(b:Same J Z):Same H Z:=λc o h=>b c o<|a c o h
def Same.free(e:Same H Z)(h:Z l=Option.none):H l=Option.none:=by
 cases q:H l with
 |none=>rfl
 |some o=>
  rw[e l o q]at h;cases h
def Same.seq{K:W.Frag}(e:Same H J)(h:SqL K H a Z):SqL K J a Z:=by
 rcases h with(h|⟨o,h⟩)|h
 .exact .inl (.inl<|e _ _ h)
 .exact .inl (.inr ⟨o,e _ _ h⟩)
 .exact .inr h
end L2
namespace PySem.W
open PySem PyProof.Rows
end PySem.W
namespace L2
open PySem PySem.Spec PyProof.Rows
def Do(O:List (Str×NameKind)):∀(Z:List (Str×Addr)),(∀x∈O,x.2=.free->∃c,env.cells.lookup x.1=some c)->
  ∃L,(forIn O Z (λ(x:Str×NameKind)(r:List (Str×Addr))=>(if(x.2==NameKind.free)=true then do let c <-cellOf env x.1;pure (ForInStep.yield ((x.1,c)::r))else pure (ForInStep.yield r):Sem (ForInStep<|List<|Str×Addr)))=pure L)/\
   (∀x c,L.lookup x=some c->env.cells.lookup x=some c\/Z.lookup x=some c)/\(∀x,(x,NameKind.free)∈O->∃c,L.lookup x=some c)/\(∀x c,Z.lookup x=some c->∃N,L.lookup x=some N):=by
 induction O with
 |nil=>intro Z _;exact⟨Z,Y,λx c h=>.inr h,λx h=>(nomatch h),λx c h=>⟨c,h⟩⟩
 |cons y r ih=>
  intro Z h;obtain⟨n,k⟩:=y
  by_cases hk:k=.free
  .subst hk
   obtain⟨c,D⟩:=h (n,.free) Za rfl;obtain⟨L,B,T,R,M⟩:=ih ((n,c)::Z) λx J=>h x<|ZM _ J;refine⟨L,?_,λx N J=>?_,λx J=>?_,λx N J=>?_⟩
   .rw [<-B]
    simp only[vT,beq_self_eq_true,if_true,cellOf,D]
    rfl
   .rcases T x N J with q|q
    .exact .inl q
    .rw [yx]at q
     cases G:x==n with
     |true=>
      rw[G]at q;have:x=n:=by simpa using G
      subst this;cases q;exact .inl D
     |false=>rw[G]at q;exact .inr q
   .rcases Zd.mp J with q|q
    .cases q
     exact M n c<|by simp[yx]
    .exact R x q
   .cases G:x==n with
    |true=>exact M x c<|by simp[yx,G]
    |false=>exact M x N<|by simp[yx,G,J]
  .obtain ⟨L,B,T,R,M⟩:=ih Z λx J=>h x<|ZM _ J
   have G:(k==NameKind.free)=false:=by simpa using hk
   refine⟨L,?_,T,λx J=>?_,M⟩
   .rw [<-B]
    simp only[vT,G,vH,if_false]
    rfl
   .rcases Zd.mp J with q|q
    .cases q;exact Zr Y hk
    .exact R x q
def Dn(h:∀x∈scope.names,x.2=.free->∃c,env.cells.lookup x.1=some c):
  ∃Z,closureFor scope env=pure Z/\(∀x c,Z.lookup x=some c->env.cells.lookup x=some c)/\(∀x,(x,NameKind.free)∈scope.names->∃c,Z.lookup x=some c):=by
 obtain⟨Z,M,L,G,_⟩:=Do scope.names [] h;refine⟨Z,?_,λx c J=>(L x c J).resolve_right (by simp),G⟩;rw[<-bind_pure (pure Z:Sem (List<|Str×Addr)),<-M]
 rfl
theorem Xl{scope:Scope}{Z:Env}{x:Str}:∀{names:List (Str×NameKind)},(names.map λ(n,k)=>if(k==NameKind.free && Z.scope.kind==.function && Z.kindOf n==some .cell)then(n,NameKind.cell)else(n,k)).lookup x=some .cell \/
  (names.map λ(n,k)=>if(k==NameKind.free && Z.scope.kind==.function && Z.kindOf n==some .cell)then(n,NameKind.cell)else(n,k)).lookup x=some .free->(∀y∈names,y.2≠.cell)->(x,NameKind.free)∈names
 |[],h,_=>by simp at h
 |(n,k)::r,h,hc=>by
  have ih:= @Xl scope Z x r;rw[ZV]at h
  have G:∀M:NameKind,(∀J,((n,M)::(r.map λ(n,k)=>if(k==NameKind.free && Z.scope.kind==.function && Z.kindOf n==some .cell)then(n,NameKind.cell)else(n,k))).lookup x=some J->(x=n/\M=J)\/(r.map λ(n,k)=>if(k==NameKind.free && Z.scope.kind==.function && Z.kindOf n==some .cell)then(n,NameKind.cell)else(n,k)).lookup x=some J):=λM J q=>by
   rw[yx]at q
   cases hb:x==n with
   |true=>rw[hb]at q;exact .inl ⟨by simpa using hb,ZT q⟩
   |false=>rw[hb]at q;exact .inr q
  dsimp only at h
  split at h
  .rename_i hk
   have O:k=.free:=by
    cases k <;> simp at hk
    rfl
   subst O;rcases h with h|h
   .rcases G _ _ h with⟨e,_⟩|q
    .subst e;exact Za
    .exact ZM _ (ih (.inl q) λy L=>hc y<|ZM _ L)
   .rcases G _ _ h with⟨e,_⟩|q
    .subst e;exact Za
    .exact ZM _ (ih (.inr q) λy L=>hc y<|ZM _ L)
  .rcases h with h|h
   .rcases G _ _ h with⟨e,N⟩|q
    .exact Zr N (hc (n,k) Za)
    .exact ZM _ (ih (.inl q) λy L=>hc y<|ZM _ L)
   .rcases G _ _ h with⟨e,N⟩|q
    .subst e;subst N;exact Za
    .exact ZM _ (ih (.inr q) λy L=>hc y<|ZM _ L)
def Nr(I:Nat->Shared->Prop)(turn:∀n s,I n s->wpAny (model prog w) A (pyNext L) (λr G=>match r with
   |none=>R (.ok .next) G
   |some v=>wpAny (model prog w) A (letOwnedTupleGo target L v) (λ_ J=>wpAny (model prog w) A (assign target env v) (λ_ T=>wpAny (model prog w) A (eval elt env) (λx O=>
     wpAny (model prog w) A (call (.builtin "list.append") [acc,x]) (λ_ N=>∃m,m<n/\I m N) (λ_ _=>False) O)
     (λ_ _=>False) T) (λ_ _=>False) J) (λ_ _=>False) G) (λ_ _=>False) s)(n:Nat)(h:I n s):codeAny (model prog w) A
   (.compLoop (.ListComp elt [⟨target,iter,[],0⟩] scope pos) 0 L acc env) R s:=by
 refine codeAny_loop Y I (λn s D=>wpAny_noted (m:=compTurn (.ListComp elt [⟨target,iter,[],0⟩] scope pos) 0 L acc env) ?_) n h;rw[compTurn_list1];refine Zl<|vF<|Zl<|Zn (turn n s D) (λr G B=>?_) λ_ _ Z=>Z.elim
 cases r with
 |none=>exact Zm B
 |some v=>
  exact Zl (Zn B (λ_ J M=>Zl (Zn M (λ_ T S=>Zl (Zl (Zn S (λx O F=>Zl (Zn F
   (λ_ N E=>Zm<|Zm ⟨rfl,E⟩) λ_ _ Z=>Z.elim)) λ_ _ Z=>Z.elim))) λ_ _ Z=>Z.elim)) λ_ _ Z=>Z.elim)
theorem Wq{Z:Env}{x:Str}:∀{names:List (Str×NameKind)},names.lookup x=some .free->
  (names.map λ(n,k)=>if(k==NameKind.free && Z.scope.kind==.function && Z.kindOf n==some .cell)then(n,NameKind.cell)else(n,k)).lookup x≠some .local
 |[],h=>by simp at h
 |(n,k)::r,h=>by
  have ih:= @Wq Z x r;rw[ZV];dsimp only[rI0,rI,UU];rw[yx]at h
  cases hb:x==n with
  |true=>
   rw[hb]at h;have J:k=.free:=ZT h;subst J
   split <;> simp[yx,hb]
  |false=>
   rw[hb]at h
   split <;> (simp only[yx,hb];exact ih h)
def VX(X:Cx)(N':ky)(scope:Scope)(cl:List (Str×Addr))(C:Addr)(fp:kC)(s:Shared)(H:Hp):Cx:=
 {X with N:=N',s₀:=s,H₀:=H,env:=compEnvC scope cl C X.env,outer:=X.stack,stack:=X.stack,ex:=fp,fn:=λ_=>false,pn:=[],xe:=λ_ _=>False}
def Vq(X:Cx)(own:ky)(ix:List Nat):ky:=own++ ix.map λj=>X.N.getD j ("":Str)
def JA(k:Nat)(ix:List Nat)(U:St):St:=List.replicate k none++ ix.map λj=>U.getD j none
def GK(k:Nat)(g:TG):Prop:=∀x U H Q,g x U H Q->g x U H fun σ2 Z=>Q σ2 Z/\σ2.length=U.length/\σ2.drop k=U.drop k
def Vk(h:i<k):GK k (Vl i):=λx U H Q q=>⟨q,by simp,by rw[List.drop_set,Zp h]⟩
def GKs(k:Nat)(g:TGs):Prop:=∀x U H Q,g x U H Q->g x U H fun σ2 Z=>Q σ2 Z/\σ2.length=U.length/\σ2.drop k=U.drop k
def De:GKs k TY:=λx U H Q q=>by
 match x,q with
 |[],q=>exact⟨q,Y,Y⟩
def XE(R:GK k g)(O:GKs k gs)(N:∀x U H (Q Z:kJ),(∀a b,Q a b->Z a b)->g x U H Q->g x U H Z)(M:∀x U H (Q Z:kJ),(∀a b,Q a b->Z a b)->gs x U H Q->gs x U H Z):GKs k (Jf g gs):=λx U H Q q=>by
 match x,q with
 |v::r,q=>
  refine N _ _ _ _ _ (λa b z=>?_)<|R _ _ _ _ q;obtain⟨L,G,J⟩:=z;refine M _ _ _ _ _ (λc d y=>?_)<|O _ _ _ _ L;exact⟨y.1,y.2.1.trans G,y.2.2.trans J⟩
def Dc{K:W.Frag}(h:GKs k gs):GK k (Ni K n gs):=λx U H Q q=>by
 match x,q with
 |.ref a,q=>
  obtain⟨Z,G,J,q⟩:=q;exact⟨Z,G,J,h _ _ _ _ q⟩
def Tq(J:It)(g:TG)(te:TE)(s0:St)(Q:VK)(H1:Hp):Prop:=∃W:Nat->Nat->List V->Hp->Prop,(∃m,W 0 m [] H1)/\∀i m Z H,W i m Z H->
 Z.length<sizeLine/\((J.stop i H/\∀p,H p=none->Q (.ref p) (upd H p<|.lst Z)) \/
  (J.go i H/\∀x L,J.yld i H x L->g x s0 L fun σ2 N=>te σ2 N λy M=>∃G,G<m/\W (i+1) G (Z++[y]) M))
def QQ(k:Nat)(ix:List Nat)(wi:TI)(g:TG)(te:TE):TE:=λU H Q=>wi U H λJ Z=>Tq J g te (JA k ix U) Q Z
def Inv.retrack(I:Inv X Z U H s)(O:H D=none)(f:J6 X Z H D)(L:VL X.prog X.w (upd H D o) s.heap D o):Inv X Z U (upd H D o) s:=by
 have G:∀b u,H b=some u->b≠D:=λb u e=>Yb e O;have r:=I.step (h':=s.heap) (H':=upd H D o) (g':=s.gens) (d':=s.drawn) (t':=s.toks) (ch:=[D])
  (λb J=>by
   have e:b=D:=by simpa using J
   subst e;exact⟨f.2.2.2.1,f.2.1,f.2.2.2.2.1,f.2.2.2.2.2⟩)
  (λb o _ _ _ e _=>e) (λb o _ _ _ e _=>⟨o.slots,e⟩) (λb o J e n=>by rw[Yg (λz=>J<|by simp[z])];exact n) (λb o _ e=>⟨o,e⟩)
  (λb M e=>by rw[Yg (G _ _ e)];exact e) (λb o u e=>by rw[Yg (G _ _ e)];exact e) (λb R e=>⟨#[],by rw[Yg (G _ _ e),e];simp⟩) (λm N=>N)
  (λb u e=>by
   by_cases J:b=D
   .subst J;rw[Ye]at e;cases e;exact L
   .rw [Yg J]at e
    exact(I.hok b u e).stay (λc v _ q=>q) (λc q=>by rw[Yg (G _ _ q)];exact q) λc M q=>by rw[Yg (G _ _ q)];exact q) I.bare
 exact r
def Ui(sc:Scope)(outer:List (Str×NameKind))(N:ky)(ix:List Nat):Bool:=
 sc.names.all (λx=>(decide (x.2≠.local) || decide (sc.names.lookup x.1=some .local)) && decide (x.2≠.cell) && (decide (x.2≠.free) || decide (outer.lookup x.1=some .cell) || decide (outer.lookup x.1=some .free))) &&
  ix.all λj=>match N[j]? with
   |some y=>decide<|sc.names.lookup y=some .free
   |none=>false
def Ui.all(Z:Ui sc outer N ix=true):
  (∀x∈sc.names,x.2=.local->sc.names.lookup x.1=some .local)/\(∀x∈sc.names,x.2≠.cell)/\(∀x∈sc.names,x.2=.free->outer.lookup x.1=some .cell\/outer.lookup x.1=some .free)/\∀j∈ix,∃y,N[j]?=some y/\sc.names.lookup y=some .free:=by
 unfold Ui at Z;rw[ZZ,jg,jg]at Z;have each:=λx J=>Z.1 x J;simp only[ZZ,Bool.or_eq_true,decide_eq_true_eq]at each;refine⟨λx J G=>(each x J).1.1.resolve_left λz=>z G,λx J=>(each x J).1.2,λx J M=>?_,λj L=>?_⟩
 .rcases (each x J).2 with(z|z)|z
  .exact Zr M z
  .exact .inl z
  .exact .inr z
 .have q:=Z.2 j L
  cases e:N[j]? with
  |none=>rw[e]at q;cases q
  |some y=>rw[e]at q;exact⟨y,Y,Zt q⟩
structure CB(X:Cx)(own:List Str)(ix:List Nat)(scope:Scope)(pins:List (Addr×Obj))(U:St)(tg:Expr)(cl:List (Str×Addr))(D C:Addr)(fp:List Addr)(it:Addr)(tn:Nat->Heap->Prop)(J:It)(H2:Hp)(s3:Shared):Prop where
 T:Turn X.prog X.w X.K tg J fp it tn
 ok:(VX X (Vq X own ix) scope cl C (D::fp) s3 H2).Ok
 nfp:∀b∈fp,b≠D
 f2:∀b∈fp,J6 X pins H2 b
 fD:J6 X pins H2 D
 I3:Inv X pins U H2 s3
 CD:C≠D
 fC:∀H':Hp,H' C=none->J6 X pins H' C
section
def X1{rest:List Comprehension}(own:ky)(E:List Nat)(hi:PI X tg iter wi)(M:scope.kind=.function)(T3:Ui scope X.env.scope.names X.N E=true)(hs:∀x,foldedSetIterable iter X.env x=pure x)(I:Inv X G U H s)(h:wi U H R)(loop:∀(cl:List (Str×Addr))(D C:Addr)(fp:kC)(it:Addr)(tn:Nat->Heap->Prop)(J:It)(A:Hp)(s3 s5:Shared),CB X own E scope G U tg cl D C fp it tn J A s3->R J A->Inv (VX X (Vq X own E) scope cl C (D::fp) s3 A) [] (JA own.length E U) A s5->tn 0 s5.heap->s5.heap.PlainList D (List.toArray [])->
   codeAny (model X.prog X.w) X.A (.compLoop (.ListComp elt (⟨tg,iter,ifs,0⟩::rest) scope pos) 0 (.ref it) (.ref D)<|compEnvC scope cl C X.env) (compPost (model X.prog X.w) X.A X.xe use POST (.ref D) C) s5):
  wpAny (model X.prog X.w) X.A (comprehension (.ListComp elt (⟨tg,iter,ifs,0⟩::rest) scope pos) scope X.env cpos (newList []) false (eval iter X.env) use) POST X.xe s:=by
 obtain⟨G1,Q,M2,T4⟩:=Ui.all T3;have G2:∀x∈scope.names,x.2=.free->∃c,X.env.cells.lookup x.1=some c:=λx hx hf=>I.ok.has x.1<|M2 x hx hf;obtain⟨cl,T5,Z,L1⟩:=Dn G2;refine wpAny_comprehension_free Y hs T5 M G1 ?_;refine thn (hi G s U H _ I h) λv s1 h1=>thn h1 λT9 w h2=>?_;obtain⟨it,fp,tn,J,A,e,O,T,R3,f2,hR⟩:=h2;subst e;refine vD<|wpAny_newFunctionEnv Q (by intro y hy;simp at hy) (λh4 J2 n=>?_) M;dsimp only at J2 n |-;generalize hh3:w.heap.push {cls:=.type "list",dict:=none,data:=.seq ([]:kq).toArray}=h3 at J2 n |-;have R5:h3.objs.size=w.heap.objs.size+1:=by rw[<-hh3,vg]
 have l:∀b u,w.heap.get? b=some u->h3.get? b=some u:=λb u q=>by rw[<-hh3];exact ZE _ q
 have D3:h3.get? w.heap.objs.size=some {cls:=.type "list",data:=.seq #[]}:=by rw[<-hh3];exact ZY _ Y
 obtain⟨D,g⟩:∃D,D=w.heap.objs.size:=⟨_,rfl⟩;obtain⟨C,hC⟩:∃C,C=h3.objs.size:=⟨_,rfl⟩;rw[<-hC]at J2 n;rw[<-g]at D3 R5;have F:C=D+1:=hC.trans R5
 let s3:Shared:={w with heap:=h3}
 have I3:Inv X G U A s3:=O.kept (t':=w.toks) l;have T2:∀b u,h3.get? b=some u->b<C:=λb u q=>by rw[hC];exact ZP q
 have L:∀b u,h3.get? b=some u->h4.get? b=some u:=λb u q=>n.extBut b u (Ze<|T2 b u q)<|ZE _ q;have T7:A D=none:=O.hok.fresh (by rw[g];exact ZG _);have T8:A C=none:=O.hok.fresh (by rw[F,g];exact jP _);have fD:J6 X G A D:=O.fpOk (by rw[g];exact ZG _) T7
 have f:∀x c,X.env.cells.lookup x=some c->c<D:=λx c e=>by
  obtain⟨v,z⟩:=O.cell x c e;rw[g];exact z.lt
 have O1:∀b∈fp,b<D:=λb N=>by
  obtain⟨o,e,_⟩:=T.obj 0 _ R3 b N;rw[g];exact ZP e
 let X':Cx:=VX X (Vq X own E) scope cl C (D::fp) s3 A
 have R1:∀b∈frs X.stack,b∉D::fp:=λb N z=>by
  rcases Zd.mp z with z|z
  .have q:=O.stack
   obtain⟨_,o,e,_⟩:=q.mem N;have:=ZP e;rw[z,g]at this;exact vb _ this
  .rcases Zd.mp (O.stkSub b N)with q|q
   .exact (f2 b z).2.1 q
   .exact (f2 b z).2.2.1 q
 have R6:X'.Ok:=by
  refine⟨I.ok.mod,M,I.ok.glob,I.ok.blt,?_,λx y c h1 h2=>I.ok.inj x y c (Z x c h1)<|Z y c h2,λx hx=>L1 x<|Xl (scope:=scope) hx Q,(λx c z=>Bool.noConfusion (show false=true from z)),I.ok.hd,I.ok.frames,.inl rfl,λb N=>⟨?_,λx c h1=>?_⟩,λb o e=>?_,?_,λb o e N=>?_,λb N z=>R1 b z N,?_,λb N=>O.stkFree b N⟩
  .show h3.objs.size<=C
   rw[hC];exact ZG _
  .show b≠C
   rcases Zd.mp N with z|z
   .rw [z,F];exact Ze<|yk _
   .rw [F];exact Ze<|Nat.lt_succ_of_lt<|O1 b z
  .rcases Zd.mp N with z|z
   .rw [z];exact Ze<|f x c<|Z x c h1
   .exact (f2 b z).2.2.2.2.1 x c (Z x c h1)
  .exact I3.bs b o e
  .show X.base.objs.size<=h3.objs.size
   have:=Zb I.ok.bsz O.sz;rw[<-g]at this;rw[<-hC,F];exact jw this
  .rcases Zd.mp N with z|z
   .have:=ZP<|O.bk b o e
    rw[z,g]at this;exact vb _ this
   .rcases (f2 b z).2.2.2.1 with q|q
    .exact I.ok.noex b o e q
    .have:=Zx (ZP (I.ok.bs b o e).1) q
     exact vb _ this
  .exact I3.stack
 have R7:(JA own.length E U).length=(Vq X own E).length:=by simp[JA,Vq]
 have I4:∀t,Inv X' [] (JA own.length E U) A {w with heap:=h4,toks:=t}:=λt=>by
  refine⟨R6,Y,O.bare,Un.kept L,⟨_,J2,λi x v e1 e2 e3=>?_⟩,λx c e=>?_,T8,λx c e=>O.freeC x c<|Z x c e,λp hp=>Zr (show p∈([]:ka)from hp) (by simp),(I3.hok).kept L,R7⟩
  .-- a name of the def that the block reads
   have T1:own.length<=i:=by
    apply jD;intro T0;unfold JA at e2;rw[yi (by simpa using T0),vX,Zp T0]at e2;cases e2
   have d:(E.map λj=>X.N.getD j ("":Str))[i-own.length]?=some x:=by
    have z:(own++ E.map λj=>X.N.getD j ("":Str))[i]?=some x:=e1
    rwa [yh T1]at z
   have R4:(E.map λj=>U.getD j none)[i-own.length]?=some (some v):=by
    unfold JA at e2;rw[yh (by simpa using T1)]at e2;simpa using e2
   rw[ZH]at d R4
   cases hj:E[i-own.length]? with
   |none=>rw[hj]at d;cases d
   |some j=>
    rw[hj]at d R4;obtain⟨y,hy,P⟩:=T4 j<|ZJ hj
    have ex:x=y:=by
     have z:X.N.getD j ("":Str)=x:=ZT d;rw[<-z,y9,hy];rfl
    subst ex
    have ev:U[j]?=some (some v):=by
     have z:U.getD j none=some v:=ZT R4;rw[y9]at z
     cases q:U[j]? with
     |none=>rw[q]at z;cases z
     |some a=>rw[q]at z;exact congrArg some z
    have R8:=vy P;have G3:=M2 _ R8 rfl;obtain⟨m,hn,hl⟩:=O.loc;obtain⟨u,r,lk⟩:=hl j x v hy ev<|.inr G3;refine⟨u,r,.inr ⟨?_,?_⟩⟩
    .rcases e3 with z|z
     .exact Zr z (Wq P)
     .exact z
    .rcases lk with⟨k,_⟩|⟨_,c,T6,z⟩
     .rcases G3 with q|q
      .exact Zr (k.symm.trans q) (by simp)
      .exact Zr (k.symm.trans q) (by simp)
     .obtain ⟨c',hc'⟩:=L1 x R8
      have:=Z x c' hc';rw[T6]at this;cases this;obtain⟨o,ho,hd⟩:=z;exact⟨c,hc',o,L _ _<|l _ _ ho,hd⟩
  .obtain ⟨v,z⟩:=I3.cell x c<|Z x c e
   obtain⟨o,ho,hd⟩:=z;exact⟨v,o,L _ _ ho,hd⟩
 have B:CB X own E scope G U tg cl D C fp it tn J A s3:=⟨T,R6,λb N=>Ze<|O1 b N,f2,fD,I3,by rw[F];exact vt<|yk _,λH' hn=>O.fpOk (by rw[F,g];exact jP _) hn⟩;have S:=λt=>loop cl D C fp it tn J A s3 {w with heap:=h4,toks:=t} B hR (I4 t) (T.keep 0 _ _ R3 λb _ o e=>L _ _<|l _ _ e) ⟨_,L _ _ D3⟩;rw[<-hC,<-g];exact codeAny_compStart_list (S _)<|T.self _ 0 _ _ _ (T.keep 0 _ _ R3 λb _ o e=>L _ _<|l _ _ e)<|S _
def CB.stop(B:CB X own ix scope Z U tg cl D C fp P tn J S s3)(G:Inv (VX X (Vq X own ix) scope cl C (D::fp) s3 S) [(D,oD)] τ H5 s6)(T:M.length<sizeLine)(R:Vals M L)(A:oD={cls:=.type "list",data:=.seq L.toArray nn}):
  Inv X Z U (upd H5 D<|.lst M) s6/\J6 X Z (upd H5 D<|.lst M) C/\(∃m,s6.heap.Ns C m)/\H5 D=none:=by
 obtain⟨m,O,_⟩:=id G.loc
 have I:Inv X Z U H5 s6:=B.I3.call' (ch:=D::fp) G.os G.base G.hok G.bare λb E=>by
  rcases Zd.mp E with z|z
  .subst z
   exact⟨B.fD.2.2.2.1,B.fD.2.1,B.fD.2.2.2.2.1,B.fD.2.2.2.2.2⟩
  .have f:=B.f2 b z
   exact⟨f.2.2.2.1,f.2.1,f.2.2.2.2.1,f.2.2.2.2.2⟩
 obtain⟨F,N,_⟩:=G.pin (D,oD) (by simp);subst A;exact⟨I.retrack (o:=.lst M) N ⟨N,B.fD.2⟩ ⟨Zh T,L,nn,R,F⟩,B.fC _ (by rw[Yg B.CD];exact G.free),⟨m,O⟩,N⟩
def Ln(R:Inv X Z U L s6)(J:J6 X Z L C)(N:∃m,s6.heap.Ns C m)(q:Q (.ref D) L):compPost (model X.prog X.w) X.A X.xe none (EP X Z U Q) (.ref D) C (.ok .next) s6:=by
 obtain⟨m,M⟩:=N;exact⟨m,M,λT G=>⟨.ref D,_,R.turned (it:=C) (t':=s6.toks) (λb o O e=>(G.2 b O).trans e) J.1 J.2.1 J.2.2.2.1 J.2.2.2.2.1 J.2.2.2.2.2,Y,q⟩⟩
def Lm{F:Ends}(j:X.N.Nodup)(T:X.N[i0]?=some x0)(N:Loc X.env.scope x0)(P:X.fn x0=true\/X.env.scope.names.lookup x0=some .local)(t:Inv X Z U M s6)(G:J6 X Z M C)(S:∃m,s6.heap.Ns C m)(q:Vl i0 (.ref D) U M F.nx):
  compPost (model X.prog X.w) X.A X.xe (some<|assign (.Name x0 py) X.env) (λ_ I=>∃E M,Inv X Z E M I/\F.nx E M) (.ref D) C (.ok .next) s6:=by
 obtain⟨m,R⟩:=S;show wpAny _ X.A (assign (.Name x0 py) X.env<|.ref D) _ _ _;refine wpAny_assign_Name<|Tz (v:=.ref D) t j T N rfl (λA y J=>?_) P;obtain⟨a,J,L⟩:=J
 have B:C≠a:=by
  rcases L with L|L
  .rw [L];exact G.2.1
  .exact λz=>G.2.2.2.2.1 x0 a L z.symm
 exact⟨m,R.sameBut J B,λg O=>⟨_,_,y.turned (it:=C) (t':=A.toks) (λb o Q e=>(O.2 b Q).trans e) G.1 G.2.1 G.2.2.2.1 G.2.2.2.2.1 G.2.2.2.2.2,q⟩⟩
def EI(J:swapsWith (.ListComp e gens scope pos) (some<|.Name x0 py) spos.line X.env=pure true)(h:wpAny (model X.prog X.w) X.A (comprehension (.ListComp e gens scope pos) scope X.env (firstIterPos gens pos) (newList []) (firstAsync gens) (firstIter gens X.env)<|some<|assign (.Name x0 py) X.env) (λ_ G=>∃L M,Inv X Z L M G/\D0.nx L M) X.xe s):
  wpAny (model X.prog X.w) X.A (exec (.Assign [.Name x0 py] (.ListComp e gens scope pos) spos) X.env) (SP X Z D0) X.xe s:=by
 rw[exec_Assign_Name_used _ _ _ _ J];refine Zl<|vF<|Zl (?_:wpAny _ X.A (do let _ <-comprehension (.ListComp e gens scope pos) scope X.env _ (newList []) _ _ (some<|assign (.Name x0 py) X.env)) _ _ s);exact Zl<|Zn h (λ_ G N=>Zm<|Zm N) λ_ _ e=>e
def CB.loop1(B:CB X own ix scope I U tg F D C M it tn J h s3)(hc:X.calm=true)(R5:GK own.length g)(hg:∀F C M s H,PG (VX X (Vq X own ix) scope F C M s H) tg g)(he:∀F C M s H,PE (VX X (Vq X own ix) scope F C M s H) elt te)(cw:Tq J g te (JA own.length ix U) Q h)(R7:∀a A O,Inv X I U (upd A D<|.lst O) a->J6 X I (upd A D<|.lst O) C->(∃m,a.heap.Ns C m)->Q (.ref D) (upd A D<|.lst O)->Rs (.ok .next) a)(I4:Inv (VX X (Vq X own ix) scope F C (D::M) s3 h) [] (JA own.length ix U) h t)(M2:tn 0 t.heap)(lD:t.heap.PlainList D (List.toArray [])):
  codeAny (model X.prog X.w) X.A (.compLoop (.ListComp elt [⟨tg,iter,[],0⟩] scope pos) 0 (.ref it) (.ref D)<|compEnvC scope F C X.env) Rs t:=by
 obtain⟨W,⟨m0,w0⟩,turn⟩:=cw;have T:=B.T;have N:=B.ok;have G1:=B.nfp
 let E:Cx:=VX X (Vq X own ix) scope F C (D::M) s3 h
 have f:∀{S:Hp}{pl:ka},(∀p∈pl,p.1=D)->(∀b∈M,S b=none)->∀b∈M,J6 E pl S b:=λ{S pl} R hn b L=>
  ⟨hn b L,(N.exf b<|ZM _ L).1,N.exfs b<|ZM _ L,.inl<|ZM _ L,(N.exf b<|ZM _ L).2,λp R1 z=>G1 b L (z ▸ R p (by
   have q:p∈([]:ka)++ pl:=R1;simpa using q))⟩
 have dX:D≠E.env.locals:=(N.exf D Za).1;have dF:D∉E.fs:=N.exfs D Za;refine Nr (λn s'=>∃i O Z S,Inv E [] (JA own.length ix U) S s'/\tn i s'.heap/\(∀b∈M,S b=none)/\S D=none/\s'.heap.PlainList D (List.toArray Z)/\Vals O Z/\W i n O S) ?_ m0
  ⟨0,[],[],h,I4,M2,λb L=>(B.f2 b L).1,B.fD.1,lD,.nil,w0⟩
 rintro n t ⟨i,O,Z,A,I5,J2,G3,d5,⟨nn,l5⟩,v5,w5⟩;obtain⟨hz,c⟩:=turn i n O A w5
 let oD:Obj:={cls:=.type "list",data:=.seq Z.toArray nn}
 have G:∀p∈ [((D,oD):Addr×Obj)],p.1=D:=λp R=>by
  have e:p=(D,oD):=by simpa using R
  rw[e]
 have L1:Inv E [(D,oD)] (JA own.length ix U) A t:=I5.pins_of λp R=>by
  have e:p=(D,oD):=by simpa using R
  subst e;exact⟨l5,d5,dX,dF,λv z=>nomatch z⟩
 rcases c with⟨stop,qn⟩|⟨go,step⟩
 .refine thn (T.done E rfl rfl rfl hc i _ t _ A _ L1 (f G G3) J2 stop) λr a ⟨hr,I6⟩=>?_
  subst hr;obtain⟨z1,z2,z3,nD⟩:=B.stop I6 hz v5 rfl;exact R7 a A O z1 z2 z3<|qn D nD
 .refine thn (T.item E rfl rfl rfl hc i _ t _ A _ L1 (f G G3) J2 go) λr a ⟨u,hr,h6⟩=>?_
  subst hr;refine thn h6 λ_ s7 ⟨x,H7,I7,r7,y7,P,R6⟩=>?_;have T0:=I7.pinned (f G R6)<|T.obj _ _ P;refine thn (hg F C (D::M) s3 h _ s7 _ H7 x u _ T0 r7<|R5 _ _ _ _<|step x H7 y7) λ_ s8 ⟨σ8,H8,I8,q8,l8,k8⟩=>?_;refine thn (he F C (D::M) s3 h _ s8 σ8 H8 _ I8 q8) λyv s9 ⟨y,H9,I9,r9,m',R3,w9⟩=>?_;obtain⟨gD,nD,_⟩:=I9.pin (D,oD) (by simp);have G2:Z.length=O.length:=v5.length.symm;refine wpAny_list_append_plain (l:=D) (items:=Z.toArray) ⟨nn,gD⟩ (λh' R4 O1=>?_) (by rw[ZO,G2];exact Zh hz);have kp:∀b o,b≠D->s9.heap.get? b=some o->h'.get? b=some o:=λb o L q=>(O1.2 b L).trans q
  have R8:Inv E (VU M s7.heap) σ8 H9 s9:=I9.pins_of λp R=>I9.pin p (by
   refine ZU _<|ZU _ R)
  have k:∀p∈E.pn++ VU M s7.heap,p.1≠D:=λp R=>by
   have q:p∈([]:ka)++ VU M s7.heap:=R;exact G1 _ (WT<|by simpa using q).1
  have w:Inv E (VU M s7.heap) σ8 H9 {s9 with heap:=h',toks:=s9.toks}:=R8.turned (it:=D) kp nD dX (.inl Za) (N.exf D Za).2 k;refine⟨m',R3,i+1,O++[y],Z++[yv],H9,?_,?_,?_,nD,?_,v5.append<|.cons r9 .nil,w9⟩
  .refine Inv.weak (w.pins_of (pins':=[]) λp R=>nomatch R) (by rw[l8]) λj v hj=>?_
   by_cases hlt:j<own.length
   .unfold JA at hj
    rw[yi (by simpa using hlt),vX,Zp hlt]at hj;cases hj
   .have e:σ8[j]?=(JA own.length ix U)[j]?:=by
     have q:=congrArg (λl:List (kL)=>l[j-own.length]?) k8;simp only[List.getElem?_drop]at q
     rwa [Nat.add_sub_cancel' (jD hlt)]at q
    rw[e];exact hj
  .exact T.keep _ _ _ P λb L o e=>(w.pin (b,o)<|ZU _<|JS L e).1
  .intro b L
   obtain⟨o,e,d⟩:=T.obj _ _ P b L;exact(w.pin (b,o)<|ZU _<|JS L e).2.1
  .have e:(Z++[yv]).toArray=Z.toArray.push yv:=by simp
   rw[e];exact R4
end
abbrev two(elt tg iter tg2 iter2:Expr)(scope:Scope)(pos:Pos):Expr:=.ListComp elt [⟨tg,iter,[],0⟩,⟨tg2,iter2,[],0⟩] scope pos
section
theorem B3:compTurn (two elt tg iter tg2 iter2 scope pos) 0 Z acc env=(standAt iter.pos >>=λ_=>pyNext Z >>=λr=>match r with
  |none=>pure<|.done .next
  |some v=>letOwnedTupleGo tg Z v >>=λ_=>assign tg env v >>=λ_=>eval iter2 env >>=λx=>standAt iter2.pos >>=λ_=>foldedSetIterable iter2 env x >>=λx=>holding [x] (pyIter x) >>=λj=>
    runOwn (.compStart (two elt tg iter tg2 iter2 scope pos) 1 j acc env) env >>=λ_=>again<|.compLoop (two elt tg iter tg2 iter2 scope pos) 0 Z acc env):=by rfl
theorem DY:compTurn (two elt tg iter tg2 iter2 scope pos) 1 Z acc env=(standAt iter2.pos >>=λ_=>pyNext Z >>=λr=>match r with
  |none=>pure<|.done .next
  |some v=>letOwnedTupleGo tg2 Z v >>=λ_=>assign tg2 env v >>=λ_=>(eval elt env >>=λx=>call (.builtin "list.append") [acc,x] >>=λ_=>pure ()) >>=λ_=>
    again (.compLoop (two elt tg iter tg2 iter2 scope pos) 1 Z acc env)):=by rfl
def LP(I:Nat->Shared->Prop)(turn:∀n s,I n s->wpAny (model prog w) A (pyNext J) (λr Z=>match r with
   |none=>R (.ok .next) Z
   |some v=>wpAny (model prog w) A (letOwnedTupleGo tg2 J v) (λ_ N=>wpAny (model prog w) A (assign tg2 env v) (λ_ M=>wpAny (model prog w) A (eval elt env) (λx L=>
     wpAny (model prog w) A (call (.builtin "list.append") [acc,x]) (λ_ G=>∃m,m<n/\I m G) (λ_ _=>False) L) (λ_ _=>False) M) (λ_ _=>False) N) (λ_ _=>False) Z) (λ_ _=>False) s)(n:Nat)(h:I n s):codeAny (model prog w) A (.compLoop (two elt tg iter tg2 iter2 scope pos) 1 J acc env) R s:=by
 refine codeAny_loop Y I (λn s T=>wpAny_noted (m:=compTurn (two elt tg iter tg2 iter2 scope pos) 1 J acc env) ?_) n h;rw[DY];refine Zl<|vF<|Zl<|Zn (turn n s T) (λr Z O=>?_) λ_ _ z=>z.elim
 cases r with
 |none=>exact Zm O
 |some v=>
  exact Zl (Zn O (λ_ N F=>Zl (Zn F (λ_ M E=>Zl (Zl (Zn E (λx L D=>Zl (Zn D
   (λ_ G B=>Zm<|Zm ⟨rfl,B⟩) λ_ _ z=>z.elim)) λ_ _ z=>z.elim))) λ_ _ z=>z.elim)) λ_ _ z=>z.elim)
def Nb(G:codeAny (model prog w) A (.compLoop (two elt tg iter tg2 iter2 scope pos) 1 Z acc env) R s)(h:wpAny (model prog w) A (pyIter Z) (λj J=>codeAny (model prog w) A (.compLoop (two elt tg iter tg2 iter2 scope pos) 1 j acc env) R J) (λ_ _=>False) s):
  codeAny (model prog w) A (.compStart (two elt tg iter tg2 iter2 scope pos) 1 Z acc env) R s:=by
 refine codeAny_of_tree<|wpAny_notedAt (m:=compStart (two elt tg iter tg2 iter2 scope pos) 1 Z acc env) (pos:=theWindowsPlace) ?_;simp only[compStart];refine Zl (m:=ask)<|wpAny_askSetting ?_
 split
 .exact Zl (Zm<|Zm ⟨rfl,G⟩)
 .exact Zl (jf<|Zl<|vF<|Zl<|Zn h (λj J L=>Zm ⟨rfl,L⟩) λ_ _ z=>z.elim)
def Kb(I:Nat->Shared->Prop)(turn:∀n s,I n s->wpAny (model prog w) A (pyNext J) (λr Z=>match r with
   |none=>R (.ok .next) Z
   |some v=>wpAny (model prog w) A (letOwnedTupleGo tg J v) (λ_ O=>wpAny (model prog w) A (assign tg env v) (λ_ N=>wpAny (model prog w) A (eval iter2 env) (λx M=>
     wpAny (model prog w) A (pyIter x) (λj L=>codeAny (model prog w) (A.mark none) (.compStart (two elt tg iter tg2 iter2 scope pos) 1 j acc env) (λr G=>match r with|.ok _=>∃m,m<n/\I m G|.error _=>False) L) (λ_ _=>False) M) (λ_ _=>False) N) (λ_ _=>False) O) (λ_ _=>False) Z) (λ_ _=>False) s)(D:∀x,foldedSetIterable iter2 env x=pure x)(n:Nat)(h:I n s):codeAny (model prog w) A (.compLoop (two elt tg iter tg2 iter2 scope pos) 0 J acc env) R s:=by
 refine codeAny_loop Y I (λn s E=>wpAny_noted (m:=compTurn (two elt tg iter tg2 iter2 scope pos) 0 J acc env) ?_) n h;rw[B3];refine Zl<|vF<|Zl<|Zn (turn n s E) (λr Z B=>?_) λ_ _ z=>z.elim
 cases r with
 |none=>exact Zm B
 |some v=>
  refine Zl<|Zn B (λ_ O C=>Zl<|Zn C (λ_ N U=>Zl<|Zn U (λx M S=>Zl<|vF ?_) λ_ _ z=>z.elim) λ_ _ z=>z.elim) λ_ _ z=>z.elim;rw[D x];refine Zl<|Zm<|Zl<|wpAny_holding<|Zn S (λj L F=>Zl<|wpAny_runOwn<|jV F λr G T=>?_) λ_ _ z=>z.elim
  cases r with
  |error e=>exact T.elim
  |ok f=>exact Zm ⟨Y,T⟩
end
def In2(wi2:TI)(te:TE)(W:Nat->Nat->List V->Hp->Prop)(i m:Nat)(ys:kH):kJ:=λU H=>wi2 U H λN B=>∃M:Nat->Nat->List V->Hp->Prop,(∃L,M 0 L ys B)/\∀j L G J,M j L G J->
 G.length<sizeLine/\((N.stop j J/\∃O,O<m/\W (i+1) O G J) \/
  (N.go j J/\∀y R,N.yld j J y R->te (U.set 1<|some y) R λv T=>∃Z,Z<L/\M (j+1) Z (G++[v]) T))
def Dz(J:It)(wi2:TI)(te:TE)(s0:St)(Q:VK)(H1:Hp):Prop:=∃W:Nat->Nat->List V->Hp->Prop,(∃m,W 0 m [] H1)/\∀i m Z H,W i m Z H->
 Z.length<sizeLine/\((J.stop i H/\∀p,H p=none->Q (.ref p) (upd H p<|.lst Z)) \/
  (J.go i H/\∀x G,J.yld i H x G->In2 wi2 te W i m Z (s0.set 0<|some x) G))
def IP(ix:List Nat)(wi wi2:TI)(te:TE):TE:=λU H Q=>wi U H λJ Z=>Dz J wi2 te (JA 2 ix U) Q Z
def Qj(h:Vl i x U H Q):Vl i x U H fun σ2 Z=>Q σ2 Z/\σ2=U.set i (some x):=⟨h,rfl⟩
section
def CB.loop2(B:CB X [x1,x2] ix scope G1 U (.Name x1 p1) E D C Z it tn J w s3)(hc:X.calm=true)(hg:∀E C Z s H,PG (VX X (Vq X [x1,x2] ix) scope E C Z s H) (.Name x1 p1)<|Vl 0)(F9:∀E C Z s H,PI (VX X (Vq X [x1,x2] ix) scope E C Z s H) (.Name x2 p2) iter2 wi2)(I2:∀E C Z s H,PG (VX X (Vq X [x1,x2] ix) scope E C Z s H) (.Name x2 p2)<|Vl 1)(he:∀E C Z s H,PE (VX X (Vq X [x1,x2] ix) scope E C Z s H) elt te)(F5:∀env x,foldedSetIterable iter2 env x=pure x)(cw:Dz J wi2 te (JA 2 ix U) Q w)(fin:∀g f A,Inv X G1 U (upd f D<|.lst A) g->J6 X G1 (upd f D<|.lst A) C->(∃m,g.heap.Ns C m)->Q (.ref D) (upd f D<|.lst A)->Rs (.ok .next) g)(I4:Inv (VX X (Vq X [x1,x2] ix) scope E C (D::Z) s3 w) [] (JA ([x1,x2]:ky).length ix U) w s5)(E2:tn 0 s5.heap)(lD:s5.heap.PlainList D (List.toArray [])):
  codeAny (model X.prog X.w) X.A (.compLoop (two elt (.Name x1 p1) iter (.Name x2 p2) iter2 scope pos) 0 (.ref it) (.ref D)<|compEnvC scope E C X.env) Rs s5:=by
 have I1:GK ([x1,x2]:ky).length (Vl 0):=Vk (i:=0) (by simp);obtain⟨W,⟨m0,w0⟩,turn⟩:=cw;have T:=B.T;have I:=B.ok;have T6:=B.nfp
 let N:Cx:=VX X (Vq X [x1,x2] ix) scope E C (D::Z) s3 w
 have R6:∀{R:Hp}{pl:ka},(∀p∈pl,p.1=D)->(∀b∈Z,R b=none)->∀b∈Z,J6 N pl R b:=λ{R pl} M hn b G=>
  ⟨hn b G,(I.exf b<|ZM _ G).1,I.exfs b<|ZM _ G,.inl<|ZM _ G,(I.exf b<|ZM _ G).2,λp y z=>T6 b G (z ▸ M p (by
   have q:p∈([]:ka)++ pl:=y;simpa using q))⟩
 have dX:D≠N.env.locals:=(I.exf D Za).1;have dF:D∉N.fs:=I.exfs D Za;refine Kb (λn s'=>∃i A L R,Inv N [] (JA ([x1,x2]:ky).length ix U) R s'/\tn i s'.heap/\(∀b∈Z,R b=none)/\R D=none/\s'.heap.PlainList D (List.toArray L)/\Vals A L/\W i n A R) ?_ (F5 _) m0
  ⟨0,[],[],w,I4,E2,λb G=>(B.f2 b G).1,B.fD.1,lD,.nil,w0⟩
 rintro n s5 ⟨i,A,L,f,I5,T4,D1,d5,⟨nn,l5⟩,v5,w5⟩;obtain⟨hz,R4⟩:=turn i n A f w5
 let oD:Obj:={cls:=.type "list",data:=.seq L.toArray nn}
 have F:∀p∈ [((D,oD):Addr×Obj)],p.1=D:=λp M=>by
  have e:p=(D,oD):=by simpa using M
  rw[e]
 have D3:Inv N [(D,oD)] (JA ([x1,x2]:ky).length ix U) f s5:=I5.pins_of λp M=>by
  have e:p=(D,oD):=by simpa using M
  subst e;exact⟨l5,d5,dX,dF,λv z=>nomatch z⟩
 rcases R4 with⟨stop,qn⟩|⟨go,step⟩
 .refine thn (T.done N rfl rfl rfl hc i _ s5 _ f _ D3 (R6 F D1) T4 stop) λr g ⟨hr,I6⟩=>?_
  subst hr;obtain⟨z1,z2,z3,nD⟩:=B.stop I6 hz v5 rfl;exact fin g f A z1 z2 z3<|qn D nD
 .refine thn (T.item N rfl rfl rfl hc i _ s5 _ f _ D3 (R6 F D1) T4 go) λr g ⟨u,hr,h6⟩=>?_
  subst hr;refine thn h6 λ_ O ⟨x,H7,I7,r7,y7,R1,fr7⟩=>?_;have I7':=I7.pinned (R6 F fr7)<|T.obj _ _ R1;refine thn (hg E C (D::Z) s3 w _ O _ H7 x u _ I7' r7<|I1 _ _ _ _<|Qj (Q:=In2 wi2 te W i n A)<|step x H7 y7) λ_ s8 ⟨σ8,H8,I8,q8,l8,k8⟩=>?_;have e8:σ8=(JA ([x1,x2]:ky).length ix U).set 0 (some x):=by exact q8.2
  replace q8:=q8.1;refine thn (F9 E C (D::Z) s3 w _ s8 σ8 H8 _ I8 q8) λv9 s9 h9=>thn h9 λjv P S2=>?_;obtain⟨F3,S,G3,J2,T1,ej,T0,T2,a,R7,W2,⟨F2,E1⟩,G2⟩:=S2;subst ej;rw[Around.mark_none];obtain⟨gD0,F1,_⟩:=T0.pin (D,oD) (by simp);have T7:∀b∈S,b≠D:=λb G z=>(R7 b G).2.2.2.2.2 (D,oD) (by simp) z.symm
  have cut:∀{H9:Hp}{σ9:St}{s9:Shared}{more:ka},Inv N (([(D,oD)]++ VU Z O.heap)++ more) σ9 H9 s9->Inv N (VU Z O.heap) σ9 H9 s9:=λ{H9 σ9 s9 more} I9=>
   I9.pins_of λp M=>I9.pin p<|ZU _<|yn _<|ZU _ M
  have R3:∀p∈N.pn++ VU Z O.heap,p.1≠D:=λp M=>by
   have q:p∈([]:ka)++ VU Z O.heap:=M;exact T6 _ (WT<|by simpa using q).1
  have R5:∀{H9:Hp}{o9:Obj},(∀b∈S,H9 b=none)->∀b∈S,J6 N ([(D,o9)]++ VU Z O.heap) H9 b:=λ{H9 o9} hn b G=>by
   obtain⟨_,k1,k2,k3,k4,k5⟩:=R7 b G;refine⟨hn b G,k1,k2,k3,k4,λp M=>?_⟩
   have y:p=(D,o9)\/p∈VU Z O.heap:=by
    have q:p∈([]:ka)++ ([(D,o9)]++ VU Z O.heap):=M;simpa using q
   rcases y with rfl|y
   .exact (T7 b G).symm
   .exact k5 p (by
     show p∈([]:ka)++ ([(D,oD)]++ VU Z O.heap);simp[y])
  let R2:Result->Shared->Prop:=λr g=>match r with
   |.ok _=>∃m,m<n/\∃i A L R,Inv N [] (JA ([x1,x2]:ky).length ix U) R g/\tn i g.heap/\(∀b∈Z,R b=none)/\R D=none/\g.heap.PlainList D (List.toArray L)/\Vals A L/\W i m A R
   |.error _=>False
  have inner:∀(sA:Shared),(Inv N (VU Z O.heap) σ8 T1 sA/\G3 0 sA.heap/\sA.heap.PlainList D (List.toArray L))->codeAny (model X.prog X.w) X.A (.compLoop (two elt (.Name x1 p1) iter (.Name x2 p2) iter2 scope pos) 1 (.ref F3) (.ref D)<|compEnvC scope E C X.env) R2 sA:=λsA hA=>by
   refine LP (λk s'=>∃j h t R,Inv N (VU Z O.heap) σ8 R s'/\G3 j s'.heap/\(∀b∈S,R b=none)/\R D=none/\s'.heap.PlainList D (List.toArray t)/\Vals h t/\W2 j k h R) ?_ F2
    ⟨0,A,L,T1,hA.1,hA.2.1,λb G=>(R7 b G).1,F1,hA.2.2,v5,E1⟩
   rintro k sB ⟨j,h,t,HB,IB,T3,D0,dB,⟨nB,lB⟩,vB,wB⟩;obtain⟨F4,I3⟩:=G2 j k h HB wB
   let oB:Obj:={cls:=.type "list",data:=.seq t.toArray nB}
   have D2:Inv N ([(D,oB)]++ VU Z O.heap) σ8 HB sB:=IB.pins_of λp M=>by
    rcases ZX.mp M with here|there
    .have e:p=(D,oB):=by simpa using here
     subst e;exact⟨lB,dB,dX,dF,λv z=>nomatch z⟩
    .exact IB.pin p (ZU _ there)
   rcases I3 with⟨L1,m',F7,wO⟩|⟨S4,M2⟩
   .refine thn (T2.done N rfl rfl rfl hc j _ sB _ HB _ D2 (R5 D0) T3 L1) λr sC ⟨hr,IC⟩=>?_
    subst hr
    obtain⟨gC,nC,_⟩:=IC.pin (D,oB) (by
     show(D,oB)∈([]:ka)++ ([(D,oB)]++ VU Z O.heap);simp)
    have R8:Inv N (VU Z O.heap) σ8 HB sC:=IC.pins_of λp M=>IC.pin p<|ZU _<|ZU _ M;refine⟨m',F7,i+1,h,t,HB,?_,?_,?_,nC,⟨nB,gC⟩,vB,wO⟩
    .refine Inv.weak (R8.pins_of (pins':=[]) λp M=>nomatch M) (by rw[l8]) λj v hj=>?_
     by_cases hlt:j<([x1,x2]:ky).length
     .unfold JA at hj
      rw[yi (by simpa using hlt),vX,Zp hlt]at hj;cases hj
     .have e:σ8[j]?=(JA ([x1,x2]:ky).length ix U)[j]?:=by
       have q:=congrArg (λl:List (kL)=>l[j-([x1,x2]:ky).length]?) k8;simp only[List.getElem?_drop]at q
       rwa [Nat.add_sub_cancel' (jD hlt)]at q
      rw[e];exact hj
    .exact T.keep _ _ _ R1 λb G o e=>(R8.pin (b,o)<|ZU _<|JS G e).1
    .intro b G
     obtain⟨o,e,d⟩:=T.obj _ _ R1 b G;exact(R8.pin (b,o)<|ZU _<|JS G e).2.1
   .refine thn (T2.item N rfl rfl rfl hc j _ sB _ HB _ D2 (R5 D0) T3 S4) λr sC ⟨u2,hr,S1⟩=>?_
    subst hr;refine thn S1 λ_ sD ⟨y2,HD,ID,rD,yD,O1,frD⟩=>?_;have ID':=ID.pinned (R5 frD)<|T2.obj _ _ O1;refine thn (I2 E C (D::Z) s3 w _ sD _ HD y2 u2 _ ID' rD<|Qj (Q:=λU H=>te U H λv H6=>∃c,c<k/\W2 (j+1) c (h++[v]) H6)<|M2 y2 HD yD) λ_ sE ⟨σE,HE,IE,qE⟩=>?_;have eE:σE=σ8.set 1 (some y2):=by exact qE.2
    replace qE:=qE.1;refine thn (he E C (D::Z) s3 w _ sE σE HE _ IE qE) λyv sF ⟨yy,HF,IF,rF,c,T8,wF⟩=>?_
    obtain⟨gD,nD,_⟩:=IF.pin (D,oB) (by
     show(D,oB)∈([]:ka)++ (([(D,oB)]++ VU Z O.heap)++ VU S sD.heap);simp)
    have T9:t.length=h.length:=vB.length.symm;refine wpAny_list_append_plain (l:=D) (items:=t.toArray) ⟨nB,gD⟩ (λh' F8 F6=>?_) (by rw[ZO,T9];exact Zh F4);have kp:∀b o,b≠D->sF.heap.get? b=some o->h'.get? b=some o:=λb o G q=>(F6.2 b G).trans q;have IF':Inv N (VU Z O.heap) σE HF sF:=IF.pins_of λp M=>IF.pin p<|ZU _<|yn _<|ZU _ M;have IG:Inv N (VU Z O.heap) σE HF {sF with heap:=h',toks:=sF.toks}:=IF'.turned (it:=D) kp nD dX (.inl Za) (I.exf D Za).2 R3
    have at2:∀b∈S,∀o,sD.heap.get? b=some o->sF.heap.get? b=some o/\HF b=none:=λb G o q=>by
     have z:=IF.pin (b,o)<|ZU _<|ZU _<|JS G q;exact⟨z.1,z.2.1⟩
    refine⟨c,T8,j+1,h++[yy],t++[yv],HF,?_,?_,?_,nD,?_,vB.append<|.cons rF .nil,wF⟩
    .refine Inv.weak IG (by rw[eE,List.length_set]) λq v hq=>?_
     rw[eE]
     have E3:q≠1:=λz=>by
      subst z;rw[e8]at hq;simp[JA,List.getElem?_append]at hq
     rw[jO (Zs E3)];exact hq
    .exact T2.keep _ _ _ O1 λb G o q=>kp b o (T7 b G) (at2 b G o q).1
    .intro b G
     obtain⟨o,q,_⟩:=T2.obj _ _ O1 b G;exact(at2 b G o q).2
    .have e:(t++[yv]).toArray=t.toArray.push yv:=by simp
     rw[e];exact F8
  have T5:Inv N (VU Z O.heap) σ8 T1 P/\G3 0 P.heap/\P.heap.PlainList D (List.toArray L):=⟨T0.pins_of λp M=>T0.pin p<|ZU _<|ZU _ M,a,⟨nn,gD0⟩⟩;exact Nb (inner P T5)<|T2.self _ 0 _ _ _ a<|inner P T5
def JG(own:ky)(G:List Nat)(j:PI X tg iter wi)(R:GK own.length g)(y:∀M C L s H,PG (VX X (Vq X own G) scope M C L s H) tg g)(z:∀M C L s H,PE (VX X (Vq X own G) scope M C L s H) elt te)(t:X.calm=true:=by rfl)(Z:scope.kind=.function:=by rfl)(O:Ui scope X.env.scope.names X.N G=true:=by rfl)(P:∀x,foldedSetIterable iter X.env x=pure x:=by intro _;rfl):
  PE X (.ListComp elt [⟨tg,iter,[],0⟩] scope pos) (QQ own.length G wi g te):=by
 intro T s U H Q I h;rw[eval_ListComp];exact X1 own G j Z O P I h λM D C L v c J r u f B m k N S=>B.loop1 t R y z m (λd w p A F E q=>Ln A F E q) k N S
def MT(own:ky)(G:List Nat)(c:X.N.Nodup)(E:X.N[i0]?=some x0)(O:Loc X.env.scope x0)(z:PI X tg iter wi)(F:GK own.length g)(t:∀M C L s H,PG (VX X (Vq X own G) scope M C L s H) tg g)(k:∀M C L s H,PE (VX X (Vq X own G) scope M C L s H) elt te)(p:X.calm=true:=by rfl)(Z:scope.kind=.function:=by rfl)(T:Ui scope X.env.scope.names X.N G=true:=by rfl)(R:swapsWith (.ListComp elt [⟨tg,iter,[],0⟩] scope pos) (some<|.Name x0 py) spos.line X.env=pure true:=by rfl)(m:X.fn x0=true\/X.env.scope.names.lookup x0=some .local:=by first|exact .inl Y|exact .inr Y|assumption)(y:∀x,foldedSetIterable iter X.env x=pure x:=by intro _;rfl):
  PS X (.Assign [.Name x0 py] (.ListComp elt [⟨tg,iter,[],0⟩] scope pos) spos) (E5 (QQ own.length G wi g te)<|Vl i0):=by
 intro A s U H i I h;exact EI R<|X1 own G z Z T y I h λM D C L b v J o l r B d f N j=>B.loop1 p F t k d (λw e u Q P S q=>Lm c E O m Q P S q) f N j
def O7(L:List Nat)(t:PI X (.Name x1 p1) iter wi)(m:∀G C Z s H,PG (VX X (Vq X [x1,x2] L) scope G C Z s H) (.Name x1 p1)<|Vl 0)(T:∀G C Z s H,PI (VX X (Vq X [x1,x2] L) scope G C Z s H) (.Name x2 p2) iter2 wi2)(E:∀G C Z s H,PG (VX X (Vq X [x1,x2] L) scope G C Z s H) (.Name x2 p2)<|Vl 1)(g:∀G C Z s H,PE (VX X (Vq X [x1,x2] L) scope G C Z s H) elt te)(k:X.calm=true:=by rfl)(M:scope.kind=.function:=by rfl)(R:Ui scope X.env.scope.names X.N L=true:=by rfl)(z:∀x,foldedSetIterable iter X.env x=pure x:=by intro _;rfl)(O:∀F x,foldedSetIterable iter2 F x=pure x:=by intro _ _;rfl):
  PE X (.ListComp elt [⟨.Name x1 p1,iter,[],0⟩,⟨.Name x2 p2,iter2,[],0⟩] scope pos) (IP L wi wi2 te):=by
 intro A s U H Q I h;rw[eval_ListComp];exact X1 [x1,x2] L t M R z I h λG D C Z r f J b w v B p c N y=>B.loop2 k m T E g O p (λu l d j P S q=>Ln j P S q) c N y
def Oz(L:List Nat)(f:X.N.Nodup)(A:X.N[i0]?=some x0)(O:Loc X.env.scope x0)(g:PI X (.Name x1 p1) iter wi)(k:∀G C Z s H,PG (VX X (Vq X [x1,x2] L) scope G C Z s H) (.Name x1 p1)<|Vl 0)(F:∀G C Z s H,PI (VX X (Vq X [x1,x2] L) scope G C Z s H) (.Name x2 p2) iter2 wi2)(S:∀G C Z s H,PG (VX X (Vq X [x1,x2] L) scope G C Z s H) (.Name x2 p2)<|Vl 1)(c:∀G C Z s H,PE (VX X (Vq X [x1,x2] L) scope G C Z s H) elt te)(d:X.calm=true:=by rfl)(M:scope.kind=.function:=by rfl)(E:Ui scope X.env.scope.names X.N L=true:=by rfl)(R:swapsWith (.ListComp elt [⟨.Name x1 p1,iter,[],0⟩,⟨.Name x2 p2,iter2,[],0⟩] scope pos) (some<|.Name x0 py) spos.line X.env=pure true:=by rfl)(p:X.fn x0=true\/X.env.scope.names.lookup x0=some .local:=by first|exact .inl Y|exact .inr Y|assumption)(m:∀x,foldedSetIterable iter X.env x=pure x:=by intro _;rfl)(T:∀P x,foldedSetIterable iter2 P x=pure x:=by intro _ _;rfl):
  PS X (.Assign [.Name x0 py] (.ListComp elt [⟨.Name x1 p1,iter,[],0⟩,⟨.Name x2 p2,iter2,[],0⟩] scope pos) spos) (E5 (IP L wi wi2 te)<|Vl i0):=by
 intro Q s U H a I h;exact EI R<|X1 [x1,x2] L g M E m I h λG D C Z o r J n e b B u v N t=>B.loop2 d k F S c T u (λl i w z y j q=>Lm f A O p z y j q) v N t
end
def Tl(n:Nat)(L:Nat->List V->Hp->Prop)(g:L 0 [] H)(T:∀i Z H,L i Z H->Z.length<sizeLine)(A:∀i Z H,i<n->L i Z H->J.go i H)(M:∀Z H,L n Z H->J.stop n H)(X:∀i Z H x F (R:List V->Hp->Prop),i<n->L i Z H->J.yld i H x F->(∀G D,L (i+1) G D->R G D)->wi2 (s0.set 0<|some x) F λS D=>∃I:Nat->Nat->List V->Hp->Prop,(∃E,I 0 E Z D)/\∀j E G B,I j E G B->
   G.length<sizeLine/\((S.stop j B/\R G B)\/(S.go j B/\∀y U,S.yld j B y U->te ((s0.set 0<|some x).set 1<|some y) U λv k=>∃O,O<E/\I (j+1) O (G++[v]) k)))(q:∀Z H p,L n Z H->H p=none->Q (.ref p) (upd H p<|.lst Z)):Dz J wi2 te s0 Q H:=by
 refine⟨λi m Z H=>m=n-i/\i<=n/\L i Z H,⟨n,by simp,Zc _,g⟩,λi m Z H z=>?_⟩;obtain⟨rfl,c,p⟩:=z;exists T i Z H p;rcases ja i n with N|P
 .exact .inr ⟨A i Z H N p,λx F y=>X i Z H x F _ N p y λG D C=>⟨n-(i+1),by omega,rfl,N,C⟩⟩
 .have e:i=n:=by omega
  subst e;exact .inl ⟨M Z H p,λb t=>q Z H b p t⟩
def Nc{M:It}{S:TE}{U:St}{R:List V->Hp->Prop}(n:Nat)(J:Nat->List V->Hp->Prop)(k:J 0 X H3)(O:∀j Z H,J j Z H->Z.length<sizeLine)(A:∀j Z H,j<n->J j Z H->M.go j H)(G:∀Z H,J n Z H->M.stop n H)(q:∀j Z H y C (T:V->Hp->Prop),j<n->J j Z H->M.yld j H y C->(∀v B,J (j+1) (Z++[v]) B->T v B)->S (U.set 1<|some y) C T)(g:∀Z H,J n Z H->R Z H):
  ∃I:Nat->Nat->List V->Hp->Prop,(∃E,I 0 E X H3)/\∀j E Z D,I j E Z D->
   Z.length<sizeLine/\((M.stop j D/\R Z D)\/(M.go j D/\∀y F,M.yld j D y F->S (U.set 1<|some y) F λv B=>∃N,N<E/\I (j+1) N (Z++[v]) B)):=by
 refine⟨λj m Z H=>m=n-j/\j<=n/\J j Z H,⟨n,by simp,Zc _,k⟩,λj m Z H z=>?_⟩;obtain⟨rfl,c,p⟩:=z;exists O j Z H p;rcases ja j n with L|t
 .exact .inr ⟨A j Z H L p,λy F P=>q j Z H y F _ L p P λv B Q=>⟨n-(j+1),by omega,rfl,L,Q⟩⟩
 .have e:j=n:=by omega
  subst e;exact .inl ⟨G Z H p,g Z H p⟩
end L2
namespace L2
open PySem PySem.Spec PyProof.Rows
section
def A8(K:W.Frag):List V->Hp->VK->Prop:=λZ H Q=>∃x T t b,Z=[x,.ty T]/\Xd K H x t/\W.kitOne K t (.type T)=some b/\Q (.bl b) H
def L8:Jt X (.builtin "isinstance") (A8 X.K):=by
 intro J s U H L N Q I r h;obtain⟨x,T,t,b,rfl,ty,e,q⟩:=h;obtain⟨u,M,rfl,G,Z⟩:=vals2 r;cases Z;exact FS I G ty e λO=>⟨.bl b,H,I.tok _,Y,q⟩
theorem Tv:∀{Z:ky}{J:kq},Vals (Z.map V.str) J->StrsAre J Z
 |[],_,r=>by cases r;exact .nil
 |y::Z,_,r=>by
  cases r with
  |cons h t=>
   obtain⟨G,e⟩:=h;subst e;exact .cons _ _<|Tv t
def rJoin(K:W.Frag):V->List V->Hp->VK->Prop:=λx J H Q=>∃z p Z,x=.str z/\J=[.ref p]/\SqL K H p (Z.map V.str)/\(Z.map (·.length)).sum+Z.length*z.length<=16777216/\Q (.str<|Txt.join z Z) H
def Pi:MtR X "str.join" (rJoin X.K):=by
 intro Z s U H x B v D Q I J G h;obtain⟨z,p,T,rfl,rfl,R,O,q⟩:=h;obtain⟨t,rfl⟩:=J;obtain⟨u,rfl,L⟩:=vals1 G;cases L;obtain⟨N,r,M,F⟩:=I.list R;exact join_list M.isList (by simpa using Tv r) O λE k=>⟨.str _,H,I.tok _,⟨_,Y⟩,q⟩
def Sb:V->List V->Hp->VK->Prop:=λx Z H Q=>∃z y i rest,x=.str z/\Z=[.str y]/\Builtin.Str.occurrences z y 0 z.length 1=i::rest/\Q (.int (i:Nat)) H
def LB:MtR X "str.index" Sb:=by
 intro Z s U H x M v N Q I J G h;obtain⟨z,y,i,rest,rfl,rfl,L,q⟩:=h;obtain⟨t,rfl⟩:=J;obtain⟨u,rfl,O,rfl⟩:=vals1 G;exact SC.index L ⟨.int _,H,I.tok _,⟨_,Y⟩,q⟩
def zt:V->Option Int->Option Int->Hp->VK->Prop:=λx Z J H Q=>∃z,x=.str z/\z.length<=sizeLine/\Q (.str<|Txt.slice z Z J) H
def Gh:SlR X zt:=by
 intro J s U H x v g m E C sl Q I B S D T h;obtain⟨z,rfl,A,q⟩:=h;obtain⟨t,rfl⟩:=B;exists "str",_,F.slot_str_getitem.lookup,typeIs_str _ _ _
 have Z:∀(l u:Option (Int×Tok)),l.map (·.1)=E->u.map (·.1)=C->s.heap.IsSlice sl l u none->wpAny (model X.prog X.w) X.A (getItem (.str z t)<|.ref sl) (EP X J U Q) X.xe s:=λl u y P O=>by
  subst y;subst P;exact wpAny_getItem_str_slice O Y (post_val_or_str ⟨Zb (Txt.slice_le z (l.map (·.1))<|u.map (·.1)) A,λp k=>⟨.str _,H,I.tok _,⟨_,rfl⟩,q⟩⟩)
 obtain⟨o,M,L,G⟩:=S
 cases D with
 |none=>
  cases T with
  |none=>exact Z none none Y Y ⟨o,M,L,G⟩
  |int j N=>exact Z none (some (j,N)) Y Y ⟨o,M,L,G⟩
 |int i R=>
  cases T with
  |none=>exact Z (some (i,R)) none Y Y ⟨o,M,L,G⟩
  |int j N=>exact Z (some (i,R)) (some (j,N)) Y Y ⟨o,M,L,G⟩
theorem Wm:∀{Z:List Bool}{J:kq},Vals (Z.map V.bl) J->∀(i:Nat)(v:Value),J[i]?=some v->∃b,Z[i]?=some b/\v=.bool b
 |[],_,r,i,v,e=>by cases r;simp at e
 |b::Z,_,r,i,v,e=>by
  cases r with
  |cons h t=>
   cases i with
   |zero=>
    have G:some _=some v:=e;cases G;exact⟨b,Y,h⟩
   |succ j=>exact Wm t j v e
def all_range:∀(Z:List Bool),((List.range Z.length).all λi=>(Z[i]?).getD true)=Z.all id:=λZ=>by
 have e:((List.range Z.length).map λi=>(Z[i]?).getD true)=Z:=List.ext_getElem (by simp) λi G J=>by simp[J]
 have z:=List.all_map (l:=List.range Z.length) (f:=λi=>(Z[i]?).getD true) (p:=id);rw[e]at z;exact z.symm
def To(E:X.calm=true):Jt X (.builtin "all") (λM H Q=>∃(p:Addr)(J:List Bool),M=[.ref p]/\SqL X.K H p (J.map V.bl)/\Q (.bl<|J.all id) H):=by
 intro O s U H M C Q I r h;obtain⟨p,J,rfl,T,q⟩:=h;obtain⟨u,rfl,R⟩:=vals1 r;cases R;obtain⟨Z,N,L,P⟩:=I.list T
 have B:p<s.heap.objs.size:=by
  obtain⟨o,n,e,_⟩:=L;exact ZP e
 have G:Z.length=J.length:=by
  have:=N.length;rw[ZA]at this;exact this.symm
 refine call_all_walk<|jI L.isList ?_;exists s.heap.objs.size,_,_,Z.toArray.size,_,_,λi=>(J[i]?).getD true,Y,Walks.list (A:=X.A.in1) (I.ok.hd E) _ p (Ze B) Z.toArray,?_,?_
 .exact ⟨⟨_,ZY _ rfl,rfl,rfl⟩,L.isList.push _⟩
 .intro i v s' Q' E' hP hQ
  obtain⟨b,e,rfl⟩:=Wm N i v (by simpa using hP);have F:(J[i]?).getD true=b:=by rw[e];rfl
  exact yq<|F ▸ hQ
 .intro h' tk hk
  rw[ZO,G,all_range];refine⟨.bl<|J.all id,H,I.kept λb o e=>hk b o (λD=>?_)<|ZE _ e,rfl,q⟩;have S:b=s.heap.objs.size:=by simpa using D
  rw[S]at e;exact vb _<|ZP e
theorem Wp:∀{Z:kH}{J:kq},Z.length=J.length->(∀(j:Nat)(x:V)(u:Value),Z[j]?=some x->J[j]?=some u->RelV x u)->Vals Z J
 |[],[],_,_=>.nil
 |[],_::_,h,_=>Zr h<|by simp
 |_::_,[],h,_=>Zr h<|by simp
 |x::Z,u::J,h,hr=>.cons (hr 0 x u rfl rfl)<|Wp (by simpa using h) λj a b L G=>hr (j+1) a b L G
def U2(e:X.calm=true):Jt X (.type "list") (λE H Q=>∃a kvs,E=[.ref a]/\H a=some (.dK kvs)/\∀l,H l=none->Q (.ref l) (upd H l<|.lst<|kvs.map λZ=>kV Z.1)):=by
 intro S s U H E us Q I r h;obtain⟨a,kvs,rfl,n,q⟩:=h;obtain⟨u,rfl,m⟩:=vals1 r;cases m;obtain⟨C,g,F,A,b⟩:=Ee I.hok n;obtain⟨ep,R⟩:=b.dictAt;have J:=A.length;refine W.kdl_call (W.kdl_dict (knd:=Y8 X.prog X.w) (kvs:=F) (ep:=ep) g) (I.ok.hd e) R (by rw[<-J];exact C) λh' tk D c w v L=>?_;refine⟨.ref s.heap.objs.size,_,I.laid (o:=.lst<|kvs.map λZ=>kV Z.1) w (ZG _) ⟨by rw[ZA];exact C,D.toList,c,?_,by rw[Array.toArray_toList];exact v⟩,rfl,q _<|I.hok.fresh<|ZG _⟩;obtain⟨f,d⟩:=L;refine Wp (by simp[f,J]) λj x u M e2=>?_;obtain⟨k,y,p,O⟩:=d j u (by rw[<-Array.getElem?_toList];exact e2);rw[ZH]at M
 cases hkv:kvs[j]? with
 |none=>rw[hkv]at M;cases M
 |some Z=>
  rw[hkv]at M;cases M;have G:=A.keys;have P:(kvs.map (·.1))[j]?=(F.map (·.1))[j]?:=by rw[G]
  rw[ZH,ZH,hkv,p]at P;have e4:Z.1=k:=ZT P;have N:V1 Z.1 u=true:=by rw[e4];exact O
  rcases VM N with⟨i,t,B,T⟩|⟨z,t,B,T⟩
  .show RelV (kV Z.1) u
   rw[B,T];exact⟨t,Y⟩
  .show RelV (kV Z.1) u
   rw[B,T];exact⟨t,Y⟩
end
end L2
namespace PySem.W
open PySem PySem.Spec PyProof.Rows
end PySem.W
namespace PySem
open Sem (wp)
section
variable{prog:Program}{w:World}{A:Around}{E:Value->Shared->Prop}{h:Heap}{g:Array GenState}{d:Drawn}{t:Nat}{os:OsState}
variable{nm q:Str}{C N:Addr}{bs bm bmB:List Value}{hdct:Bool}{sn:List Str}{sub:List Value}{ab:Bool}{col:Option Bool}{dd:Option Addr}{k0 k1 k2 k3 k5:Option Value}{B newId initId:String}
end
end PySem
namespace PySem.W
open PySem PySem.Spec PyProof.Rows PySem.Builtin PySem.Builtin.ObjectAttr
end PySem.W
namespace L2
open PySem PySem.Spec PyProof.Rows
end L2
namespace PySem.W
open PySem PySem.Spec PyProof.Rows
end PySem.W
namespace PySem
section
variable{M:Model}{A:Around}{E:Value->Shared->Prop}{env:Env}
variable{nm q:Str}{C N:Addr}{bs bm:List Value}{hdct:Bool}{sn:List Str}{sub:List Value}{ab:Bool}{col:Option Bool}{dd:Option Addr}{k0 k1 k2 k3 k5:Option Value}{newId:String}
end
end PySem
namespace L2
open PySem PySem.Spec PyProof.Rows
def SI(tp:Bool)(h:Heap)(i l:Addr)(k:Nat)(xs:kE):Prop:=match tp with
 |false=>h.IsListIter i l k/\h.IsList l xs
 |true=>h.IsTupleIter i l k/\h.IsTuple l xs
def SI.to(z:SI J h i l k G)(Z:∀b o,(b=i\/b=l)->h.get? b=some o->L.get? b=some o):SI J L i l k G:=by
 cases J with
 |false=>exact⟨let⟨o,e,r⟩:=z.1;⟨o,Z _ _ (.inl Y) e,r⟩,let⟨o,e,r⟩:=z.2;⟨o,Z _ _ (.inr Y) e,r⟩⟩
 |true=>exact⟨let⟨o,e,r⟩:=z.1;⟨o,Z _ _ (.inl Y) e,r⟩,let⟨o,e,r⟩:=z.2;⟨o,Z _ _ (.inr Y) e,r⟩⟩
def SI.but(z:SI G h i l k J)(e:Heap.ExtBut b h L)(N:i≠b)(M:l≠b):SI G L i l k J:=
 z.to λc o Z q=>e c o (by rcases Z with Z|Z <;> rw[Z] <;> assumption) q
def D5{a b:Sem α}{Q:α->Shared->Prop}(Z:c=false)(h:wpAny M A b Q E s):wpAny M A (if c=true then a else b) Q E s:=by
 subst Z
 rwa [Zq (by decide)]
section
def U7(z:SI R s.heap i l k O)(B:l≠i)(D:O[k]?=some x)(I:∀g,SI R g i l (k+1) O->Heap.SameBut i s.heap g->Q x {s with heap:=g}):wpAny (model prog w) A (Builtin.SmallTypes.nextOf<|.ref i) Q E s:=by
 cases R with
 |false=>exact wpAny_nextOf_list_item z.1 z.2 D λg a T=>I g ⟨a,z.2.extBut T.extBut B⟩ T
 |true=>
  obtain⟨G,N⟩:=z;obtain⟨C,J,M,Z⟩:=id G;obtain⟨U,L,_,X,S⟩:=id N;have sn:=F.slot_tuple_iterator_next;simp only[Builtin.SmallTypes.nextOf];refine Zl<|wpAny_callSpecial?_slot (name:=Str.ofString "__next__") G.typeIs sn<|y0 sn G.typeIs F.entry_tuple_iterator_next ?_<|F.args_tuple_iterator_next_1 _;refine Zl (m:=field (.ref i) 0)<|Zo J Z (x:=.ref l) rfl (D5 (c:=Value.ref l==.none) rfl ?_);refine Zl (m:=field (.ref i) 1)<|Zo J Z (x:=.int k 0) rfl (Zl (m:=seqItems?<|.ref l)<|vd L S ?_);simp only[D,jt];refine Zl<|wpAny_setField J Z (by simp)<|Zm ⟨x,rfl,Zm<|I _ ⟨?_,?_⟩<|Heap.SameBut.update ..⟩
  .refine ⟨_,Heap.get?_update_self _ J<|Obj.isFreed_of_fields<|Obj.data_mapFields Z _,(Obj.cls_mapFields ..).trans M,?_⟩
   rw[Obj.data_mapFields Z];simp[rawInt]
  .exact N.extBut (Heap.SameBut.update ..).extBut B
def ME(N:A.handled=none)(z:SI B s.heap i l k T)(M:T[k]?=none)(O:∀g e,Heap.ExtBut i s.heap g->(∃o,g.get? e=some o/\o.cls=.type "StopIteration")->E (.ref e) {s with heap:=g}):wpAny (model prog w) A (Builtin.SmallTypes.nextOf<|.ref i) Q E s:=by
 cases B with
 |false=>exact wpAny_nextOf_list_end N z.1 z.2 M O
 |true=>
  obtain⟨G,R⟩:=z;obtain⟨C,Z,S,J⟩:=id G;obtain⟨U,L,_,X,I⟩:=id R;have sn:=F.slot_tuple_iterator_next;simp only[Builtin.SmallTypes.nextOf];refine Zl<|wpAny_callSpecial?_slot (name:=Str.ofString "__next__") G.typeIs sn<|y0 sn G.typeIs F.entry_tuple_iterator_next ?_<|F.args_tuple_iterator_next_1 _;refine Zl (m:=field (.ref i) 0)<|Zo Z J (x:=.ref l) rfl (D5 (c:=Value.ref l==.none) rfl ?_);refine Zl (m:=field (.ref i) 1)<|Zo Z J (x:=.int k 0) rfl (Zl (m:=seqItems?<|.ref l)<|vd L I ?_);simp only[M,jt];refine Zl (jf<|Zl<|wpAny_setField Z J (by simp) ?_);refine Zl (m:=newExc (.type "StopIteration") []) ?_;simp only[newExc,newTuple];refine Zl (vD (Zl (m:=firstArgMember _ _)<|wpAny_of_eq (a:=.none) (by simp only[firstArgMember];rfl)<|vD ?_<|by size_fits)<|by size_fits);have D:A.in1.handled=none:=N;simp only[raiseNew];refine Zl<|wpAny_handled<|?_;rw[D];exact Zl<|Zm<|wpAny_throw<|O _ _ (((Heap.SameBut.update ..).extBut.push _).push _) ⟨_,ZY _ rfl,rfl⟩
structure ZS(h:Heap)(z TI TO:Addr)(f0:Value)(t1:Bool)(i1 l1:Addr)(xs:Array Value)(t2:Bool)(i2 l2:Addr)(ys:Array Value)(k:Nat):Prop where
 zip:IsZip h z TI TO f0
 its:IsPair h TI (.ref i1) (.ref i2)
 out:∃a b,IsPair h TO a b
 one:SI t1 h i1 l1 k xs
 two:SI t2 h i2 l2 k ys
def D4{z TI TO G J j I:Addr}(D:ZipApart z TI TO G J j I)(S:ZS s.heap z TI TO .none t1 G j f t2 J I X k)(hx:f[k]?=some x)(hy:X[k]?=some y)(hQ:∀g,ZS g z TI TO (rawInt s.heap.objs.size) t1 G j f t2 J I X (k+1)->IsPair g s.heap.objs.size x y->g.objs.size=s.heap.objs.size+1->
   (∀c o,c≠z->c≠TO->c≠G->c≠J->s.heap.get? c=some o->g.get? c=some o)->Q (some<|.ref s.heap.objs.size) {s with heap:=g}):wpAny (model prog w) A (pyNext<|.ref z) Q E s:=by
 have hT:s.TypeIs (.ref z) "zip":=⟨_,S.zip,rfl⟩;obtain⟨a,b,So⟩:=S.out;simp only[pyNext];refine Zl<|jp<|wpAny_callSpecial?_slot (name:=Str.ofString "__next__") hT vA<|y0 vA hT jR ?_<|jL _;refine Zl (m:=field (.ref z) 2)<|Zo S.zip rfl (x:=.bool false) rfl (Zl (m:=field (.ref z) 3)<|Zo S.zip rfl (x:=.ref TI) rfl (Zl<|vd S.its rfl ?_));refine Zl (m:=Builtin.SmallTypes.ownedTupleIsFree<|.ref z)<|Zl (m:=field (.ref z) 0)<|Zo S.zip rfl (x:=.none) rfl (Zm ?_);simp only[if_true];refine Zl (jf<|Zl<|Zo S.zip rfl (x:=.ref TO) rfl (Zl<|yo S.zip (by simp) λg1 d F=>Zl ?_));replace d:IsZip g1 z TI TO .ellipsis:=d;simp only[vT,jS,List.zipIdx_cons,List.zipIdx_nil];refine Zl<|Zl<|wpAny_onRaise (?_:wpAny _ _ (Builtin.SmallTypes.nextOf (.ref G) >>=_) _ _ _);refine Zl<|U7 (S.one.but F.extBut D.i1z D.l1z) D.l1i1 hx λg2 a2 B=>Zm ?_;have o2:IsPair g2 TO a b:=B.extBut _ _ D.TOi1<|F.extBut _ _ D.TOz So;refine Zl<|vd o2 rfl ?_;refine Zl<|qc o2 λg3 r T=>?_;replace r:IsPair g3 TO x b:=r;refine Zl<|wpAny_letGo<|Zm<|Zl<|Zl<|wpAny_onRaise (?_:wpAny _ _ (Builtin.SmallTypes.nextOf (.ref J) >>=_) _ _ _);have b3:SI t2 g3 J I k X:=((S.two.but F.extBut D.i2z D.l2z).but B.extBut D.i12.symm D.l2i1).but T.extBut D.TOi2.symm D.l2TO;refine Zl<|U7 b3 D.l2i2 hy λg4 b4 R=>Zm ?_;have o4:IsPair g4 TO x b:=R.extBut _ _ D.TOi2 r;refine Zl<|vd o4 rfl ?_;refine Zl<|qc o4 λZ P O=>?_;replace P:IsPair Z TO x y:=P;refine Zl<|wpAny_letGo<|Zm<|Zm<|Zl<|vd P rfl (Zl<|wpAny_newTuple ?_);have sz:Z.objs.size=s.heap.objs.size:=by rw[O.1,R.1,T.1,B.1,F.1]
 have n:IsZip Z z TI TO .ellipsis:=O.extBut _ _ D.TOz.symm<|R.extBut _ _ D.i2z.symm<|T.extBut _ _ D.TOz.symm<|B.extBut _ _ D.i1z.symm d
 have k5:∀c o,c≠z->c≠TO->c≠G->c≠J->s.heap.get? c=some o->Z.get? c=some o:=λc o c1 t h i e=>
  O.extBut _ _ t (R.extBut _ _ i<|T.extBut _ _ t<|B.extBut _ _ h<|F.extBut _ _ c1 e)
 have a5:SI t1 Z G j (k+1) f:=((a2.but T.extBut D.TOi1.symm D.l1TO).but R.extBut D.i12 D.l1i2).but O.extBut D.TOi1.symm D.l1TO;have b5:SI t2 Z J I (k+1) X:=b4.but O.extBut D.TOi2.symm D.l2TO;have L:z<Z.objs.size:=ZP n;show wpAny _ _ (Builtin.SmallTypes.ownedTupleHandOut (.ref z) (.ref Z.objs.size) >>=_) _ _ _;refine Zl ?_;simp only[Builtin.SmallTypes.ownedTupleHandOut];have z6:IsZip (Z.push {cls:=.type "tuple",data:=.seq #[x,y]}) z TI TO .ellipsis:=ZE _ n;refine Zl<|yo z6 (by simp) λg7 p v=>?_;replace p:IsZip g7 z TI TO (rawInt Z.objs.size):=p;refine yo p (by simp) λU C u=>?_;replace C:IsZip U z TI TO (rawInt Z.objs.size):=C;have M:∀c o,c≠z->Z.get? c=some o->U.get? c=some o:=λc o c1 e=>u.extBut _ _ c1<|v.extBut _ _ c1<|ZE _ e;have t8:IsPair U Z.objs.size x y:=u.extBut _ _ (vt L)<|v.extBut _ _ (vt L)<|ZY _ rfl;have N:U.objs.size=Z.objs.size+1:=by rw[u.1,v.1,vg]
 rw[sz]at C t8 N;refine Zm ⟨_,Y,Zm ?_⟩;show Q (some<|.ref Z.objs.size) _;rw[sz];refine hQ U ⟨C,M _ _ D.TIz<|k5 _ _ D.TIz D.TITO D.TIi1 D.TIi2 S.its,⟨_,_,M _ _ D.TOz P⟩,?_,?_⟩ t8 N λc o c1 t h i e=>M c o c1<|k5 c o c1 t h i e
 .exact a5.to λc o l e=>M c o (l.elim (λq=>q ▸ D.i1z) λq=>q ▸ D.l1z) e
 .exact b5.to λc o l e=>M c o (l.elim (λq=>q ▸ D.i2z) λq=>q ▸ D.l2z) e
def Fs{z TI TO O N v C:Addr}(r:A.handled=none)(D:ZipApart z TI TO O N v C)(S:ZS s.heap z TI TO .none t1 O v d t2 N C I k)(R:d[k]?=none\/I[k]?=none)(hQ:∀g,(∀c o,c≠z->c≠TO->c≠O->c≠N->s.heap.get? c=some o->g.get? c=some o)->Q none {s with heap:=g}):wpAny (model prog w) A (pyNext<|.ref z) Q E s:=by
 have l:s.TypeIs (.ref z) "zip":=⟨_,S.zip,rfl⟩;obtain⟨a,b,So⟩:=S.out;have stop:∀(g:Heap)(e:Addr),(∀c o,c≠z->c≠TO->c≠O->c≠N->s.heap.get? c=some o->g.get? c=some o)->(∃o,g.get? e=some o/\o.cls=.type "StopIteration")->
   wpAny (model prog w) A (do if(<-isInstance (.ref e) (.type "StopIteration"))then pure none else throw (.ref e):Sem (Option Value)) Q E {s with heap:=g}:=λg e n ⟨o,ho,hc⟩=>
  Zl (jo (T:="StopIteration") (b:=true) ⟨o,ho,hc⟩ isSubtype_stop<|Zm<|hQ g n)
 simp only[pyNext];refine Zl<|jp<|wpAny_callSpecial?_slot (name:=Str.ofString "__next__") l vA<|y0 vA l jR ?_<|jL _;refine Zl (m:=field (.ref z) 2)<|Zo S.zip rfl (x:=.bool false) rfl (Zl (m:=field (.ref z) 3)<|Zo S.zip rfl (x:=.ref TI) rfl (Zl<|vd S.its rfl ?_));refine Zl (m:=Builtin.SmallTypes.ownedTupleIsFree<|.ref z)<|Zl (m:=field (.ref z) 0)<|Zo S.zip rfl (x:=.none) rfl (Zm ?_);simp only[if_true];refine Zl (jf<|Zl<|Zo S.zip rfl (x:=.ref TO) rfl (Zl<|yo S.zip (by simp) λg1 B M=>Zl ?_));replace B:IsZip g1 z TI TO .ellipsis:=B;simp only[vT,jS,List.zipIdx_cons,List.zipIdx_nil];refine Zl<|Zl<|wpAny_onRaise (?_:wpAny _ _ (Builtin.SmallTypes.nextOf (.ref O) >>=_) _ _ _)
 cases hx:d[k]? with
 |none=>
  refine Zl<|ME r (S.one.but M.extBut D.i1z D.l1z) hx λj e h X=>?_;obtain⟨U,Z,J⟩:=X;have p:IsZip j z TI TO .ellipsis:=h _ _ D.i1z.symm B;have G:e≠z:=λq=>by subst q;rw[p]at Z;cases Z;simp at J
  refine yo p (by simp) λP _ L=>?_;exact stop P e (λc o c1 _ y _ q=>L.extBut _ _ c1<|h _ _ y<|M.extBut _ _ c1 q) ⟨U,L.extBut _ _ G Z,J⟩
 |some x=>
  have hy:I[k]?=none:=by rcases R with q|q;rw[hx]at q;cases q;exact q
  refine Zl<|U7 (S.one.but M.extBut D.i1z D.l1z) D.l1i1 hx λj a2 F=>Zm ?_;have u:IsPair j TO a b:=F.extBut _ _ D.TOi1<|M.extBut _ _ D.TOz So;refine Zl<|vd u rfl ?_;refine Zl<|qc u λP o3 L=>?_;refine Zl<|wpAny_letGo<|Zm<|Zl<|Zl<|wpAny_onRaise (?_:wpAny _ _ (Builtin.SmallTypes.nextOf (.ref N) >>=_) _ _ _);have b3:SI t2 P N C k I:=((S.two.but M.extBut D.i2z D.l2z).but F.extBut D.i12.symm D.l2i1).but L.extBut D.TOi2.symm D.l2TO;refine Zl<|ME r b3 hy λg4 e i X=>?_;obtain⟨U,Z,J⟩:=X;have t:IsZip g4 z TI TO .ellipsis:=i _ _ D.i2z.symm<|L.extBut _ _ D.TOz.symm<|F.extBut _ _ D.i1z.symm B;have G:e≠z:=λq=>by subst q;rw[t]at Z;cases Z;simp at J
  refine yo t (by simp) λg5 _ f=>?_;exact stop g5 e (λc o c1 c2 y c4 q=>f.extBut _ _ c1<|i _ _ c4<|L.extBut _ _ c2<|F.extBut _ _ y<|M.extBut _ _ c1 q) ⟨U,f.extBut _ _ G Z,J⟩
def Wk(tp:Bool)(h:Heap)(l:Addr)(xs:kE):Prop:=match tp with
 |false=>h.IsList l xs
 |true=>h.IsTuple l xs
def Je(tp:Bool)(l:Addr):Obj:={cls:=.type<|if tp then "tuple_iterator" else "list_iterator",data:=.fields #[.ref l,.int 0 0]}
def Wy(h:Wk Z s.heap l J)(q:Q (.ref s.heap.objs.size) {s with heap:=s.heap.push (Je Z l)}):wpAny (model prog w) A (pyIter<|.ref l) Q E s:=by
 cases Z with
 |false=>exact jI h q
 |true=>exact wpAny_pyIter_tuple h q
def Wk.push(z:Wk Z h l J)(o:Obj):Wk Z (h.push o) l J:=by
 cases Z with
 |false=>exact Heap.IsList.push z o
 |true=>exact Heap.IsTuple.push z o
end
abbrev zg1(h:Heap)(t1:Bool)(l1:Addr):Heap:=h.push (Je t1 l1)
abbrev zg2(h:Heap)(t1:Bool)(l1:Addr)(t2:Bool)(l2:Addr):Heap:=(zg1 h t1 l1).push (Je t2 l2)
abbrev zg3(h:Heap)(t1:Bool)(l1:Addr)(t2:Bool)(l2:Addr):Heap:=(zg2 h t1 l1 t2 l2).push {cls:=.type "tuple",data:=.seq #[.ref h.objs.size,.ref (zg1 h t1 l1).objs.size]}
abbrev zg4(h:Heap)(t1:Bool)(l1:Addr)(t2:Bool)(l2:Addr):Heap:=(zg3 h t1 l1 t2 l2).push {cls:=.type "tuple",data:=.seq #[.none,.none]}
abbrev zg5(h:Heap)(t1:Bool)(l1:Addr)(t2:Bool)(l2:Addr):Heap:=(zg4 h t1 l1 t2 l2).push {cls:=.type "zip",data:=.fields #[.none,.bool false,.bool false,.ref (zg2 h t1 l1 t2 l2).objs.size,.ref (zg3 h t1 l1 t2 l2).objs.size]}
def N6(J L:Bool)(Z G:Addr)(N M:kE):
  Meets (Builtin.«zip.__new__» ⟨[.type "zip",.ref Z,.ref G],[]⟩) (λ_ R s=>Wk J s.heap Z N/\Wk L s.heap G M/\
   R (.ok<|.ret<|.ref (zg4 s.heap J Z L G).objs.size) {s with heap:=zg5 s.heap J Z L G}):=
 .of_wp λT w A R s h=>by
  obtain⟨E,g,d,O,B⟩:=s;obtain⟨U,S,h⟩:=h;have D:=sub_zip;have I:Wk J (Shared.heap ⟨E,g,d,O,B⟩) Z N:=U;have F:Wk L (Shared.heap ⟨E.push<|Je J Z,g,d,O,B⟩) G M:=Wk.push S _
  wp_walk using Wy I,Wy F
  exact⟨_,Y,h⟩
def SJ(tp:Bool)(h:Heap)(i l:Addr)(k:Nat):Prop:=match tp with
 |false=>h.IsListIter i l k
 |true=>h.IsTupleIter i l k
def SJ.si(z:SJ Z h i l k)(c:Wk Z h l J):SI Z h i l k J:=by
 cases Z <;> exact⟨z,c⟩
def SI.sj(z:SI Z h i l k J):SJ Z h i l k:=by
 cases Z <;> exact z.1
def SJ.to(z:SJ Z h i l k)(J:∀o,h.get? i=some o->G.get? i=some o):SJ Z G i l k:=by
 cases Z with
 |false=>exact let⟨o,e,r⟩:=z;⟨o,J _ e,r⟩
 |true=>exact let⟨o,e,r⟩:=z;⟨o,J _ e,r⟩
def SJ.obj(z:SJ Z h i l k):∃o,h.get? i=some o/\∀v,o.data≠.cell v:=by
 cases Z with
 |false=>obtain⟨o,e,_,d⟩:=z;exact⟨o,e,λv q=>by rw[d]at q;cases q⟩
 |true=>obtain⟨o,e,_,d⟩:=z;exact⟨o,e,λv q=>by rw[d]at q;cases q⟩
def SJ.new(Z:Bool)(h:Heap)(l:Addr):SJ Z (h.push<|Je Z l) h.objs.size l 0:=by
 cases Z <;> exact⟨_,ZY _ Y,Y,Y⟩
structure ZR(h:Heap)(z TI TO:Addr)(t1:Bool)(i1 l1:Addr)(t2:Bool)(i2 l2:Addr)(k:Nat):Prop where
 zip:IsZip h z TI TO .none
 its:IsPair h TI (.ref i1) (.ref i2)
 out:∃a b,IsPair h TO a b
 one:SJ t1 h i1 l1 k
 two:SJ t2 h i2 l2 k
section
def Nw(U:Wk t1 s.heap l1 D)(S:Wk t2 s.heap l2 B)(h:∀g,ZR g (s.heap.objs.size+4) (s.heap.objs.size+2) (s.heap.objs.size+3) t1 s.heap.objs.size l1 t2 (s.heap.objs.size+1) l2 0->
   (∀c o,s.heap.get? c=some o->g.get? c=some o)->Q (.ref<|s.heap.objs.size+4) {s with heap:=g}):wpAny (model prog w) A (call (.type "zip") [.ref l1,.ref l2]) Q E s:=by
 refine callType_new F.called_zip (by decide) (F.typeCall_zip_2 _ _) (F.newCall_zip_2 _ _) (λJ=>F.args_object_init_3 J _ _) F.entry_zip_new (N6 t1 t2 l1 l2 D B) ⟨U,S,?_⟩;have M:(zg1 s.heap t1 l1).objs.size=s.heap.objs.size+1:=vg ..;have L:(zg2 s.heap t1 l1 t2 l2).objs.size=s.heap.objs.size+2:=by rw[vg,M]
 have G:(zg3 s.heap t1 l1 t2 l2).objs.size=s.heap.objs.size+3:=by rw[vg,L]
 have T:(zg4 s.heap t1 l1 t2 l2).objs.size=s.heap.objs.size+4:=by rw[vg,G]
 have Z:(zg5 s.heap t1 l1 t2 l2).get? (zg4 s.heap t1 l1 t2 l2).objs.size=some _:=ZY _ rfl;have N:(zg5 s.heap t1 l1 t2 l2).get? (zg3 s.heap t1 l1 t2 l2).objs.size=some _:=ZE _<|ZY _ rfl;have O:(zg5 s.heap t1 l1 t2 l2).get? (zg2 s.heap t1 l1 t2 l2).objs.size=some _:=ZE _<|ZE _<|ZY _ rfl;have R:SJ t2 (zg5 s.heap t1 l1 t2 l2) (zg1 s.heap t1 l1).objs.size l2 0:=(SJ.new t2 (zg1 s.heap t1 l1) l2).to λo q=>ZE _<|ZE _<|ZE _ q;have I:SJ t1 (zg5 s.heap t1 l1 t2 l2) s.heap.objs.size l1 0:=(SJ.new t1 s.heap l1).to λo q=>ZE _<|ZE _<|ZE _<|ZE _ q;show _/\_;rw[L,G,T]at Z;rw[M,L]at O;rw[G]at N;rw[M]at R;rw[T]
 exact⟨⟨_,Z,Y⟩,h _ ⟨Z,O,⟨_,_,N⟩,I,R⟩ λc o q=>
  ZE _ (ZE _<|ZE _<|ZE _<|ZE _ q)⟩
end
def Sq(K:W.Frag)(tp:Bool)(H:Hp)(l:Addr)(xs:kH):Prop:=match tp with
 |false=>SqL K H l xs
 |true=>SqT K H l xs
def Inv.sq(I:Inv X G U H s)(h:Sq X.K J H l L):∃Z:kq,Vals L Z/\Wk J s.heap l Z.toArray:=by
 cases J with
 |false=>
  obtain⟨Z,r,p,_⟩:=I.list h;exact⟨Z,r,p.isList⟩
 |true=>
  obtain⟨Z,r,p,_⟩:=I.tuple h;exact⟨Z,r,p⟩
def Inv.sq_inj(I:Inv X J U H s)(h:Sq X.K Z H l M)(G:Sq X.K Z H l L):M=L:=by
 cases Z with
 |false=>exact I.list_inj h G
 |true=>exact I.tuple_inj h G
def Wk.lt(z:Wk Z h l J):l<h.objs.size:=by
 cases Z with
 |false=>obtain⟨_,e,_⟩:=z;exact ZP e
 |true=>obtain⟨_,e,_⟩:=z;exact ZP e
def Itz(K:W.Frag)(t1:Bool)(l1:Addr)(t2:Bool)(l2:Addr):It:=
  ⟨λi H=>∃J Z x y,Sq K t1 H l1 J/\Sq K t2 H l2 Z/\J[i]?=some x/\Z[i]?=some y,
   λi H v G=>∃p x y,v=.ref p/\H p=none/\G=upd H p (.tup [x,y])/\(∀J,Sq K t1 H l1 J->J[i]?=some x)/\∀Z,Sq K t2 H l2 Z->Z[i]?=some y,
   λi H=>∃J Z,Sq K t1 H l1 J/\Sq K t2 H l2 Z/\(J.length<=i\/Z.length<=i)⟩
def RX:bootBuiltins "zip"=some (.type "zip"):=by decide +kernel
def Inv.turnedL{ch:kC}(I:Inv X Z U H s)(k:∀b o,b∉ch->s.heap.get? b=some o->O.get? b=some o)(f:∀b∈ch,J6 X Z H b):
  Inv X Z U H {s with heap:=O,toks:=t'}:=by
 have L:∀b u,H b=some u->b∉ch:=λb u e z=>by rw[(f b z).1]at e;cases e
 have M:X.env.locals∉ch:=λz=>(f _ z).2.1 rfl;refine I.step (g':=s.gens) (d':=s.drawn) (ch:=ch) (λb G=>⟨(f b G).2.2.2.1,(f b G).2.1,(f b G).2.2.2.2.1,(f b G).2.2.2.2.2⟩) (λb o _ _ J e _=>k b o J e) (λb o _ _ J e _=>⟨o.slots,k b o J e⟩) (λ_ _ _ _ n=>n)
  (λb o J e=>⟨o,k b o J e⟩) (λ_ _ e=>e) (λ_ _ _ e=>e) (λb R e=>⟨#[],by rw[e];simp⟩) (λm N=>?_) (λb u e=>?_) I.bare
 .obtain ⟨o,es,ep,ho,r⟩:=N
  exact⟨o,es,ep,k _ o M ho,r⟩
 .refine (I.hok b u e).stay (λc v J q=>k c v ?_ q) (λ_ q=>q) λ_ _ q=>q
  rcases J with z|z
  .rw [z];exact L b u e
  .exact L c _ z
def Co{a b c d x:Addr}(h:x∈ [a,b,c,d]):x=a\/x=b\/x=c\/x=d:=by simpa using h
def IL{P:Program}{w:World}{K:W.Frag}{B:kS}{x1}{r:Pos}{z TI TO L G l1 l2:Addr}{t1 t2:Bool}(D:ZipApart z TI TO L G l1 l2):
  Turn P w K (.Tuple B x1 r) (Itz K t1 l1 t2 l2) [z,TO,L,G,TI] z (λi h=>ZR h z TI TO t1 L l1 t2 G l2 i) where
 mem:=by simp
 obj:=λi h st b Z=>by
  have q:b=z\/b=TO\/b=L\/b=G\/b=TI:=by simpa using Z
  rcases q with q|q|q|q|q <;> rw[q]
  .exact ⟨_,st.zip,λv e=>nomatch e⟩
  .obtain ⟨a,b,e⟩:=st.out
   exact⟨_,e,λv e=>nomatch e⟩
  .exact st.one.obj
  .exact st.two.obj
  .exact ⟨_,st.its,λv e=>nomatch e⟩
 keep:=λi h h' st k=>⟨k z (by simp) _ st.zip,k TI (by simp) _ st.its,let⟨a,b,e⟩:=st.out;⟨a,b,k TO (by simp) _ e⟩,st.one.to λo e=>k L (by simp) o e,st.two.to λo e=>k G (by simp) o e⟩
 item:=by
  intro X hP hw hK hc i J s U H E I C st hg;subst hP hw hK;obtain⟨xs,ys,x,y,S,A,hx,hy⟩:=hg;obtain⟨R,u,j⟩:=I.sq S;obtain⟨O,d,Q⟩:=I.sq A;obtain⟨m,G2,c⟩:=u.get hx;obtain⟨t,G1,p⟩:=d.get hy;refine D4 D ⟨st.zip,st.its,st.out,st.one.si j,st.two.si Q⟩ (x:=m) (y:=t) (by simpa using G2) (by simpa using G1) λg F hp sz kp=>?_
  have f:∀b∈ [z,TO,L,G],J6 X J H b:=λb Z=>C b (by
   rcases Co Z with q|q|q|q <;> rw[q] <;> simp)
  have J2:∀b o,b ∉ [z,TO,L,G]->s.heap.get? b=some o->g.get? b=some o:=λb o Z e=>kp b o (λq=>Z<|by simp[q]) (λq=>Z<|by simp[q]) (λq=>Z<|by simp[q]) (λq=>Z<|by simp[q]) e;have I1:Inv X J U H {s with heap:=g}:=I.turnedL (t':=s.toks) J2 f;have hn:H s.heap.objs.size=none:=I.hok.fresh<|ZG _;have N:z<s.heap.objs.size:=ZP st.zip;exists _,Y;refine wpAny_letOwnedTupleGo_zip (s:={s with heap:=g}) F.zip λg2 z2 M=>?_
  have I2:Inv X J U H {s with heap:=g2}:=I1.turnedL (s:={s with heap:=g}) (t':=s.toks) (ch:=[z]) (λb o Z e=>M.extBut b o (λq=>Z<|by simp[q]) e) λb Z=>by
   have q:b=z:=by simpa using Z
   rw[q];exact f z<|by simp
  have l:IsPair g2 s.heap.objs.size m t:=M.extBut _ _ (vt N) hp;have I3:Inv X J U (upd H s.heap.objs.size<|.tup [x,y]) {s with heap:=g2}:=I2.retrack hn (I.fpOk (ZG _) hn) ⟨sl 2,[m,t],.cons c<|.cons p .nil,⟨_,l,rfl,rfl,_,rfl⟩⟩
  have n:∀b∈ [z,TO,L,G,TI],b<s.heap.objs.size:=λb Z=>by
   have q:b=z\/b=TO\/b=L\/b=G\/b=TI:=by simpa using Z
   rcases q with q|q|q|q|q <;> rw[q]
   .exact N
   .obtain ⟨a,b,e⟩:=st.out
    exact ZP e
   .obtain ⟨o,e,_⟩:=st.one.obj
    exact ZP e
   .obtain ⟨o,e,_⟩:=st.two.obj
    exact ZP e
   .exact ZP st.its
  refine⟨.ref s.heap.objs.size,_,I3,Y,⟨_,x,y,Y,hn,Y,λzs h=>by rw[I.sq_inj h S];exact hx,λzs h=>by rw[I.sq_inj h A];exact hy⟩,?_,λb Z=>?_⟩
  .refine ⟨z2,M.extBut _ _ D.TIz F.its,let⟨a,b,e⟩:=F.out;⟨a,b,M.extBut _ _ D.TOz e⟩,F.one.sj.to λo e=>M.extBut _ _ D.i1z e,F.two.sj.to λo e=>M.extBut _ _ D.i2z e⟩
  .rw [Yg (Ze<|n b Z)]
   exact(C b Z).1
 done:=by
  intro X hP hw hK hc i J s U H E I C st hg;subst hP hw hK;obtain⟨xs,ys,S,A,T⟩:=hg;obtain⟨R,u,j⟩:=I.sq S;obtain⟨O,d,Q⟩:=I.sq A;have e1:=u.length;have e2:=d.length;refine Fs (I.ok.hd hc) D ⟨st.zip,st.its,st.out,st.one.si j,st.two.si Q⟩ ?_ λg kp=>⟨Y,?_⟩
  .rcases T with q|q
   .exact .inl (by simp;omega)
   .exact .inr (by simp;omega)
  .refine I.turnedL (t':=s.toks) (ch:=[z,TO,L,G]) (λb o Z e=>kp b o (λq=>Z<|by simp[q]) (λq=>Z<|by simp[q]) (λq=>Z<|by simp[q]) (λq=>Z<|by simp[q]) e) λb Z=>C b (by
    rcases Co Z with q|q|q|q <;> rw[q] <;> simp)
 self:=λ_ _ _ _ _ st h=>wpAny_pyIter_zip st.zip h
def zap(n J Z:Nat)(M:J<n)(L:Z<n):ZipApart (n+4) (n+2) (n+3) n (n+1) J Z:=by
 constructor <;> (intro q;have G:(_:Nat)=_:=q;omega)
def yK(K:W.Frag)(ta:TA):TI:=λU H R=>ta U H λN Z=>∃a b G J M L,N=[.ref a,.ref b]/\Sq K G Z a M/\Sq K J Z b L/\R (Itz K G a J b) Z
def Se(f:Gl X "zip")(d:X.mg "zip"=none)(w:PA X [a,b] ta)(c:starEach [a,b] X.env=[(false,eval a X.env),(false,eval b X.env)]:=by rfl)(G:starEach [b] X.env=[(false,eval b X.env)]:=by rfl):PI X (.Tuple elts x1 tpos) (.Call (.Name "zip" p) [a,b] [] pos) (yK X.K ta):=by
 intro J s U H R I h;refine Call_ (Ue I f d RX<|yz (thn (w pos J s U H _ I h) λx Z ⟨n,A,M,j,O⟩=>?_) (by rw[c,G]) (by rw[G];rfl));obtain⟨l1,l2,t1,t2,o,l,e,O,y,q⟩:=O;subst e;obtain⟨u,i,rfl,C,N⟩:=vals2 j;cases C;cases N;obtain⟨F,Q,B⟩:=M.sq O;obtain⟨E,P,T⟩:=M.sq y;have m:=B.lt;have t:=T.lt;refine Nw B T λg S k=>?_;refine wpAny_pyIter_zip (s:={Z with heap:=g}) S.zip ?_;have D:=zap _ _ _ m t;have r:Inv X J U A {Z with heap:=g}:=M.kept (t':=Z.toks) k;refine⟨_,[Z.heap.objs.size+4,Z.heap.objs.size+3,Z.heap.objs.size,Z.heap.objs.size+1,Z.heap.objs.size+2],_,_,A,Y,r,IL D,S,λb v=>?_,q⟩
 have L:Z.heap.objs.size<=b:=by
  have z:b=Z.heap.objs.size+4\/b=Z.heap.objs.size+3\/b=Z.heap.objs.size\/b=Z.heap.objs.size+1\/b=Z.heap.objs.size+2:=by simpa using v
  rcases z with z|z|z|z|z <;> rw[z] <;> first|exact ZG _|exact vf _ _
 exact M.fpOk L<|M.hok.fresh L
inductive Dat where
 |non|bl (b:Bool)|int (i:Int)|str (x:Str)|tup (ds:List Dat)|lst (ds:List Dat)
abbrev kM:=List Dat
mutual
def Has(H:Hp):V->Dat->Prop
 |v,.non=>v=.non
 |v,.bl b=>v=.bl b
 |v,.int i=>v=.int i
 |v,.str x=>v=.str x
 |v,.tup ds=>∃a xs,v=.ref a/\H a=some (.tup xs)/\HasL H xs ds
 |v,.lst ds=>∃a xs,v=.ref a/\H a=some (.lst xs)/\HasL H xs ds
def HasL(H:Hp):List V->List Dat->Prop
 |[],[]=>True
 |x::xs,d::ds=>Has H x d/\HasL H xs ds
 |_::_,[]=>False
 |[],_::_=>False
end
mutual
theorem Has.mono{H M:Hp}(e:Same H M):∀(d:Dat){v:V},Has H v d->Has M v d
 |.non,_,h=>by unfold Has at h |-;exact h
 |.bl _,_,h=>by unfold Has at h |-;exact h
 |.int _,_,h=>by unfold Has at h |-;exact h
 |.str _,_,h=>by unfold Has at h |-;exact h
 |.tup ds,_,h=>by
  unfold Has at h |-;obtain⟨a,Z,L,G,J⟩:=h;exact⟨a,Z,L,e _ _ G,HasL.mono e ds J⟩
 |.lst ds,_,h=>by
  unfold Has at h |-;obtain⟨a,Z,L,G,J⟩:=h;exact⟨a,Z,L,e _ _ G,HasL.mono e ds J⟩
theorem HasL.mono{H G:Hp}(e:Same H G):∀(Z:kM){J:kH},HasL H J Z->HasL G J Z
 |[],[],h=>by unfold HasL;trivial
 |[],_::_,h=>by unfold HasL at h;exact h.elim
 |_::_,[],h=>by unfold HasL at h;exact h.elim
 |d::Z,x::J,h=>by
  unfold HasL at h |-;exact⟨Has.mono e d h.1,HasL.mono e Z h.2⟩
end
theorem HasL.length:∀{J:kM}{Z:kH},HasL H Z J->Z.length=J.length
 |[],[],h=>rfl
 |[],_::_,h=>by unfold HasL at h;exact h.elim
 |_::_,[],h=>by unfold HasL at h;exact h.elim
 |d::J,x::Z,h=>by
  unfold HasL at h;rw[Zf,Zf,HasL.length h.2]
theorem HasL.get:∀{J:kM}{Z:kH}{i:Nat}{x:V},HasL H Z J->Z[i]?=some x->∃d,J[i]?=some d/\Has H x d
 |[],[],i,x,h,e=>by simp at e
 |[],_::_,_,_,h,_=>by unfold HasL at h;exact h.elim
 |_::_,[],_,_,h,_=>by unfold HasL at h;exact h.elim
 |d::J,y::Z,0,x,h,e=>by
  unfold HasL at h;have G:some y=some x:=e;cases G;exact⟨d,Y,h.1⟩
 |d::J,y::Z,i+1,x,h,e=>by
  unfold HasL at h;exact HasL.get (i:=i) h.2 e
theorem HasL.append:∀{L G:kM}{J Z:kH},HasL H J L->HasL H Z G->HasL H (J++ Z) (L++ G)
 |[],_,[],_,_,h=>h
 |[],_,_::_,_,h,_=>by unfold HasL at h;exact h.elim
 |_::_,_,[],_,h,_=>by unfold HasL at h;exact h.elim
 |d::L,G,x::J,Z,h,h'=>by
  unfold HasL at h;show HasL H (x::(J++ Z)) (d::(L++ G));unfold HasL;exact⟨h.1,HasL.append h.2 h'⟩
abbrev Z7:=@HasL.append
def HasL.one(h:Has H x d):HasL H [x] [d]:=by
 unfold HasL;exact⟨h,by unfold HasL;trivial⟩
abbrev Z5:=@HasL.one
def HasL.nil:HasL H [] []:=by unfold HasL;trivial
abbrev Z6:=@HasL.nil
def HasL.cons(h:Has H x d)(t:HasL H Z J):HasL H (x::Z) (d::J):=by
 unfold HasL;exact⟨h,t⟩
abbrev Z4:=@HasL.cons
mutual
theorem Has.inj{H:Hp}:∀(d Z:Dat){v:V},Has H v d->Has H v Z->d=Z
 |.non,Z,_,h,h'=>by
  unfold Has at h;subst h;cases Z <;> unfold Has at h' <;> first|(obtain⟨_,_,q,_⟩:=h';cases q;done)|rfl|(cases h';done)
 |.bl _,Z,_,h,h'=>by
  unfold Has at h;subst h;cases Z <;> unfold Has at h' <;> first|(obtain⟨_,_,q,_⟩:=h';cases q;done)|(cases h';done)|(cases h';rfl)
 |.int _,Z,_,h,h'=>by
  unfold Has at h;subst h;cases Z <;> unfold Has at h' <;> first|(obtain⟨_,_,q,_⟩:=h';cases q;done)|(cases h';done)|(cases h';rfl)
 |.str _,Z,_,h,h'=>by
  unfold Has at h;subst h;cases Z <;> unfold Has at h' <;> first|(obtain⟨_,_,q,_⟩:=h';cases q;done)|(cases h';done)|(cases h';rfl)
 |.tup ds,Z,_,h,h'=>by
  unfold Has at h;obtain⟨a,B,T,L,R⟩:=h;subst T
  cases Z with
  |tup M=>
   unfold Has at h';obtain⟨b,O,G,J,N⟩:=h';cases G;rw[L]at J;cases J;rw[HasL.inj ds M R N]
  |lst M=>
   unfold Has at h';obtain⟨b,O,G,J,N⟩:=h';cases G;rw[L]at J;cases J
  |_=>unfold Has at h';cases h'
 |.lst ds,Z,_,h,h'=>by
  unfold Has at h;obtain⟨a,B,T,L,R⟩:=h;subst T
  cases Z with
  |lst M=>
   unfold Has at h';obtain⟨b,O,G,J,N⟩:=h';cases G;rw[L]at J;cases J;rw[HasL.inj ds M R N]
  |tup M=>
   unfold Has at h';obtain⟨b,O,G,J,N⟩:=h';cases G;rw[L]at J;cases J
  |_=>unfold Has at h';cases h'
theorem HasL.inj{H:Hp}:∀(G J:kM){Z:kH},HasL H Z G->HasL H Z J->G=J
 |[],[],_,_,_=>rfl
 |[],_::_,Z,h,h'=>by
  cases Z <;> unfold HasL at h h'
  .exact h'.elim
  .exact h.elim
 |_::_,[],Z,h,h'=>by
  cases Z <;> unfold HasL at h h'
  .exact h.elim
  .exact h'.elim
 |d::G,e::J,Z,h,h'=>by
  cases Z with
  |nil=>unfold HasL at h;exact h.elim
  |cons x Z=>
   unfold HasL at h h';rw[Has.inj d e h.1 h'.1,HasL.inj G J h.2 h'.2]
end
theorem Nf{K:W.Frag}:∀{d:Dat},Has H v d->Xd K H v (.type<|match d with|.non=>"NoneType"|.bl _=>"bool"|.int _=>"int"|.str _=>"str"|.tup _=>"tuple"|.lst _=>"list")
 |.non,h=>by unfold Has at h;subst h;exact .non
 |.bl _,h=>by unfold Has at h;subst h;exact .bl _
 |.int _,h=>by unfold Has at h;subst h;exact .int _
 |.str _,h=>by unfold Has at h;subst h;exact .str _
 |.tup _,h=>by unfold Has at h;obtain⟨a,Z,rfl,e,_⟩:=h;exact .tup e
 |.lst _,h=>by unfold Has at h;obtain⟨a,Z,rfl,e,_⟩:=h;exact .lst e
end L2
namespace L2
open PySem
def Pz{K:PySem.W.Frag}{a:Addr}{xs:kH}{g:TG}{L:TS}{D:Ends}{U:St}{H:Hp}(Z:kI)(S:Z 0 U H)(A:∀i U H,i<=xs.length->Z i U H->SqL K H a xs)(F:∀(B:kJ)(R:VK) i x U H,xs[i]?=some x->Z i U H->g x U H fun σ2 G=>L {nx:=Z<|i+1,rt:=R,bk:=B,ct:=Z (i+1)} σ2 G)(I:∀U H,Z xs.length U H->D.nx U H):
  ∃W:Nat->Nat->St->Hp->Prop,(∃m,W 0 m U H)/\∀i m U H,W i m U H->
   ((Itl K a).stop i H/\D.nx U H)\/((Itl K a).go i H/\∃N:kJ,(∀O J,N O J->∃M,M<m/\W (i+1) M O J)/\∀x J,(Itl K a).yld i H x J->g x U J fun σ2 G=>L {D with nx:=N,ct:=N,bk:=D.nx} σ2 G):=
 Nj Z S A (λi x U H E p=>F _ _ i x U H E p) I
def Ta{K:PySem.W.Frag}{a:Addr}{xs:kH}{g:TG}{L:TS}{D:Ends}{U:St}{H:Hp}(Z:kI)(S:Z 0 U H)(A:∀i U H,i<=xs.length->Z i U H->SqT K H a xs)(F:∀(B:kJ)(R:VK) i x U H,xs[i]?=some x->Z i U H->g x U H fun σ2 G=>L {nx:=Z<|i+1,rt:=R,bk:=B,ct:=Z (i+1)} σ2 G)(I:∀U H,Z xs.length U H->D.nx U H):
  ∃W:Nat->Nat->St->Hp->Prop,(∃m,W 0 m U H)/\∀i m U H,W i m U H->
   ((Itt K a).stop i H/\D.nx U H)\/((Itt K a).go i H/\∃N:kJ,(∀O J,N O J->∃M,M<m/\W (i+1) M O J)/\∀x J,(Itt K a).yld i H x J->g x U J fun σ2 G=>L {D with nx:=N,ct:=N,bk:=D.nx} σ2 G):=
 Pw Z S A (λi x U H E p=>F _ _ i x U H E p) I
def Tb{G:Int}{n:Nat}{g:TG}{M:TS}{D:Ends}{U:St}{H:Hp}(Z:kI)(S:Z 0 U H)(F:∀(B:kJ)(R:VK) i U H,i<n->Z i U H->g (.int<|G+i) U H fun σ2 L=>M {nx:=Z<|i+1,rt:=R,bk:=B,ct:=Z (i+1)} σ2 L)(I:∀U H,Z n U H->D.nx U H):
  ∃W:Nat->Nat->St->Hp->Prop,(∃m,W 0 m U H)/\∀i m U H,W i m U H->
   ((Itr G n).stop i H/\D.nx U H)\/((Itr G n).go i H/\∃N:kJ,(∀T J,N T J->∃O,O<m/\W (i+1) O T J)/\∀x J,(Itr G n).yld i H x J->g x U J fun σ2 L=>M {D with nx:=N,ct:=N,bk:=D.nx} σ2 L):=
 FY Z S (λi U H A p=>F _ _ i U H A p) I
def Yf.none{P:Program}{w:World}{K:W.Frag}{M:Str->Option Value}{base:Heap}{O:CXT}{k:Nat}{f:Addr}{N:FuncData}{L:ky}{G:Sp}(h:∀Z H Q E,G Z H Q E->False):Yf P w K M base O k f N L G:=
 ⟨λZ H Q E q=>(h _ _ _ _ q).elim,λA J s H args R Z Q E _ _ _ _ q=>(h _ _ _ _ q).elim⟩
def Y5{N P:ky}{Z:Scope}(h:Z.kind=.function/\Z.isCoroutine=false/\Z.isGenerator=false/\N.Nodup/\N.take P.length=P/\(∀x∈P,Z.names.lookup x=some .local\/Z.names.lookup x=some .cell)/\∀y∈Z.names,y.2≠.free:=by decide +kernel):Yh N P Z:=
 ⟨h.1,h.2.1,h.2.2.1,h.2.2.2.1,h.2.2.2.2.1,h.2.2.2.2.2.1,h.2.2.2.2.2.2⟩
end L2
namespace K4
open PySem L2
def top(i:Nat):Stmt:=PySem.Challenge.pw_wantway_k43_rings_of_cells.main.body.getD i<|.Pass ⟨0,0,0,0⟩
abbrev BY:Stmt:=top 2
abbrev Gn:Stmt:=top 3
abbrev sKP:Stmt:=top 5
abbrev Ir:Stmt:=top 6
abbrev Bh:Stmt:=top 7
abbrev Bg:Stmt:=top 8
abbrev Iu:Stmt:=top 9
abbrev MK:Stmt:=top 10
abbrev Bf:Stmt:=top 11
abbrev Gq:Stmt:=top 12
abbrev Iw:Stmt:=top 13
abbrev Iv:Stmt:=top 14
abbrev MM:Stmt:=top 26
abbrev Bi:Stmt:=top 27
abbrev BW:Stmt:=top 28
abbrev UJ:Stmt:=top 36
abbrev Iy:Stmt:=inClass UJ 0
abbrev Be:Stmt:=inClass UJ 1
abbrev Iq:Stmt:=inClass UJ 2
abbrev BZ:Stmt:=inClass UJ 3
abbrev Ba:Stmt:=inClass UJ 4
abbrev WI:Stmt:=inClass UJ 5
abbrev Gm:Stmt:=inClass UJ 7
abbrev ML:Stmt:=inClass UJ 9
abbrev Gp:Stmt:=inClass UJ 10
abbrev Xj:Stmt:=inClass UJ 11
abbrev XN:Stmt:=top 42
abbrev Bn:Stmt:=inClass XN 0
abbrev Bk:Stmt:=inClass XN 1
abbrev Bo:Stmt:=inClass XN 2
abbrev MQ:Stmt:=inClass XN 3
abbrev MP:Stmt:=inClass XN 4
abbrev MN:Stmt:=inClass XN 5
abbrev Bl:Stmt:=inClass XN 6
abbrev Bm:Stmt:=inClass XN 7
abbrev Bp:Stmt:=inClass XN 8
abbrev Bj:Stmt:=inClass XN 10
abbrev WM:Stmt:=top 43
abbrev Ua:Stmt:=top 44
abbrev Br:Stmt:=top 45
abbrev WL:Stmt:=top 46
abbrev XT:Stmt:=top 47
abbrev WJ:Stmt:=top 48
abbrev Eo:Stmt:=top 50
abbrev UK:Stmt:=top 51
abbrev Tp:Stmt:=top 54
abbrev RV:Stmt:=top 60
abbrev Lj:Stmt:=inClass Eo 0
abbrev Dh:Stmt:=inClass Eo 1
abbrev K2:Stmt:=inClass UK 0
abbrev DB:Stmt:=inClass UK 1
abbrev WU:Stmt:=inClass UK 2
abbrev K3:Stmt:=inClass UK 3
abbrev WW:Stmt:=inClass UK 4
abbrev XZ:Stmt:=inClass UK 5
abbrev WV:Stmt:=inClass UK 6
abbrev G9:Stmt:=inClass UK 7
abbrev Xq:Stmt:=inClass UK 8
abbrev XB:Stmt:=inClass UK 9
abbrev L3:Stmt:=inClass Tp 0
abbrev Ti:Stmt:=inClass Tp 1
abbrev Wf:Stmt:=inClass Tp 4
abbrev Mp:Stmt:=inClass Tp 6
abbrev Tj:Stmt:=inClass Tp 8
abbrev IA:Stmt:=inClass RV 0
abbrev GU:Stmt:=inClass RV 1
abbrev IH:Stmt:=inClass RV 2
abbrev F0:Stmt:=inClass RV 3
abbrev Qz:Stmt:=inClass RV 4
abbrev X8:Stmt:=inClass RV 5
abbrev Bb:Stmt:=top 52
abbrev XU:Stmt:=top 55
abbrev Bq:Stmt:=top 58
abbrev MI:Stmt:=top 59
abbrev Bc:Stmt:=top 62
abbrev MJ:Stmt:=top 63
abbrev Ip:Stmt:=top 64
abbrev BV:Stmt:=top 65
abbrev BX:Stmt:=top 66
abbrev XC:Stmt:=top 67
abbrev LJ:Stmt:=top 68
abbrev LI:Stmt:=top 69
abbrev DU:Stmt:=top 70
def Ie:Yh ["stream","many","number"] ["stream","many"] (Yc Ip):=Y5
end K4
namespace L2
open PySem PySem.Spec PyProof.Rows
def TH(K:W.Frag)(T:String):W.kitOne K (.type T) (.type T)=some true:=by
 unfold W.kitOne;rw[Zp (by simp)]
def yJ{K:W.Frag}:∀{a b:String},(a,b)∈ [("NoneType","bool"),("NoneType","str"),("NoneType","int"),("NoneType","tuple"),("NoneType","list"),("int","bool"),("int","str"),("int","tuple"),("int","list"),("str","bool"),("str","int"),("str","tuple"),("str","list"),("bool","str"),("bool","tuple"),("bool","list"),("tuple","bool"),("tuple","str"),("tuple","int"),("tuple","list"),("list","bool"),("list","str"),("list","int"),("list","tuple")]->W.kitOne K (.type a) (.type b)=some false:=by
 intro a b h;simp only[Zd,Prod.mk.injEq,jh,or_false]at h;rcases h with⟨rfl,rfl⟩|⟨rfl,rfl⟩|⟨rfl,rfl⟩|⟨rfl,rfl⟩|⟨rfl,rfl⟩|⟨rfl,rfl⟩|⟨rfl,rfl⟩|⟨rfl,rfl⟩|⟨rfl,rfl⟩|⟨rfl,rfl⟩|⟨rfl,rfl⟩|⟨rfl,rfl⟩|⟨rfl,rfl⟩|⟨rfl,rfl⟩|⟨rfl,rfl⟩|⟨rfl,rfl⟩|⟨rfl,rfl⟩|⟨rfl,rfl⟩|⟨rfl,rfl⟩|⟨rfl,rfl⟩|⟨rfl,rfl⟩|⟨rfl,rfl⟩|⟨rfl,rfl⟩|⟨rfl,rfl⟩ <;> kernel_rfl
def JB:bootBuiltins "tuple"=some (.type "tuple"):=by decide +kernel
def JU:bootBuiltins "list"=some (.type "list"):=by decide +kernel
def Wj:bootBuiltins "str"=some (.type "str"):=by decide +kernel
def Fm:bootBuiltins "int"=some (.type "int"):=by decide +kernel
def Dt:bootBuiltins "bool"=some (.type "bool"):=by decide +kernel
def Uk:bootBuiltins "dict"=some (.type "dict"):=by decide +kernel
def RY:bootBuiltins "isinstance"=some (.builtin "isinstance"):=by decide +kernel
def Wl:bootBuiltins "all"=some (.builtin "all"):=by decide +kernel
def Fl:bootBuiltins "max"=some (.builtin "max"):=by decide +kernel
def G0(R:Gl X "isinstance")(O:X.mg "isinstance"=none)(J:Gl X x)(Z:X.mg x=none)(M:bootBuiltins x=some (.type T))(he:PE X e te)(N:x≠"__name__":=by decide)(G:(x==("__debug__":Str))=false:=by decide)(L:starEach [e,.Name x p'] X.env=(false,eval e X.env)::starEach [.Name x p'] X.env:=by rfl):
  PE X (.Call (.Name "isinstance" p) [e,.Name x p'] [] pos) (tCB (A8 X.K)<|JZ te<|JZ (tC<|.ty T) Rn):=
 VA L8 R O RY (pa2 he (MU J Z M rfl N G) L) (he:=L)
def tyD:Dat->String
 |.non=>"NoneType"|.bl _=>"bool"|.int _=>"int"|.str _=>"str"|.tup _=>"tuple"|.lst _=>"list"
def TR{K:W.Frag}(h:Has H v d):Xd K H v (.type<|tyD d):=by
 have q:=Nf (K:=K) h;cases d <;> exact q
def isD(T:String)(d:Dat):Bool:=decide (tyD d=T) || (T=="int" && decide (tyD d="bool"))
def TJ(K:W.Frag)(d:Dat)(Z:T∈ ["bool","str","int","tuple","list"]):W.kitOne K (.type<|tyD d) (.type T)=some (isD T d):=by
 simp only[Zd,jh,or_false]at Z;rcases Z with rfl|rfl|rfl|rfl|rfl <;> cases d <;> kernel_rfl
end L2
namespace L2
open PySem
mutual
def Dat.dep:Dat->Nat
 |.tup ds=>1+Dat.deps ds
 |.lst ds=>1+Dat.deps ds
 |_=>0
def Dat.deps:List Dat->Nat
 |[]=>0
 |d::ds=>max d.dep<|Dat.deps ds
end
theorem Dat.deps_get:∀{ds:kM}{i:Nat}{d:Dat},ds[i]?=some d->d.dep<=Dat.deps ds
 |[],i,d,e=>by simp at e
 |a::ds,0,d,e=>by
  have Z:some a=some d:=e;cases Z;unfold Dat.deps;exact vq _ _
 |a::ds,i+1,d,e=>by
  have q:=Dat.deps_get (ds:=ds) (i:=i) e;unfold Dat.deps;exact Zb q<|vo _ _
def VH{c A B:Prop}[Decidable c](Z:c)(h:A):if c then A else B:=by
 rw[Zp Z];exact h
def Y0{c A B:Prop}[Decidable c](Z:¬c)(h:B):if c then A else B:=by
 rw[Zq Z];exact h
def Vh(n:Nat)(U:n<sizeLine)(G:Nat->List V->Hp->Prop)(I:G 0 [] H)(M:∀i Z H,G i Z H->Z.length=i)(O:∀i Z H,i<n->G i Z H->J.go i H)(L:∀Z H,G n Z H->J.stop n H)(E:∀i Z H x N (R:V->Hp->Prop),i<n->G i Z H->J.yld i H x N->(∀v T,G (i+1) (Z++[v]) T->R v T)->g x s0 N λB S=>te B S R)(F:∀Z H p,G n Z H->H p=none->Q (.ref p) (upd H p<|.lst Z)):
  Tq J g te s0 Q H:=by
 refine⟨λi m Z H=>m=n-i/\i<=n/\G i Z H,⟨n,by simp,Zc _,I⟩,?_⟩;rintro i m Z H ⟨rfl,X,p⟩;have C:=M i Z H p;exists by omega
 by_cases hlt:i<n
 .exact .inr ⟨O i Z H hlt p,λx N y=>E i Z H x N _ hlt p y λv T D=>⟨n-(i+1),by omega,rfl,hlt,D⟩⟩
 .have e:i=n:=by omega
  subst e;exact .inl ⟨L Z H p,λa A=>F Z H a p A⟩
def Yq(h:H p=none)(o:HO):Same H (upd H p o):=λb u q=>by rw[Yg (Yb q h)];exact q
@[elab_as_elim] theorem up_in {motive:Hp->Prop}(h:H l=none) (o:HO) (k:∀H',Same H H'->H' l=some o->motive H'):motive (upd H l o):=k _ (Yq h o) Ye
def Gx{α:Type}(f:Nat->α)(i:Nat):(List.range i).map f++[f i]=(List.range<|i+1).map f:=by
 rw[List.range_succ,ZK];rfl
structure Blt(mg:Str->Option Value):Prop where
 len:mg "len"=none
 isi:mg "isinstance"=none
 bool:mg "bool"=none
 str:mg "str"=none
 int:mg "int"=none
 tuple:mg "tuple"=none
 list:mg "list"=none
 dict:mg "dict"=none
 all:mg "all"=none
 zip:mg "zip"=none
 max:mg "max"=none
 range:mg "range"=none
 sorted:mg "sorted"=none
end L2
namespace K4
open PySem L2
section
def Mj:GK 2 (Ni K 2<|Jf (Vl 0)<|Jf (Vl 1) TY):=
 Dc (XE (Vk (i:=0)<|by decide) (XE (Vk (i:=1)<|by decide) De (λ_ _ _ _ _ h z=>h _ _ z) (λx _ _ _ _ h z=>by
  match x,z with
  |[],z=>exact h _ _ z)) (λ_ _ _ _ _ h z=>h _ _ z) (λx _ _ _ _ h z=>by
  match x,z with
  |[v],z=>exact h _ _ z))
end
end K4
namespace L2
open PySem
inductive W where
 |non|tag (x:Str)|pair (a b:W)
def W.dat:W->Dat
 |.non=>.non
 |.tag x=>.str x
 |.pair a b=>.tup [a.dat,b.dat]
def Ng(h:Has H v (W.pair a b).dat):∃p x y,v=.ref p/\H p=some (.tup [x,y])/\Has H x a.dat/\Has H y b.dat:=by
 unfold W.dat Has at h;obtain⟨p,L,rfl,M,Z⟩:=h
 match L,Z with
 |[x,y],Z=>
  unfold HasL at Z;obtain⟨N,J⟩:=Z;unfold HasL at J;exact⟨p,x,y,Y,M,N,J.1⟩
 |[],Z=>unfold HasL at Z;exact Z.elim
 |[x],Z=>unfold HasL at Z;obtain⟨_,J⟩:=Z;unfold HasL at J;exact J.elim
 |_::_::_::_,Z=>
  unfold HasL at Z;obtain⟨_,J⟩:=Z;unfold HasL at J;obtain⟨_,G⟩:=J;unfold HasL at G;exact G.elim
def EY:Has H .non W.non.dat:=by unfold W.dat Has;rfl
def Fb{Z:kB}(h:(Z.map V.int)[i]?=some x):∃n r,x=.int n/\Z.drop i=n::r/\Z.drop (i+1)=r/\n∈Z:=by
 rw[ZH]at h
 cases e:Z[i]? with
 |none=>rw[e]at h;cases h
 |some n=>
  rw[e]at h;cases h;obtain⟨J,q⟩:=ZF.mp e;exact⟨n,Z.drop<|i+1,rfl,by rw[List.drop_eq_getElem_cons J,q],rfl,ZJ e⟩
def JD(ws:kB):Dat:=.tup<|ws.map Dat.int
def W.dep:W->Nat
 |.non=>0
 |.tag _=>0
 |.pair a b=>1+max a.dep b.dep
theorem Nh:∀{J:kB}{Z:kH},HasL H Z (J.map Dat.int)->Z=J.map V.int
 |[],[],_=>rfl
 |[],_::_,h=>by unfold HasL at h;exact h.elim
 |_::_,[],h=>by rw[ZV]at h;unfold HasL at h;exact h.elim
 |n::J,x::Z,h=>by
  rw[ZV]at h;unfold HasL at h;obtain⟨G,L⟩:=h;unfold Has at G;rw[G,Nh L];rfl
theorem Na:∀(Z:kB),HasL H (Z.map V.int)<|Z.map Dat.int
 |[]=>Z6
 |n::Z=>Z4 (by unfold Has;rfl)<|Na Z
def UC(h:Has H v (JD J)):∃a,v=.ref a/\H a=some (.tup<|J.map V.int):=by
 unfold JD Has at h;obtain⟨a,L,rfl,Z,G⟩:=h;rw[Nh G]at Z;exact⟨a,Y,Z⟩
def JC(h:H a=some (.tup<|Z.map V.int)):Has H (.ref a) (JD Z):=by
 unfold JD Has;exact⟨a,_,Y,h,Na Z⟩
def Po(h:Has H v (.lst J)):∃a Z,v=.ref a/\H a=some (.lst Z)/\HasL H Z J:=by unfold Has at h;exact h
def Pk(h:H a=some (.lst Z))(t:HasL H Z J):Has H (.ref a) (.lst J):=by unfold Has;exact⟨a,Z,Y,h,t⟩
def JJ(H:Hp)(p:Addr):Prop:=∃(a:Int)(b:Bool)(c d:Int),H p=some (.lst [.int a,.bl b,.int c,.int d])
def But(p:Addr)(H H':Hp):Prop:=∀b,b≠p->H' b=H b
def But.trans(a:But p H J)(b:But p J Z):But p H Z:=λc h=>(b c h).trans<|a c h
def But.upd{p:Addr}{H:Hp}(o:HO):But p H (upd H p o):=λ_ h=>Yg h
end L2
namespace K4
open PySem L2
def MH:Yh ["cell","k","number"] ["cell","k"] (Yc Bc):=Y5
def Ih:Yh ["cell"] ["cell"] (Yc MJ):=Y5
section
variable{K:W.Frag}
def EA:Sp:=λZ H Q _=>∃(c k:Int),Z=[.int c,.int k]/\∀r:Int,0<=r->r<2147483563->Q (.int r) H
def Kn(F:Fun K "_law_mixed" "_law_mixed" Bc f J):Yf P w K T base CX0 (n+1) f J ["cell","k"] EA:=by
 refine F.oq MH λG A Z s H R Q E I h=>?_;obtain⟨c,k,rfl,q⟩:=h;refine⟨_,YY (Yx 2 MH.nd<|Y9 Jr (Y9 Vn (Y9 Vn (Y9 XX (Y9 Jr (pv 0) Ya) Ya)<|Y9 XX Ya<|pv 1) Ya) Ya)
  (YY (Yx 2 MH.nd<|Y9 Jr (Y9 Vn (Y9 Vn (Y9 XX (pv 2)<|pv 2)<|Y9 XX Ya<|pv 1) Ya) Ya)
  (YZ<|Ym<|Y9 Jr (Y9 XX (pv 2)<|Y9 Vn (pv 2) Ya) Ya)),?_⟩
 show let a:=_;let b:=Yk _ a;Yk _ b _ _ _
 intros
 have D:=vU c (show(2147483647:Int)≠0 by decide);have B:=vI c (show(0:Int)<2147483647 by decide);refine⟨(by show(0:Int)<_;decide),.inl ⟨by omega,by omega⟩,.inl ⟨by decide,by decide⟩,(by show(0:Int)<_;decide),?_⟩;generalize hx:(c % 2147483647*48271+69621*k+7919) % 2147483629=x;have O:0<=x:=by rw[<-hx];exact vU _<|by decide
 have N:x<2147483629:=by rw[<-hx];exact vI _<|by decide
 refine⟨.inl ⟨by omega,by omega⟩,.inl ⟨by decide,by decide⟩,(by show(0:Int)<_;decide),?_⟩;generalize hy:(x*x+31*k+5) % 2147483587=y;have M:0<=y:=by rw[<-hy];exact vU _<|by decide
 have L:y<2147483587:=by rw[<-hy];exact vI _<|by decide
 refine⟨.inl ⟨by omega,by omega⟩,(by show(0:Int)<_;decide),?_⟩;exact q _ (vU _<|by decide)<|vI _<|by decide
def NB:Sp:=λJ H Q _=>∃(c:Int),J=[.int c]/\∀p Z,H p=none->But p H Z->JJ Z p->Q (.ref p) Z
def FK(F:Fun K "_law_stream" "_law_stream" MJ f L):Yf P w K O base CX0 (n+1) f L ["cell"] NB:=by
 refine F.oq Ih λM A Z s H N Q E R h=>?_;obtain⟨c,rfl,q⟩:=h;exists _,YZ<|Ym<|V8<|pa4 (pv 0) (CF (Jc QX (pv 0) (Y9 Ke Ya Ya)<|Yz _)<|XW<|Jc Xp (pv 0) (Wr Ur<|Y9 Ke Ya Ya)<|Yz _) Ya<|Y9 Jr (pv 0) Ya;have G:zO 10 18:=⟨by decide,by decide,by decide⟩;exists G,_,Y;refine AM (λ_=>?_) λ_=>?_
 .refine ⟨(by show(0:Int)<_;decide),sl 4,λp J=>?_⟩
  exact q p _ J (But.upd _) ⟨_,_,_,_,Ye⟩
 .refine ⟨G,_,rfl,?_⟩
  refine⟨(by show(0:Int)<_;decide),sl 4,λp J=>?_⟩;exact q p _ J (But.upd _) ⟨_,_,_,_,Ye⟩
def Gb:Sp:=λJ H Q _=>∃(p:Addr)(many:Int),J=[.ref p,.int many]/\JJ H p/\0<many/\many<1073741824/\∀(r:Int)(Z:Hp),0<=r->r<many->But p H Z->JJ Z p->Q (.int r) Z
def PK(F:Fun K "_law_take" "_law_take" Ip f C)(G:Yf P w K R base CX0 n g U ["cell","k"] EA)(j:Binds K U ["cell","k"] [])(D:W.keepIn K (.ref g)=true)(T:R "_law_mixed"=some (.ref g)):
  Yf P w K R base CX0 (n+1) f C ["stream","many"] Gb:=by
 refine F.oq Ie λX A O s H y Q E I h=>?_;obtain⟨p,many,rfl,⟨a,b,c,d,J⟩,L,B,q⟩:=h;refine⟨_,YY (Y1 (JR<|Yo VB (pv 0) Ya)
   (YY (Yx 2 Ie.nd<|Y9 Jr (Yo VB (pv 0) Ya)<|pv 1)
   (YY (Jq (Y9 W9 (Yo VB (pv 0) Ya)<|pv 1)<|Bx (pv 0) Ya set_list)
   (YY (Jq (WO (Jc UR (Yo VB (pv 0) Ya) Ya<|Yz _)<|XW<|Jc UR (Yo VB (pv 0) Ya) (Wr Ur Ya)<|Yz _)<|Bx (pv 0) Ya set_list)
   (YZ<|Ym<|pv 2)))) Yp)
  (YY (Jq (Y9 Vn (Yo VB (pv 0) Ya) Ya)<|Bx (pv 0) Ya set_list)
  (YZ<|Ym<|Y9 Jr (Y9 W9 (Jd G I rfl T D j .nil Y2 (pa2 (Yo VB (pv 0) Ya)<|Yo VB (pv 0) Ya)) Ya)<|pv 1)),?_⟩
 show let a:=_;let b:=Yk _ a;let c:=_;let d:=Yk _ c;let e:=Yk _ d;let f:=Yk _ e;Yk (VE _ f _) b _ _ _
 intros
 exists _,_,Z3 J,Y,_,Y;refine AM (λS=>?_) λS=>?_
 .refine ⟨_,_,Z3 J,rfl,L,?_⟩
  exists _,_,Z3 J,Y,⟨L,B⟩,p,_,0,0,Y,Y,J,Y;have Z:upd H p (.lst [.int (a / many),.bl b,.int c,.int d]) p=some (.lst [.int (a / many),.bl b,.int c,.int d]):=Ye;exists _,_,Z3 Z,Y,Y,_,Y;have N:=vU a (show many≠0 by omega);have M:=vI a L;refine AM (λ_=>?_) λ_=>?_
  .refine ⟨_,_,Z3 Z,rfl,_,rfl,rfl,p,_,1,1,rfl,rfl,Z,rfl,?_⟩
   exact q _ _ N M ((But.upd _).trans<|But.upd _) ⟨_,_,_,_,Ye⟩
  .refine ⟨p,_,1,1,rfl,rfl,Z,rfl,?_⟩
   exact q _ _ N M ((But.upd _).trans<|But.upd _) ⟨_,_,_,_,Ye⟩
 .refine ⟨_,_,Z3 J,rfl,p,_,2,2,rfl,rfl,J,rfl,?_⟩
  have Z:upd H p (.lst [.int a,.bl b,.int<|c+1,.int d]) p=some (.lst [.int a,.bl b,.int<|c+1,.int d]):=Ye;refine⟨_,_,Z3 Z,Y,_,_,Z3 Z,Y,_,_,Y,λr N M=>?_⟩;exists ⟨by decide,by decide⟩,L;exact q _ _ (vU _<|by omega) (vI _ L) (But.upd _) ⟨_,_,_,_,Ye⟩
end
end K4
namespace L2
open PySem
def alpha(o:Nat):Str:=⟨((List.range 26).map (o + ·)).toArray⟩
def one(c:Nat):Str:=⟨#[c]⟩
def txt(cs:List Nat):Str:=⟨cs.toArray⟩
def Wn(o:Nat):(alpha o).length=26:=by show((List.range 26).map (o + ·)).toArray.size=26;simp
def N0(o:Nat)(j:Int)(J:0<=j)(Z:j<26):atI (alpha o).cps.toList j=some (o+j.toNat):=by
 obtain⟨n,rfl⟩:∃n:Nat,j=n:=⟨j.toNat,by omega⟩;refine VG ?_;show(((List.range 26).map (o + ·)).toArray.toList)[n]?=_;rw[List.toList_toArray,ZH,List.getElem?_range (by omega)]
 rfl
def K1(G:o=97\/o=65)(h:o<=c/\c<o+26):∃i rest,Builtin.Str.occurrences (alpha o) (one c) 0 (alpha o).length 1=i::rest:=by
 have J:∀j<26,(Builtin.Str.occurrences (alpha 97) (one<|97+j) 0 26 1).isEmpty=false/\(Builtin.Str.occurrences (alpha 65) (one<|65+j) 0 26 1).isEmpty=false:=by decide +kernel
 rw[Wn]
 have Z:(Builtin.Str.occurrences (alpha o) (one c) 0 26 1).isEmpty=false:=by
  have a:=J (c-o) (by omega);rcases G with rfl|rfl
  .have e:97+(c-97)=c:=by omega
   rw[e]at a;exact a.1
  .have e:65+(c-65)=c:=by omega
   rw[e]at a;exact a.2
 cases q:Builtin.Str.occurrences (alpha o) (one c) 0 26 1 with
 |nil=>rw[q]at Z;cases Z
 |cons i r=>exact⟨i,r,Y⟩
def Ed{Z:List Nat}(h:Z.length=8):∃a b c d e f g i,Z=[a,b,c,d,e,f,g,i]:=by
 match Z,h with
 |[a,b,c,d,e,f,g,i],_=>exact⟨a,b,c,d,e,f,g,i,Y⟩
def Cv(h:cs.length=8):Txt.join (Str.ofString "") (cs.map one)=txt cs:=by
 obtain⟨a,b,c,d,e,f,g,i,rfl⟩:=Ed h
 rfl
def Mq(h:cs.length=8)(j:Nat)(Z:j<=8):Txt.slice (txt cs) none (some (j:Int))=txt (cs.take j):=by
 obtain⟨a,b,c,d,e,f,g,i,rfl⟩:=Ed h
 match j,Z with
 |0,_|1,_|2,_|3,_|4,_|5,_|6,_|7,_|8,_=>rfl
def L5(h:cs.length=8)(j:Nat)(Z:j<=8):Txt.slice (txt cs) (some (j:Int)) none=txt (cs.drop j):=by
 obtain⟨a,b,c,d,e,f,g,i,rfl⟩:=Ed h
 match j,Z with
 |0,_|1,_|2,_|3,_|4,_|5,_|6,_|7,_|8,_=>
  unfold Txt.slice;rw[show(txt [a,b,c,d,e,f,g,i]).length=8 from rfl]
  first
   |(rw[Zp (by decide +kernel)];rfl)
   |(rw[Zq (by decide +kernel)];rfl)
def Rm(a b:List Nat):txt a++ txt b=txt (a++ b):=by
 show(⟨a.toArray++ b.toArray⟩:Str)=⟨(a++ b).toArray⟩;simp
def OV(h:txt a=txt b):a=b:=by
 have q:a.toArray=b.toArray:=congrArg Str.cps h;simpa using q
def Rl(a:List Nat):(txt a).length=a.length:=by show a.toArray.size=a.length;simp
def wd(o:Nat)(cs:List Nat)(at' way i k:Nat):List Nat:=
 if way=0 then cs.take at'++[o+(i+5*k) % 26]++ cs.drop (at'+1)
 else if way=1 then[o+(i+5*k) % 26]++ cs.take ((3*k+at') % 8)
 else if way=2 then cs.take (k % 8+1)
 else cs.take (8-k % 8)
def Oc(Z:k<l)(h:l<24):(i+5*k) % 26≠(i+5*l) % 26:=λe=>by
 have q:=Nat.sub_mod_eq_zero_of_mod_eq e.symm;have f:∀d:Fin 24,d.val≠0->5*d.val % 26≠0:=by decide
 refine f ⟨l-k,by omega⟩ (by show l-k≠0;omega) ?_;show 5*(l-k) % 26=0;rw[Nat.mul_sub,<-Nat.add_sub_add_left i (5*l) (5*k)];exact q
def Al(O:cs.length=8)(G:at'<8)(N:way<2/\l<24\/l<8)(Z:k<l):wd o cs at' way i k≠wd o cs at' way i l:=by
 intro e;have d:=Oc (i:=i) Z (N.elim (·.2) λz=>qb z<|by decide);unfold wd at e
 by_cases w0:way=0
 .rw [Zp w0,Zp w0]at e
  have L:(cs.take at').length=at':=by rw[ZN,O];exact vm<|Zh G
  have q:=congrArg (λx:List Nat=>x[at']?) e
  have g:∀x:Nat,(cs.take at'++[x]++ cs.drop (at'+1))[at']?=some x:=λx=>by
   rw[vk,yh<|jF L,L];simp
  exact d<|Nat.add_left_cancel<|ZT<|(g _).symm.trans<|q.trans<|g _
 rw[Zq w0,Zq w0]at e
 by_cases w1:way=1
 .rw [Zp w1,Zp w1]at e
  exact d<|Nat.add_left_cancel (List.cons.inj e).1
 rw[Zq w1,Zq w1]at e;have J:l<8:=N.elim (λz=>by omega) id;have M:=qb Z J;rw[Nat.mod_eq_of_lt J,Nat.mod_eq_of_lt M]at e
 have q:∀{a b:Nat},cs.take a=cs.take b->a<=8->b<=8->a=b:=λz G R=>by
  have:=congrArg List.length z;rw[ZN,ZN,O,vm G,vm R]at this;exact this
 by_cases w2:way=2
 .rw [Zp w2,Zp w2]at e
  exact Zr (Nat.succ.inj<|q e M J)<|Ze Z
 rw[Zq w2,Zq w2]at e;have:=q e (Nat.sub_le _ _)<|Nat.sub_le _ _;omega
def Qy(J:cs.length=8)(G:at'<8):1<=(wd o cs at' way i k).length/\(wd o cs at' way i k).length<=8:=by
 have t:∀{n:Nat},n<=8->(cs.take n).length=n:=λh=>by rw[ZN,J];exact vm h
 unfold wd
 split
 .rw [ZL,ZL,t<|Zh G,vO,J,yg];omega
 split
 .rw [ZL,t<|Zh<|j7 _<|by decide,yg]
  have:=j7 (3*k+at') (show 8 > 0 by decide);omega
 have Z:=j7 k (show 8 > 0 by decide)
 split
 .rw [t Z];exact⟨Nat.succ_pos _,Z⟩
 .rw [t (Nat.sub_le _ _)];exact⟨Nat.sub_pos_of_lt Z,Nat.sub_le _ _⟩
def Am(Z:∀c∈cs,o<=c/\c<o+26):∀c∈wd o cs at' way i k,o<=c/\c<o+26:=by
 have z:o<=o+(i+5*k) % 26/\o+(i+5*k) % 26<o+26:=by omega
 intro c h;unfold wd at h
 split at h
 .simp only[ZX,ZQ]at h
  rcases h with(h|h)|h
  .exact Z c (Zk h)
  .rw [h];exact z
  .exact Z c (jk h)
 split at h
 .simp only[ZX,ZQ]at h
  rcases h with h|h
  .rw [h];exact z
  .exact Z c (Zk h)
 split at h
 .exact Z c (Zk h)
 .exact Z c (Zk h)
structure Wds(o:Nat)(ys:List Str):Prop where
 nd:ys.Nodup
 len:∀y∈ys,1<=y.length/\y.length<=8
 abc:∀y∈ys,∀c∈y.cps.toList,o<=c/\c<o+26
def Qx(M:cs.length=8)(L:at'<8)(T:way<2/\m<=24\/m<=8)(N:∀c∈cs,o<=c/\c<o+26):Wds o ((List.range m).map λk=>txt<|wd o cs at' way i k):=by
 refine⟨?_,λy Z=>?_,λy Z c J=>?_⟩
 .show List.Pairwise _ _
  rw[jx];refine List.Pairwise.imp_of_mem ?_<|List.pairwise_lt_range (n:=m);intro a b R O G e;exact Al (i:=i) M L (by have:=vL.mp O;omega) G<|OV e
 .obtain ⟨k,_,rfl⟩:=ZW.mp Z
  rw[Rl];exact Qy M L
 .obtain ⟨k,_,rfl⟩:=ZW.mp Z
  exact Am N c<|by simpa[txt]using J
def SameB(p:Addr)(H H':Hp):Prop:=∀b o,b≠p->H b=some o->H' b=some o
def SameB.refl(p:Addr)(H:Hp):SameB p H H:=λ_ _ _ h=>h
def SameB.trans(a:SameB p H J)(b:SameB p J Z):SameB p H Z:=λc o n h=>b c o n<|a c o n h
def But.sb(a:But p H Z):SameB p H Z:=λb o n h=>(a b n).trans h
def Same.sb(a:Same H Z):SameB p H Z:=λb o _ h=>a b o h
def SameB.free(a:SameB p H Z)(n:r≠p)(h:Z r=none):H r=none:=by
 cases e:H r with
 |none=>rfl
 |some o=>rw[a r o n e]at h;cases h
def SameB.put(a:SameB p H Z)(h:H r=none):SameB p H (upd Z r o):=λb u n e=>by
 rw[Yg (Yb e h)];exact a b u n e
def JJ.ne(s:JJ H p)(h:H r=none):r≠p:=λe=>by
 obtain⟨a,b,c,d,q⟩:=s;rw[<-e,h]at q;cases q
def JJ.keep(s:JJ H p)(e:Z p=H p):JJ Z p:=by
 obtain⟨a,b,c,d,q⟩:=s;exact⟨a,b,c,d,e.trans q⟩
def NA(a b:Str):(a++ b).length=a.length+b.length:=by
 show(a.cps++ b.cps).size=a.cps.size+b.cps.size;simp
def Ac(h:cs.length=8)(Z J:kz):(Txt.slice (txt cs) Z J).length<=8:=by
 have q:=Txt.slice_le (txt cs) Z J;rw[Rl,h]at q;exact q
def A9{J Z i k:Nat}(h:Z<4):atI [V.str (txt<|cs.take J++[o+(i+5*k) % 26]++ cs.drop (J+1)),V.str<|txt<|[o+(i+5*k) % 26]++ cs.take ((3*k+J) % 8),V.str<|txt<|cs.take<|k % 8+1,V.str (txt<|cs.take<|8-k % 8)] (Z:Int)=some (V.str<|txt<|wd o cs J Z i k):=by
 match Z,h with
 |0,_|1,_|2,_|3,_=>rfl
end L2
namespace K4
open PySem L2
def J8:Yh ["stream","many","letters","ways","k","base","at","way","words","sign","some"] ["stream","many","letters","ways"] (Yc BV):=Y5
def AB:List.Nodup [("k":Str),"letters","stream"]:=by decide +kernel
section
def W1:Sp:=λL H Q _=>∃(p:Addr)(many:Nat)(o:Nat)(Z:Nat),L=[.ref p,.int many,.str<|alpha o,.int Z]/\JJ H p/\(o=97\/o=65)/\0<Z/\(Z<=2/\many<=24\/Z<=4/\many<=8)/\
 ∀(r:Addr)(G:ky)(J:Hp),SameB p H J->JJ J p->H r=none->r≠p->J r=some (.lst<|G.map V.str)->G.length=many->Wds o G->Q (.ref r) J
def Kg(B:Blt mg)(F:Fun K "_law_words" "_law_words" BV f fd)(G:Yf P w K mg base CX0 n g gd ["stream","many"] Gb)(bG:Binds K gd ["stream","many"] [])(kG:W.keepIn K (.ref g)=true)(mG:mg "_law_take"=some (.ref g)):
  Yf P w K mg base CX0 (n+1) f fd ["stream","many","letters","ways"] W1:=by
 refine F.oq J8 λR6 A R1 s H u Q E hr h=>?_;obtain⟨p,many,o,T,rfl,hs,ho,hw,hm,q⟩:=h;refine⟨_,YY (Yx 5 J8.nd (J1 PySem.F.plainAttrs_str PySem.F.slot_str_join PySem.F.type_str_join Pi Yy (pa1 (JG ["k"] [2,0] (UQ Y B.range (pa1 Ya)) (Vk (i:=0)<|by decide)
   (λcl C fp s H=>Yl 0 AB rfl (Or.inl rfl) (Or.inr rfl)) (λcl C fp s H=>Yo (r:=A7) DX (pv 1) (Jd G hr rfl mG kG bG .nil Y2 (pa2 (pv 2) Ya)) λ_ _=>rfl)))))
  (YY (Yx 6 J8.nd<|Jd G hr rfl mG kG bG .nil Y2 (pa2 (pv 0) Ya))
  (YY (Yx 7 J8.nd<|Jd G hr rfl mG kG bG .nil Y2 (pa2 (pv 0)<|pv 3))
  (YY (Yx 8 J8.nd<|V8 VP)
  (YY (Jb Zv rfl (UQ rfl B.range (pa1<|pv 1)) (Yl 4 J8.nd)
   (YY (Yx 9 J8.nd<|Yo DX (pv 2) (Y9 Jr (Y9 Vn (J1 PySem.F.plainAttrs_str PySem.F.slot_str_index PySem.F.type_str_index LB (pv 2)<|pa1<|Yo DX (pv 5) (pv 6) λ_ _=>rfl)<|Y9 XX Ya<|pv 4) Ya) λ_ _=>rfl)
   (YY (Yx 10 J8.nd<|V8<|pa4 (Y9 XY (Y9 XY (Vz Gh (pv 5) JO<|JN<|pv 6)<|pv 9)<|Vz Gh (pv 5) (JN<|Y9 Vn (pv 6) Ya) JO) (Y9 XY (pv 9)<|Vz Gh (pv 5) JO<|JN<|Y9 Jr (Y9 Vn (Y9 XX Ya<|pv 4)<|pv 6) Ya) (Vz Gh (pv 5) JO<|JN<|Y9 Vn (Y9 Jr (pv 4) Ya) Ya)<|Vz Gh (pv 5) JO<|JN<|Y9 Kc Ya<|Y9 Jr (pv 4) Ya)
   (YZ<|VQ<|J1 Zz Z0 Z1 Vu (pv 8)<|pa1<|Yo VB (pv 10) (pv 7) λ_ _=>rfl))))
  (YZ<|Ym<|pv 8))))),?_⟩
 show let a:=_;let b:=_;let c:=Yk _ b;let d:=Yk _ c;let e:=Yk (XH _ _ d) a;let f:=Yk _ e;let g:=Yk _ f;let h:=Yk _ g;Yk _ h _ _ _
 intros
 have em:((many:Nat):Int).toNat=many:=jt _;refine⟨Y,8,Y,by decide,by decide,?_⟩;refine Vh 8 (Yj<|by decide) (λi u L=>SameB p H L/\JJ L p/\∃Z:List Nat,u=Z.map (λc=>V.str<|one c)/\Z.length=i/\∀c∈Z,o<=c/\c<o+26) ⟨SameB.refl _ _,hs,[],rfl,rfl,λc h=>nomatch h⟩
  (λi u L z=>by obtain⟨_,_,Z,e,l,_⟩:=z;rw[e,ZA,l]) (λi u L X z=>X) (λu L z=>ZG _) ?_ ?_
 .intro i u L x H'' R X z yl hR
  obtain⟨rfl,rfl⟩:=yl;obtain⟨j,O,Z,rfl,zl,zc⟩:=z;refine⟨p,26,Y,O,by decide,by decide,λr H3 r0 r1 b s3=>?_⟩;refine⟨alpha o,r,o+r.toNat,Y,Y,by rw[Wn];decide,N0 o r r0 r1,hR _ _ ⟨j.trans b.sb,s3,Z++[o+r.toNat],by rw[ZK];rfl,by rw[ZL,zl];rfl,λc hc=>?_⟩⟩;rcases ZX.mp hc with h|h
  .exact zc c h
  .rw [ZQ.mp h];omega
 intro u H1 pl z G3;obtain⟨j,O,Z,rfl,M,zc⟩:=z;have R3:pl≠p:=O.ne G3;have e1:Z.map (λc=>V.str<|one c)=(Z.map one).map V.str:=by rw[yj];rfl
 exists _,pl,Z.map one,Y,Y,Z3 (by rw[Ye,e1]),?_
 .obtain ⟨a,b,c,d,e,f,g,i,rfl⟩:=Ed M
  show(8:Nat)+8*0<=16777216
  decide
 rw[Cv M];have s1:JJ (upd H1 pl<|.lst<|Z.map λc=>V.str<|one c) p:=O.keep<|Yg<|Zs R3;have b1:SameB p H (upd H1 pl<|.lst<|Z.map λc=>V.str<|one c):=j.trans (Yq G3 _).sb;generalize upd H1 pl (.lst<|Z.map λc=>V.str<|one c)=H2 at s1 b1;refine⟨p,8,Y,s1,by decide,by decide,λO1 H3 a0 a1 b3 s3=>?_⟩;refine⟨p,T,Y,s3,by omega,by omega,λJ2 H4 w0 w1 b4 s4=>?_⟩;refine⟨sl 0,λy G2=>?_⟩;have b5:SameB p H H4:=(b1.trans b3.sb).trans b4.sb;have N:y≠p:=s4.ne G2;have v:H y=none:=b5.free N G2;obtain⟨at1,rfl⟩:∃n:Nat,O1=n:=⟨O1.toNat,by omega⟩;obtain⟨D,rfl⟩:∃n:Nat,J2=n:=⟨J2.toNat,by omega⟩;have R4:at1<8:=by omega
 obtain⟨c0,M2⟩:∃c0,Z[at1]?=some c0:=⟨Z[at1],ZD<|by omega⟩;obtain⟨J,rest,L1⟩:=K1 ho<|zc c0<|ZJ M2;exists many,Y,by omega,by omega
 let I:kI:=λi U L=>SameB p H L/\JJ L p/\L y=some (.lst<|((List.range i).map λk=>txt<|wd o Z at1 D J k).map V.str)/\
  ∃j O z3,U=[some (.ref p),some<|.int many,some<|.str<|alpha o,some<|.int T,j,some<|.str<|txt Z,some<|.int at1,some<|.int D,some<|.ref y,O,z3]
 refine Tb (n:=((many:Nat):Int).toNat) I ?_ ?_ ?_
 .exact ⟨b5.put v,s4.keep<|Yg<|Zs N,Ye,_,_,_,rfl⟩
 .rintro BB RR i U L X ⟨y1,y2,y3,j,O,z3,rfl⟩
  rw[em]at X;have tl:(txt Z).length<=sizeLine:=by rw[Rl,M];decide
  have e0:((J:Int)+5*(0+(i:Int))) % 26=(((J+5*i) % 26:Nat):Int):=by rw[show(J:Int)+5*(0+(i:Int))=((J+5*i:Nat):Int) by omega];rfl
  have S:(0:Int)<=((J:Int)+5*(0+(i:Int))) % 26/\((J:Int)+5*(0+(i:Int))) % 26<26:=by rw[e0];exact⟨Int.natCast_nonneg _,Int.ofNat_lt.mpr<|j7 _<|by decide⟩
  have R5:(((J:Int)+5*(0+(i:Int))) % 26).toNat=(J+5*i) % 26:=by rw[e0];rfl
  refine⟨Y,txt Z,at1,c0,Y,Y,tl,VG<|by simpa[txt]using M2,_,_,J,rest,rfl,rfl,L1,.inl ⟨by decide,by decide⟩,(by show(0:Int)<_;decide),?_⟩;exists alpha o,_,_,Y,Y,by rw[Wn];decide,N0 o _ S.1 S.2;rw[R5];have sg:(⟨#[o+(J+5*i) % 26]⟩:Str)=txt [o+(J+5*i) % 26]:=rfl;rw[sg]
  have eA:Txt.slice (txt Z) none (some (at1:Int))++ txt [o+(J+5*i) % 26]++ Txt.slice (txt Z) (some<|(at1:Int)+1) none=txt (Z.take at1++[o+(J+5*i) % 26]++ Z.drop (at1+1)):=by
   have z:((at1:Int)+1)=((at1+1:Nat):Int):=by omega
   rw[z,Mq M at1<|by omega,L5 M (at1+1)<|by omega,Rm,Rm]
  have eB:txt [o+(J+5*i) % 26]++ Txt.slice (txt Z) none (some<|(3*(0+(i:Int))+(at1:Int)) % 8)=txt ([o+(J+5*i) % 26]++ Z.take ((3*i+at1) % 8)):=by
   have z:(3*(0+(i:Int))+(at1:Int)) % 8=(((3*i+at1) % 8:Nat):Int):=by rw[show 3*(0+(i:Int))+(at1:Int)=((3*i+at1:Nat):Int) by omega];rfl
   rw[z,Mq M _<|Zh<|j7 _<|by decide,Rm]
  have eC:Txt.slice (txt Z) none (some<|(0+(i:Int)) % 8+1)=txt (Z.take<|i % 8+1):=by
   have z:(0+(i:Int)) % 8+1=((i % 8+1:Nat):Int):=by rw[Int.zero_add];rfl
   rw[z,Mq M _ (by omega)]
  have eD:Txt.slice (txt Z) none (some<|8-(0+(i:Int)) % 8)=txt (Z.take<|8-i % 8):=by
   have z:8-(0+(i:Int)) % 8=((8-i % 8:Nat):Int):=by omega
   rw[z,Mq M _ (by omega)]
  have small:∀m:Nat,m<=100->m<=sizeLine:=λm h=>Zh (Yj<|by omega);have k1:∀lo X,(Txt.slice (txt Z) lo X).length<=8:=λlo X=>Ac M lo X;have x1:(txt [o+(J+5*i) % 26]).length=1:=rfl;refine⟨_,Y,txt Z,Y,tl,_,_,Y,Y,small _ (by have:=k1 none<|some (at1:Int);omega),_,Y,txt Z,Y,tl,_,_,Y,Y,small _ (by have:=k1 none<|some (at1:Int);have:=k1 (some<|(at1:Int)+1) none;rw[NA];omega),?_⟩;refine⟨.inl ⟨by decide,by decide⟩,(by show(0:Int)<_;decide),_,Y,txt Z,Y,tl,_,_,Y,Y,small _ (by have:=k1 none<|some<|(3*(0+(i:Int))+(at1:Int)) % 8;omega),?_⟩;exists (by show(0:Int)<_;decide),_,Y,txt Z,Y,tl;refine⟨(by show(0:Int)<_;decide),_,Y,txt Z,Y,tl,sl 4,λt ht=>?_⟩;rw[eA,eB,eC,eD];have nt:t≠p:=y2.ne ht;have G1:y≠t:=Yb y3 ht;exists .inl ⟨Y,_,Z3<|(Yg G1).trans y3⟩,_,_,Z3 Ye,A9<|by omega,y,_,_,rfl,rfl,(Yg G1).trans y3,?_
  .rw [ZA,ZA,qd]
   exact Yj<|by omega
  .have ft:H t=none:=y1.free nt ht
   refine⟨(y1.put ft).put v,y2.keep<|(Yg<|Zs N).trans<|Yg<|Zs nt,?_,_,_,_,rfl⟩;rw[Ye,<-Gx,ZK]
   rfl
 .rintro U L ⟨y1,y2,y3,j,O,z3,rfl⟩
  rw[em]at y3;refine q y _ L y1 y2 v N y3 (by simp)<|Qx M R4 ?_ zc;omega
end
end K4
namespace L2
open PySem PySem.Spec PyProof.Rows SeqAt
mutual
def Dat.pq:Dat->Dat->Bool
 |.non,.non=>true
 |.bl a,.bl b=>a==b
 |.bl a,.int b=>(if a then 1 else 0)==b
 |.int a,.bl b=>a==(if b then 1 else 0)
 |.int a,.int b=>a==b
 |.str a,.str b=>a==b
 |.tup a,.tup b=>Dat.pqs a b
 |.lst a,.lst b=>Dat.pqs a b
 |_,_=>false
def Dat.pqs:List Dat->List Dat->Bool
 |[],[]=>true
 |a::as,b::bs=>Dat.pq a b && Dat.pqs as bs
 |_,_=>false
end
mutual
theorem Dat.pq_self:∀a:Dat,a.pq a=true
 |.non=>by unfold Dat.pq;rfl
 |.bl b=>by unfold Dat.pq;exact beq_self_eq_true b
 |.int i=>by unfold Dat.pq;exact beq_self_eq_true i
 |.str x=>by unfold Dat.pq;exact beq_self_eq_true x
 |.tup ds=>by unfold Dat.pq;exact Dat.pqs_self ds
 |.lst ds=>by unfold Dat.pq;exact Dat.pqs_self ds
theorem Dat.pqs_self:∀a:kM,Dat.pqs a a=true
 |[]=>by unfold Dat.pqs;rfl
 |a::as=>by unfold Dat.pqs;rw[Dat.pq_self a,Dat.pqs_self as];rfl
end
theorem W7:∀(J Z:kM),((List.range<|min J.length Z.length).all (λi=>((J[i]?).getD .non).pq<|(Z[i]?).getD .non) && J.length==Z.length)=Dat.pqs J Z
 |[],[]=>by unfold Dat.pqs;rfl
 |[],_::_=>by unfold Dat.pqs;simp
 |_::_,[]=>by unfold Dat.pqs;simp
 |a::J,b::Z=>by
  have ih:=W7 J Z;have e:min (a::J).length (b::Z).length=min J.length Z.length+1:=by simp only[Zf];omega
  rw[e,jH,jZ,List.all_map];unfold Dat.pqs;rw[<-ih];have G:((a::J).length==(b::Z).length)=(J.length==Z.length):=by simp
  rw[G,Bool.and_assoc]
  rfl
def O0(h:Z.length=J.length):(List.range Z.length).all (λi=>((Z[i]?).getD .non).pq<|(J[i]?).getD .non)=Dat.pqs Z J:=by
 rw[<-W7 Z J,h];simp
def Sd(h:J.length≠Z.length):Dat.pqs J Z=false:=by
 rw[<-W7 J Z];simp[h]
def UZ{s:Shared}(G:HOk P w H s.heap)(h:H a=some (.tup J)):∃Z:kq,Vals J Z/\s.heap.IsTuple a Z.toArray:=by
 obtain⟨_,Z,r,p⟩:=(show VL P w H s.heap a (.tup J)from G a _ h);exact⟨Z,r,p.is⟩
def Ud{s:Shared}(G:HOk P w H s.heap)(h:H a=some (.lst J)):∃Z:kq,Vals J Z/\s.heap.IsList a Z.toArray:=by
 obtain⟨_,Z,n,r,p⟩:=(show VL P w H s.heap a (.lst J)from G a _ h);exact⟨Z,r,_,p,Y,n,Y⟩
structure Cmp(A:Around)(s:Shared)(u v:Value)(b:Bool):Prop where
 eq:EqAt A s u v b
 rc:RcAt A s u v b
 ne:RcNeAt A s u v (!b)
def Em{A:Around}{F q:kM}{L G:kH}{J Z:kq}(ih:∀(I t:Dat){x y:V}{u v:Value},I.dep<=m->Has H x I->Has H y t->RelV x u->RelV y v->EqAt A s u v (I.pq t))(e:Dat.deps F<=m)(R:HasL H L F)(O:HasL H G q)(r:Vals L J)(S:Vals G Z):∀j (Q:j<J.toArray.size) (P:j<Z.toArray.size),EqAt A s J.toArray[j] Z.toArray[j] ((λi=>((F[i]?).getD .non).pq<|(q[i]?).getD .non) j):=by
 intro j Q P;have b:=r.length;have l:=S.length;rw[ZO]at Q P;have C:j<L.length:=by omega
 have U:j<G.length:=by omega
 obtain⟨d,X,f⟩:=R.get<|ZD C;obtain⟨w,E,D⟩:=O.get<|ZD U;obtain⟨k,B,N⟩:=r.get<|ZD C;obtain⟨g,T,M⟩:=S.get<|ZD U;have c:J.toArray[j]=k:=by have z:=(ZF.mp B).2;simpa using z
 have p:Z.toArray[j]=g:=by have z:=(ZF.mp T).2;simpa using z
 dsimp only;rw[c,p,X,E];have c1:=Dat.deps_get X;exact ih d w (by omega) f D N M
def Nu(U:HOk P w H s.heap)(n:Nat)(ih:∀m,n=m+1->∀(C S:Dat)(A:Around){x y:V}{u v:Value},C.dep<=m->Has H x C->Has H y S->RelV x u->RelV y v->Vo (m+1) A->Cmp A s u v (C.pq S))(C S:Dat)(A:Around){x y:V}{u v:Value}(hn:C.dep<=n)(B:Has H x C)(Z:Has H y S)(j:RelV x u)(L:RelV y v)(i:Vo (n+1) A):Cmp A s u v (C.pq S):=by
 have G:=i.units0
 cases C with
 |non=>
  unfold Has at B;subst B;cases j
  cases S with
  |non=>unfold Has at Z;subst Z;cases L;unfold Dat.pq;exact⟨.same _,.none_none,.none_none⟩
  |bl b=>unfold Has at Z;subst Z;cases L;unfold Dat.pq;exact⟨.none_bool _,.none_bool _,.none_bool _⟩
  |int b=>unfold Has at Z;subst Z;obtain⟨Q,rfl⟩:=L;unfold Dat.pq;exact⟨.none_int _ _,.none_int _ _,.none_int _ _⟩
  |str b=>unfold Has at Z;subst Z;obtain⟨Q,rfl⟩:=L;unfold Dat.pq;exact⟨.none_str _ _,.none_str _ _,.none_str _ _⟩
  |tup O=>unfold Has at Z;obtain⟨p,X,rfl,R,_⟩:=Z;cases L;obtain⟨N,r,J⟩:=UZ U R;unfold Dat.pq;exact⟨.none_tuple J G,.none_tuple J G,.none_tuple J G⟩
  |lst O=>unfold Has at Z;obtain⟨p,X,rfl,R,_⟩:=Z;cases L;obtain⟨N,r,J⟩:=Ud U R;unfold Dat.pq;exact⟨.none_list J G,.none_list J G,.none_list J G⟩
 |bl a=>
  unfold Has at B;subst B;cases j
  cases S with
  |non=>unfold Has at Z;subst Z;cases L;unfold Dat.pq;exact⟨.bool_none _,.bool_none _,.bool_none _⟩
  |bl b=>unfold Has at Z;subst Z;cases L;unfold Dat.pq;exact⟨.bool_bool _ _,.bool_bool _ _,.bool_bool _ _⟩
  |int b=>unfold Has at Z;subst Z;obtain⟨Q,rfl⟩:=L;unfold Dat.pq;exact⟨.bool_int _ _ _,.bool_int _ _ _,.bool_int _ _ _⟩
  |str b=>unfold Has at Z;subst Z;obtain⟨Q,rfl⟩:=L;unfold Dat.pq;exact⟨.bool_str _ _ _,.bool_str _ _ _,.bool_str _ _ _⟩
  |tup O=>unfold Has at Z;obtain⟨p,X,rfl,R,_⟩:=Z;cases L;obtain⟨N,r,J⟩:=UZ U R;unfold Dat.pq;exact⟨.bool_tuple _ J G,.bool_tuple _ J G,.bool_tuple _ J G⟩
  |lst O=>unfold Has at Z;obtain⟨p,X,rfl,R,_⟩:=Z;cases L;obtain⟨N,r,J⟩:=Ud U R;unfold Dat.pq;exact⟨.bool_list _ J G,.bool_list _ J G,.bool_list _ J G⟩
 |int a=>
  unfold Has at B;subst B;obtain⟨t,rfl⟩:=j
  cases S with
  |non=>unfold Has at Z;subst Z;cases L;unfold Dat.pq;exact⟨.int_none _ _,.int_none _ _,.int_none _ _⟩
  |bl b=>unfold Has at Z;subst Z;cases L;unfold Dat.pq;exact⟨.int_bool _ _ _,.int_bool _ _ _,.int_bool _ _ _⟩
  |int b=>unfold Has at Z;subst Z;obtain⟨Q,rfl⟩:=L;unfold Dat.pq;exact⟨.int_int _ _ _ _,.int_int _ _ _ _,.int_int _ _ _ _⟩
  |str b=>unfold Has at Z;subst Z;obtain⟨Q,rfl⟩:=L;unfold Dat.pq;exact⟨.int_str _ _ _ _,.int_str _ _ _ _,.int_str _ _ _ _⟩
  |tup O=>unfold Has at Z;obtain⟨p,X,rfl,R,_⟩:=Z;cases L;obtain⟨N,r,J⟩:=UZ U R;unfold Dat.pq;exact⟨.int_tuple _ _ J G,.int_tuple _ _ J G,.int_tuple _ _ J G⟩
  |lst O=>unfold Has at Z;obtain⟨p,X,rfl,R,_⟩:=Z;cases L;obtain⟨N,r,J⟩:=Ud U R;unfold Dat.pq;exact⟨.int_list _ _ J G,.int_list _ _ J G,.int_list _ _ J G⟩
 |str a=>
  unfold Has at B;subst B;obtain⟨t,rfl⟩:=j
  cases S with
  |non=>unfold Has at Z;subst Z;cases L;unfold Dat.pq;exact⟨.str_none _ _,.str_none _ _,.str_none _ _⟩
  |bl b=>unfold Has at Z;subst Z;cases L;unfold Dat.pq;exact⟨.str_bool _ _ _,.str_bool _ _ _,.str_bool _ _ _⟩
  |int b=>unfold Has at Z;subst Z;obtain⟨Q,rfl⟩:=L;unfold Dat.pq;exact⟨.str_int _ _ _ _,.str_int _ _ _ _,.str_int _ _ _ _⟩
  |str b=>unfold Has at Z;subst Z;obtain⟨Q,rfl⟩:=L;unfold Dat.pq;exact⟨.str_str _ _ _ _,.str_str _ _ _ _,.str_str _ _ _ _⟩
  |tup O=>unfold Has at Z;obtain⟨p,X,rfl,R,_⟩:=Z;cases L;obtain⟨N,r,J⟩:=UZ U R;unfold Dat.pq;exact⟨.str_tuple _ _ J G,.str_tuple _ _ J G,.str_tuple _ _ J G⟩
  |lst O=>unfold Has at Z;obtain⟨p,X,rfl,R,_⟩:=Z;cases L;obtain⟨N,r,J⟩:=Ud U R;unfold Dat.pq;exact⟨.str_list _ _ J G,.str_list _ _ J G,.str_list _ _ J G⟩
 |tup D=>
  unfold Has at B;obtain⟨p,xs,rfl,R,F⟩:=B;cases j;obtain⟨N,r,J⟩:=UZ U R
  cases S with
  |non=>unfold Has at Z;subst Z;cases L;unfold Dat.pq;exact⟨.tuple_none J G,.tuple_none J G,.tuple_none J G⟩
  |bl b=>unfold Has at Z;subst Z;cases L;unfold Dat.pq;exact⟨.tuple_bool _ J G,.tuple_bool _ J G,.tuple_bool _ J G⟩
  |int b=>unfold Has at Z;subst Z;obtain⟨Q,rfl⟩:=L;unfold Dat.pq;exact⟨.tuple_int _ _ J G,.tuple_int _ _ J G,.tuple_int _ _ J G⟩
  |str b=>unfold Has at Z;subst Z;obtain⟨Q,rfl⟩:=L;unfold Dat.pq;exact⟨.tuple_str _ _ J G,.tuple_str _ _ J G,.tuple_str _ _ J G⟩
  |lst O=>unfold Has at Z;obtain⟨q,X,rfl,h,_⟩:=Z;cases L;obtain⟨T,g,M⟩:=Ud U h;unfold Dat.pq;exact⟨.tuple_list J M G,.tuple_list J M G,.tuple_list J M G⟩
  |tup O=>
   unfold Has at Z;obtain⟨c,X,rfl,I,E⟩:=Z;cases L;obtain⟨T,g,M⟩:=UZ U I;have l1:=F.length;have l2:=E.length;have l3:=r.length;have l4:=g.length;have dd:Dat.deps D+1<=n:=by unfold Dat.dep at hn;omega
   obtain⟨m,rfl⟩:∃m,n=m+1:=⟨n-1,by omega⟩;have d:=Em (A:=A.in1) (λC S {x y u v} z B Z j L=>(ih m rfl C S A.in1 z B Z j L i.in1).eq) (show Dat.deps D<=m by omega) F E r g;have f:N.toArray.size=D.length:=by rw[ZO];omega
   have o:T.toArray.size=O.length:=by rw[ZO];omega
   have q:=RcAt.tuples (A:=A) J M G d;have k:=RcNeAt.tuples (A:=A) J M G d;rw[f,o,W7]at q k;have e0:(Dat.tup D).pq (Dat.tup O)=Dat.pqs D O:=by conv=>lhs;unfold Dat.pq
   rw[e0];refine⟨?_,q,k⟩
   by_cases e:p=c
   .subst e
    rw[R]at I;cases I;rw[HasL.inj D O F E,Dat.pqs_self];exact EqAt.same _
   .exact EqAt.of_refs e q
 |lst D=>
  unfold Has at B;obtain⟨p,xs,rfl,R,F⟩:=B;cases j;obtain⟨N,r,J⟩:=Ud U R
  cases S with
  |non=>unfold Has at Z;subst Z;cases L;unfold Dat.pq;exact⟨.list_none J G,.list_none J G,.list_none J G⟩
  |bl b=>unfold Has at Z;subst Z;cases L;unfold Dat.pq;exact⟨.list_bool _ J G,.list_bool _ J G,.list_bool _ J G⟩
  |int b=>unfold Has at Z;subst Z;obtain⟨Q,rfl⟩:=L;unfold Dat.pq;exact⟨.list_int _ _ J G,.list_int _ _ J G,.list_int _ _ J G⟩
  |str b=>unfold Has at Z;subst Z;obtain⟨Q,rfl⟩:=L;unfold Dat.pq;exact⟨.list_str _ _ J G,.list_str _ _ J G,.list_str _ _ J G⟩
  |tup O=>unfold Has at Z;obtain⟨q,X,rfl,h,_⟩:=Z;cases L;obtain⟨T,g,M⟩:=UZ U h;unfold Dat.pq;exact⟨.list_tuple J M G,.list_tuple J M G,.list_tuple J M G⟩
  |lst O=>
   unfold Has at Z;obtain⟨c,X,rfl,I,E⟩:=Z;cases L;obtain⟨T,g,M⟩:=Ud U I;have l1:=F.length;have l2:=E.length;have l3:=r.length;have l4:=g.length;have dd:Dat.deps D+1<=n:=by unfold Dat.dep at hn;omega
   obtain⟨m,rfl⟩:∃m,n=m+1:=⟨n-1,by omega⟩;have d:=Em (A:=A.in1) (λC S {x y u v} z B Z j L=>(ih m rfl C S A.in1 z B Z j L i.in1).eq) (show Dat.deps D<=m by omega) F E r g;have f:N.toArray.size=D.length:=by rw[ZO];omega
   have o:T.toArray.size=O.length:=by rw[ZO];omega
   have e0:(Dat.lst D).pq (Dat.lst O)=Dat.pqs D O:=by conv=>lhs;unfold Dat.pq
   rw[e0]
   have l:RcAt A s (.ref p) (.ref c) (Dat.pqs D O)/\RcNeAt A s (.ref p) (.ref c) (!Dat.pqs D O):=by
    by_cases e:D.length=O.length
    .have q:=RcAt.lists (A:=A) J M (by omega) G d
     have k:=RcNeAt.lists (A:=A) J M (by omega) G d;rw[f,O0 e]at q k;exact⟨q,k⟩
    .have z:(N.toArray.size !=T.toArray.size)=true:=by rw[f,o];simp[e]
     rw[Sd e];exact⟨RcAt.lists_lengths (A:=A) J M z G,RcNeAt.lists_lengths (A:=A) J M z G⟩
   refine⟨?_,l.1,l.2⟩
   by_cases e:p=c
   .subst e
    rw[R]at I;cases I;rw[HasL.inj D O F E,Dat.pqs_self];exact EqAt.same _
   .exact EqAt.of_refs e l.1
theorem Mr(G:HOk P w H s.heap):∀(n:Nat)(Z J:Dat)(A:Around){x y:V}{u v:Value},Z.dep<=n->Has H x Z->Has H y J->RelV x u->RelV y v->Vo (n+1) A->Cmp A s u v (Z.pq J)
 |0,Z,J,A,_,_,_,_,hn,hx,hy,ru,rv,hr=>Nu G 0 (λ_ e=>nomatch e) Z J A hn hx hy ru rv hr
 |n+1,Z,J,A,_,_,_,_,hn,hx,hy,ru,rv,hr=>Nu G (n+1) (λ_ e Z J A {_ _ _ _}=>by cases e;exact Mr G n Z J A) Z J A hn hx hy ru rv hr
section
def yC(k:Nat):R2:=λx y H Q=>∃d e,Has H x d/\Has H y e/\d.dep<=k/\Q (.bl<|d.pq e) H
def yA(k:Nat):R2:=λx y H Q=>∃d e,Has H x d/\Has H y e/\d.dep<=k/\Q (.bl<|!d.pq e) H
def Sl(L:Vo (k+1) X.A):OpR X (compareOp .Eq) (yC k):=by
 intro Z s U H x y v u Q I G J h;obtain⟨d,e,O,N,M,q⟩:=h;exact(Mr I.hok k d e X.A M O N G J L).rc _ _ _ _ ⟨.bl _,H,I,rfl,q⟩
def G6(L:Vo (k+1) X.A):OpR X (compareOp .NotEq) (yA k):=by
 intro Z s U H x y v u Q I G J h;obtain⟨d,e,O,N,M,q⟩:=h;exact(Mr I.hok k d e X.A M O N G J L).ne _ _ _ _ ⟨.bl _,H,I,rfl,q⟩
end
end L2
namespace L2
open PySem PySem.Spec PyProof.Rows
mutual
def Dat.st:Dat->Bool
 |.str _=>true
 |.tup ds=>Dat.sts ds
 |_=>false
def Dat.sts:List Dat->Bool
 |[]=>true
 |d::ds=>d.st && Dat.sts ds
end
end L2
namespace L2
open PySem
inductive Shp where
 |tags (ts:List Str)
 |pair (a b:Str)
abbrev kO:=List (Str×Shp)
def Shp.dat:Shp->Dat
 |.tags ts=>.tup [.str "tags",.tup (ts.map Dat.str)]
 |.pair a b=>.tup [.str "pair",.str a,.str b]
theorem M8:∀Z:ky,Dat.sts (Z.map Dat.str)=true
 |[]=>by unfold Dat.sts;rfl
 |t::Z=>by rw[ZV];unfold Dat.sts;rw[M8 Z];unfold Dat.st;rfl
theorem Shp.st:∀s:Shp,s.dat.st=true
 |.tags ts=>by simp[Shp.dat,Dat.st,Dat.sts,M8]
 |.pair a b=>by simp[Shp.dat,Dat.st,Dat.sts]
def M0(s:JJ H p)(h:H a=some (.tup Z)):a≠p:=λe=>by
 obtain⟨_,_,_,_,q⟩:=s;rw[<-e,h]at q;cases q
end L2
namespace K4
open PySem L2
def Og:Yh ["stream","many"] ["stream","many"] (Yc BX):=Y5
def RC:(Str.ofString "abcdefghijklmnopqrstuvwxyz")=alpha 97:=by decide +kernel
def RQ:(Str.ofString "ABCDEFGHIJKLMNOPQRSTUVWXYZ")=alpha 65:=by decide +kernel
section
variable{K:W.Frag}
def Ru:Sp:=λG H Q _=>∃(p:Addr)(many:Nat),G=[.ref p,.int many]/\JJ H p/\many<=8/\
 ∀(r:Addr)(J:ky)(Z:Hp),SameB p H Z->JJ Z p->H r=none->r≠p->Z r=some (.lst<|J.map V.str)->J.length=many->Wds 97 J->Q (.ref r) Z
def Kk(F:Fun K "_law_small" "_law_small" BX f B)(G:Yf P w K J base CX0 n g T ["stream","many","letters","ways"] W1)(I:Binds K T ["stream","many","letters","ways"] [])(M:W.keepIn K (.ref g)=true)(L:J "_law_words"=some (.ref g)):
  Yf P w K J base CX0 (n+1) f B ["stream","many"] Ru:=by
 refine F.oq Og λD A Z s H S Q E O h=>?_;obtain⟨p,many,rfl,N,R,q⟩:=h;exists _,YZ<|Ym<|Jd G O rfl L M I .nil Y2 (pa4 (pv 0) (pv 1) Yy Ya);refine⟨p,many,97,4,?_,N,.inl Y,by decide,.inr ⟨by decide,R⟩,q⟩;rw[<-RC];rfl
end
end K4
namespace L2
open PySem
def TK(H H':Hp):Prop:=∀b Z,H b=some (.tup Z)->H' b=some (.tup Z)
def N9(h:H a=some u)(J:∀Z,u≠.tup Z):TK H (upd H a o):=λb Z e=>by
 rw[Yg (JW e h λz=>J Z z.symm)];exact e
mutual
theorem DZ{H Z:Hp}(b:TK H Z):∀(d:Dat){v:V},d.st=true->Has H v d->Has Z v d
 |.str _,_,_,h=>by unfold Has at h |-;exact h
 |.tup ds,_,t,h=>by
  unfold Has at h |-;obtain⟨a,J,M,L,G⟩:=h;unfold Dat.st at t;exact⟨a,J,M,b _ _ L,GO b ds t G⟩
 |.non,_,t,_=>by unfold Dat.st at t;cases t
 |.bl _,_,t,_=>by unfold Dat.st at t;cases t
 |.int _,_,t,_=>by unfold Dat.st at t;cases t
 |.lst _,_,t,_=>by unfold Dat.st at t;cases t
theorem GO{H L:Hp}(b:TK H L):∀(Z:kM){J:kH},Dat.sts Z=true->HasL H J Z->HasL L J Z
 |[],[],_,h=>Z6
 |[],_::_,_,h=>by unfold HasL at h;exact h.elim
 |_::_,[],_,h=>by unfold HasL at h;exact h.elim
 |d::Z,x::J,t,h=>by
  unfold HasL at h;unfold Dat.sts at t;have G:=vw.mp t;exact Z4 (DZ b d G.1 h.1)<|GO b Z G.2 h.2
end
def NZ(k:Str×Shp):Dat:=.tup [.str k.1,k.2.dat]
def KK1(top:Nat)(c d:kP)(ahead:ky)(y:Str):Shp->Prop
 |.tags ts=>1<=ts.length/\ts.length<=4/\c y=1+ts.length/\d y=0/\ts.Nodup
 |.pair a b=>a∈ahead/\b∈ahead/\c y=1+c a*c b/\c y<=top/\d y=1+max (d a) (d b)/\d y<=2
def KK(top:Nat)(c d:kP)(ks:kO):Prop:=∀(i:Nat)(y:Str)(s:Shp),ks[i]?=some (y,s)->KK1 top c d ((ks.take i).map (·.1)) y s
structure KG(ks:List (Str×Shp)):Prop where
 nm:Wds 97 (ks.map (·.1))
 tg:∃tgs,Wds 65 tgs/\∀(i':Nat)(y:Str)(ts:List Str),ks[i']?=some (y,.tags ts)->∃r,r<4/\ts=(tgs.drop (4*i')).take (1+r)
 pr:∀(i1 i2:Nat)(y1 y2 a b:Str),ks[i1]?=some (y1,.pair a b)->ks[i2]?=some (y2,.pair a b)->i1=i2
def KG.tags(g:KG M)(h:(y,Shp.tags L)∈M):Wds 65 L:=by
 obtain⟨Z,w,q⟩:=g.tg;obtain⟨i,N,e⟩:=vi.mp h;obtain⟨r,_,rfl⟩:=q i y L (by rw[ZD N,e]);have J:∀z,z∈(Z.drop<|4*i).take (1+r)->z∈Z:=λz G=>jk<|Zk G;exact⟨w.nd.sublist<|(vv _ _).trans<|List.drop_sublist _ _,λz G=>w.len z<|J z G,λz G=>w.abc z<|J z G⟩
def take_snoc{α:Type}{l:List α}{a:α}(h:l[i]?=some a):l.take (i+1)=l.take i++[a]:=by
 have Z:=(ZF.mp h).1;rw[List.take_succ_eq_append_getElem Z,(ZF.mp h).2]
def Et(h:u D (U.set k<|some v) H):Yk (E5 (tC v)<|Vl k) u D U H:=h
def Np(Z:kH)(k:Nat)(h:k<=Z.length):Uq Z none (some (k:Int))=Z.take k:=by
 unfold Uq;rw[HT.sIx_none,HT.sIx_nat,List.drop_zero,Nat.sub_zero,vm h]
def Lb(h:Has H x (NZ (y,s))):∃a v,x=.ref a/\H a=some (.tup [.str y,v])/\Has H v s.dat:=by
 unfold NZ Has at h;obtain⟨a,M,rfl,N,Z⟩:=h
 match M,Z with
 |[u,v],Z=>
  unfold HasL at Z;obtain⟨L,J⟩:=Z;unfold HasL at J;unfold Has at L;subst L;exact⟨a,v,Y,N,J.1⟩
 |[],Z=>unfold HasL at Z;exact Z.elim
 |[x],Z=>unfold HasL at Z;obtain⟨_,J⟩:=Z;unfold HasL at J;exact J.elim
 |_::_::_::_,Z=>unfold HasL at Z;obtain⟨_,J⟩:=Z;unfold HasL at J;obtain⟨_,G⟩:=J;unfold HasL at G;exact G.elim
def Jw(Z:kJ)(L:∀J G,Z J G->u D J G)(main:∀N:kJ,(∀J G,Z J G->N J G)->t {D with nx:=N} U H):Yk t u D U H:=main _ L
end L2
namespace K4
open PySem L2
end K4
namespace L2
open PySem
def Va(ks:kO)(y:Str):Option Shp:=(ks.find? λk=>decide<|k.1=y).map (·.2)
def Y3(ks:kO):Nat->Str->List W
 |0,_=>[]
 |n+1,y=>match Va ks y with
  |none=>[]
  |some (.tags ts)=>.non::ts.map W.tag
  |some (.pair a b)=>.non::(Y3 ks n a).flatMap λu=>(Y3 ks n b).map λv=>.pair u v
def Xh(h:Va Z y=some s):(y,s)∈Z:=by
 unfold Va at h
 cases e:Z.find? λk=>decide (k.1=y)with
 |none=>rw[e]at h;cases h
 |some k=>
  rw[e]at h;have J:k.2=s:=ZT h;have q:=List.find?_some e;have m:=yp e;have z:k.1=y:=Zt q;rw[<-J,<-z];exact m
def JM(h:y∈Z.map (·.1)):∃s,Va Z y=some s:=by
 obtain⟨k,J,rfl⟩:=ZW.mp h;unfold Va
 cases e:Z.find? λz=>decide (z.1=k.1)with
 |none=>
  have q:=jr.mp e k J;simp at q
 |some z=>exact⟨z.2,Y⟩
def KK.at(h:KK top c d J)(e:Va J y=some s):KK1 top c d (J.map (·.1)) y s:=by
 obtain⟨i,M,N⟩:=vi.mp<|Xh e;have q:=h i y s<|by rw[ZD M,N]
 have Z:∀z,z∈(J.take i).map (·.1)->z∈J.map (·.1):=λz G=>by
  obtain⟨k,L,rfl⟩:=ZW.mp G;exact ZW.mpr ⟨k,Zk L,Y⟩
 cases s with
 |tags O=>exact q
 |pair a b=>exact⟨Z a q.1,Z b q.2.1,q.2.2⟩
theorem Nk{α:Type}(f:α->List W)(k:Nat):∀(l:List α),(∀a∈l,(f a).length=k)->(l.flatMap f).length=l.length*k
 |[],_=>by simp
 |a::l,h=>by
  rw[qe,ZL,h a (by simp),Nk f k l λb Z=>h b (by simp[Z]),Zf,vP,qa]
theorem UL(h:KK top c d J):∀(n:Nat)(y:Str),y∈J.map (·.1)->d y<n->(Y3 J n y).length=c y/\0<c y/\∀u∈Y3 J n y,u.dep<=d y
 |0,y,_,hd=>Zr hd<|Zw _
 |n+1,y,hy,hd=>by
  obtain⟨s,N⟩:=JM hy;have M:=h.at N;unfold Y3;rw[N]
  cases s with
  |tags L=>
   obtain⟨R,O,U,S,_⟩:=M;refine⟨?_,by omega,λu G=>?_⟩
   .show (W.non::L.map W.tag).length=c y
    rw[Zf,ZA];omega
   .have Z:u=.non\/u∈L.map W.tag:=Zd.mp G
    rcases Z with rfl|Z
    .exact Zc _
    .obtain ⟨x,_,rfl⟩:=ZW.mp Z
     exact Zc _
  |pair a b=>
   obtain⟨R,O,U,S,q,j⟩:=M;have E:=vq (d a)<|d b;have D:=vo (d a)<|d b;obtain⟨A,Q,X⟩:=UL h n a R (by omega);obtain⟨F,P,C⟩:=UL h n b O (by omega);refine⟨?_,by omega,λu G=>?_⟩
   .show (W.non::(Y3 J n a).flatMap λu=>(Y3 J n b).map λv=>.pair u v).length=c y
    rw[Zf,Nk _ (c b) _ (λa _=>by rw[ZA,F]),A];omega
   .have Z:u=.non\/u∈(Y3 J n a).flatMap λu=>(Y3 J n b).map λv=>.pair u v:=Zd.mp G
    rcases Z with rfl|Z
    .exact Zc _
    .obtain ⟨x,hx,hu2⟩:=List.mem_flatMap.mp Z
     obtain⟨z,I,rfl⟩:=ZW.mp hu2;have B:=X x hx;have T:=C z I;show 1+max x.dep z.dep<=d y;have:=Nat.max_le.mpr ⟨Zb B E,Zb T D⟩;omega
theorem J7(h:KK top c d Z):∀(n m:Nat)(y:Str),y∈Z.map (·.1)->d y<n->d y<m->Y3 Z n y=Y3 Z m y
 |0,_,_,_,h1,_=>Zr h1<|Zw _
 |_+1,0,_,_,_,h2=>Zr h2<|Zw _
 |n+1,m+1,y,hy,h1,h2=>by
  obtain⟨s,J⟩:=JM hy;have M:=h.at J;unfold Y3;rw[J]
  cases s with
  |tags N=>rfl
  |pair a b=>
   obtain⟨L,G,B,T,R,O⟩:=M;have E:=vq (d a)<|d b;have D:=vo (d a)<|d b;show(W.non::_)=(W.non::_);rw[J7 h n m a L (by omega) (by omega),J7 h n m b G (by omega) (by omega)]
theorem X9:∀{J:ky}{Z:kH},HasL H Z (J.map Dat.str)->Z=J.map V.str
 |[],[],_=>rfl
 |[],_::_,h=>by rw[vG]at h;unfold HasL at h;exact h.elim
 |_::_,[],h=>by rw[ZV]at h;unfold HasL at h;exact h.elim
 |t::J,z::Z,h=>by
  rw[ZV]at h;unfold HasL at h;obtain⟨G,L⟩:=h;unfold Has at G;rw[G,X9 L];rfl
def wOf(ks:kO)(n:Nat):Shp->List W
 |.tags ts=>.non::ts.map W.tag
 |.pair a b=>.non::(Y3 ks n a).flatMap λu=>(Y3 ks n b).map λv=>.pair u v
def X6(h:Va Z y=some s):Y3 Z (n+1) y=wOf Z n s:=by
 conv=>lhs;unfold Y3
 rw[h];cases s <;> rfl
def FZ{α:Type}(f:α->List W){l:List α}{a:α}(h:l[i]?=some a):(l.take<|i+1).flatMap f=(l.take i).flatMap f++ f a:=by
 rw[take_snoc h,List.flatMap_append];simp
def Xw(h:Has H v (Shp.tags M).dat):∃p l,v=.ref p/\H p=some (.tup [.str "tags",.ref l])/\H l=some (.tup<|M.map V.str):=by
 unfold Shp.dat Has at h;obtain⟨p,T,rfl,B,Z⟩:=h
 match T,Z with
 |[u,v],Z=>
  unfold HasL at Z;obtain⟨O,J⟩:=Z;unfold HasL at J;unfold Has at O;subst O;have G:=J.1;unfold Has at G;obtain⟨l,R,rfl,N,L⟩:=G;have e:R=M.map V.str:=X9 L;rw[e]at N;exact⟨p,l,Y,B,N⟩
 |[],Z=>unfold HasL at Z;exact Z.elim
 |[x],Z=>unfold HasL at Z;obtain⟨_,J⟩:=Z;unfold HasL at J;exact J.elim
 |_::_::_::_,Z=>unfold HasL at Z;obtain⟨_,J⟩:=Z;unfold HasL at J;obtain⟨_,G⟩:=J;unfold HasL at G;exact G.elim
def Ug(h:Has H v (Shp.pair a b).dat):∃p,v=.ref p/\H p=some (.tup [.str "pair",.str a,.str b]):=by
 unfold Shp.dat Has at h;obtain⟨p,N,rfl,O,Z⟩:=h
 match N,Z with
 |[u,v,w],Z=>
  unfold HasL at Z;obtain⟨M,J⟩:=Z;unfold HasL at J;obtain⟨J,G⟩:=J;unfold HasL at G;have G:=G.1;unfold Has at M J G;subst M J G;exact⟨p,Y,O⟩
 |[],Z=>unfold HasL at Z;exact Z.elim
 |[x],Z=>unfold HasL at Z;obtain⟨_,J⟩:=Z;unfold HasL at J;exact J.elim
 |[x,y],Z=>unfold HasL at Z;obtain⟨_,J⟩:=Z;unfold HasL at J;obtain⟨_,G⟩:=J;unfold HasL at G;exact G.elim
 |_::_::_::_::_,Z=>unfold HasL at Z;obtain⟨_,J⟩:=Z;unfold HasL at J;obtain⟨_,G⟩:=J;unfold HasL at G;obtain⟨_,L⟩:=G;unfold HasL at L;exact L.elim
theorem M5:∀Z:ky,HasL H (Z.map V.str)<|(Z.map W.tag).map W.dat
 |[]=>Z6
 |t::Z=>Z4 (by show Has H (.str t) (W.dat<|.tag t);unfold W.dat Has;rfl)<|M5 Z
end L2
namespace L2
open PySem PySem.Spec PyProof.Rows
section
def UO(K:W.Frag):R2:=λx y H Q=>∃a b Z,x=.ref a/\y=.ref b/\SqT K H a []/\SqT K H b Z/\Q (.ref b) H
def PB:OpR X (binaryOp .Add) (UO X.K):=by
 intro O s U H x y v u Q I E D h;obtain⟨a,b,m,rfl,rfl,z,j,q⟩:=h;cases E;cases D;obtain⟨P,F,S,_⟩:=I.tuple z;obtain⟨Z,g,A,_⟩:=I.tuple j;cases F;obtain⟨⟨p,t,data,sl⟩,R,B,n,T⟩:=id S;obtain⟨⟨k,N,data2,M⟩,J,L,C,G⟩:=id A;simp only at B T L G;subst B T L G;exact concat_meets ⟨_,R,Y⟩ ⟨_,J,Y⟩ noFill_tuple_add seq_tuple_add jG jB (jz _ _)
  (tuple_addW0 a b _ Z.toArray n C t N sl M rfl) ⟨R,J,.ref b,H,I,rfl,q⟩
def UA:OpR X (binaryOp .Add) (λx y H Q=>UO X.K x y H Q\/UN X.K x y H Q):=PB.or MY
end
def Jn:plainId "dict.update.loop"=true:=by decide +kernel
def Xy:entryFor table "dict.update.loop"=some Builtin.«dict.update.loop»:=entryFor_of_fast<|by kernel_rfl
def yd{prog:Program}{w:World}(h₀:Heap)(vs:List (Key×Value))(i:Nat)(v:Value):Prop:=
 ∃a k J Z,v=.ref a/\vs[i]?=some (k,Z)/\h₀.IsTuple a #[J,Z]/\(Y8 prog w).is k J=true
def RU(Z:List (Key×Value))(T:(Z.map (·.1)).Nodup)(e:Z[i]?=some (k,u)):stored (Z.take i) k u=Z.take (i+1):=by
 obtain⟨A,F⟩:=ZF.mp e
 have L:(Z.take i).any (λG=>decide<|G.1=k)=false:=by
  rw[qf];intro J;obtain⟨G,B,D⟩:=ji.mp J;have M:G.1=k:=Zt D;obtain⟨j,E,R⟩:=vi.mp B;rw[ZN]at E;rw[List.getElem_take]at R;have N:j<(Z.map (·.1)).length:=by rw[ZA];omega
  have O:i<(Z.map (·.1)).length:=by rw[ZA];omega
  have q:(Z.map (·.1))[j]=(Z.map (·.1))[i]:=by
   rw[vQ,vQ,R,F,M]
  exact ve.mp T j i N O (by omega) q
 unfold stored;rw[L,List.take_add_one,e]
 rfl
section
variable{St:Nat->Heap->Prop}
def P7(W:Walks prog w A.in1 I fp wr n P St)(E:vs.length=n)(hsz:vs.length<=sizeLine)(hn:(vs.map (·.1)).Nodup)(hP:∀i v,P i v->yd (prog:=prog) (w:=w) h₀ vs i v)(d:Addr)(U:d∉fp)(hw:∀b o,h₀.get? b=some o->b∉wr/\b≠d)(O:Value):
  ∀(k i:Nat)(s:Shared)(j:Int)(t:Tok),n-i=k->i<=n->St i s.heap->s.heap.DictOf (Y8 prog w) d (vs.take i)->(∀b o,h₀.get? b=some o->s.heap.get? b=some o)->
  (∀J N,J.DictOf (Y8 prog w) d vs->(∀b o,b∉wr->b≠d->s.heap.get? b=some o->J.get? b=some o)->R (.ok<|.ret O) {s with heap:=J,toks:=N})->
  codeAny (model prog w) A (.builtin "dict.update.loop" ⟨[.ref d,.ref I,.int j t,O],[]⟩) R s:=by
 have S:d∉wr:=λh=>U<|W.sub _ h;intro k
 induction k with
 |zero=>
  intro i s j t hk hi G y h0 l;have f:i=n:=by omega
  subst f;refine j0 Xy ?_;rw[Around.under_plainId Jn _];refine Zl (m:=pyNext<|.ref I)<|W.done s _ _ G λJ N Z=>Zl<|Zm<|Zm ?_;refine l J N ?_ λb o M _ e=>Z b o M e;rw[<-E,qj]at y;obtain⟨o,es,ep,p,rest⟩:=y;exact⟨o,es,ep,Z d o S p,rest⟩
 |succ k ih=>
  intro i s j t hk hi G y h0 l;have D:i<n:=by omega
  refine j0 Xy ?_;rw[Around.under_plainId Jn _];refine Zl (m:=pyNext<|.ref I)<|W.item i s _ _ D G λv J N x T Z=>?_;obtain⟨a,J2,ku,vu,rfl,ev,ht,F⟩:=hP i v x;have Q:∀b o,h₀.get? b=some o->J.get? b=some o:=λb o e=>Z b o (hw b o e).1<|h0 b o e;obtain⟨o,p,hc,m,hdat⟩:=ht;have B:=Q a o p;have hT:({s with heap:=J,toks:=N}:Shared).TypeIs (.ref a) "tuple":=⟨o,B,hc⟩;refine Zl<|wpAny_holding<|Zl<|wpAny_tryCatch ?_;simp only[Builtin.Dict.pairItems];refine Zl (m:=typeOf<|.ref a)<|jX hT ?_;rw[Zp (by decide)];refine Zl<|vd B hdat<|Zm ?_;show wpAny _ A.in1 (holding [ku,vu]<|dictSet d ku vu) _ _ _
  have r:Heap.DictOf (Y8 prog w) J d (vs.take i):=by
   obtain⟨o1,es,ep,g,rest⟩:=y;exact⟨o1,es,ep,Z d o1 S g,rest⟩
  refine wpAny_holding<|wpAny_dictSet_pairs (hsz:=by rw[ZN];omega) F r λh2 C L=>?_;rw[RU vs hn ev]at C;refine Zm ⟨plainId_quiet Jn _,ih (i+1) _ (j+1) 0 (by omega) D (W.frame _ _ _ T λb M o e=>?_) C (λb o e=>?_) λh3 q u c=>?_⟩
  .exact (L.2 b λz=>U<|z ▸ M).trans e
  .exact (L.2 b (hw b o e).2).trans (Q b o e)
  .refine l h3 q u λb o M X e=>c b o M X<|(L.2 b X).trans<|Z b o M e
end
section
def OJ(K:W.Frag)(H:Hp)(ts:kC)(kvs:kF):Prop:=ts.length=kvs.length/\∀(i:Nat)(a:Addr)(k:Key)(y:V),ts[i]?=some a->kvs[i]?=some (k,y)->SqT K H a [kV k,y]
theorem NL(h:Heap):∀(L:kC)(Z:kF),L.length=Z.length->(∀(i:Nat)(a:Addr)(k:Key)(y:V),L[i]?=some a->Z[i]?=some (k,y)->∃G J,h.IsTuple a #[G,J]/\RelV (kV k) G/\RelV y J)->
  ∃M,KV Z M/\∀(i:Nat)(a:Addr),L[i]?=some a->∃k G J,M[i]?=some (k,J)/\h.IsTuple a #[G,J]/\RelV (kV k) G
 |[],[],_,_=>⟨[],.nil,λi a e=>by simp at e⟩
 |[],_::_,e,_=>by simp at e
 |_::_,[],e,_=>by simp at e
 |t::L,kv::Z,e,hp=>by
  obtain⟨G,J,D,B,T⟩:=hp 0 t kv.1 kv.2 rfl rfl;obtain⟨M,r,R⟩:=NL h L Z (by simpa using e) λi a k y F E=>hp (i+1) a k y F E;refine⟨(kv.1,J)::M,.cons ⟨Y,T⟩ r,λi a O=>?_⟩
  cases i with
  |zero=>
   have N:some t=some a:=O;cases N;exact⟨kv.1,G,J,Y,D,B⟩
  |succ i=>exact R i a O
end
end L2
namespace L2
open PySem
def SameB.same(a:SameB p H Z)(f:H p=none):Same H Z:=λb o e=>a b o (Yb e f) e
def KK.small(h:KK 30 c d G)(L:y∈G.map (·.1)):d y<=2/\c y<=30:=by
 obtain⟨s,M⟩:=JM L;have Z:=h.at M
 cases s with
 |tags B=>obtain⟨T,R,O,J⟩:=Z;omega
 |pair a b=>obtain⟨T,R,O,J,D,N⟩:=Z;exact⟨N,J⟩
end L2
namespace L2
open PySem PySem.Spec PyProof.Rows
section
def P2{i:Nat}{Q:kh}(k:IsEnum s.heap e Z i old)(z:SI tp s.heap Z l i xs)(nl:l≠Z)(hx:xs[i]?=some x)(G:e≠Z)(hQ:∀g,IsEnumOut g e Z ((i:Int)+1) x s.heap.objs.size->SJ tp g Z l (i+1)->g.get? s.heap.objs.size=some {cls:=.type "tuple",data:=.seq #[.int i s.toks,x]}->g.objs.size=s.heap.objs.size+1->
   (∀b o,b≠e->b≠Z->s.heap.get? b=some o->g.get? b=some o)->Q (.ref s.heap.objs.size) {s with heap:=g,toks:=s.toks+1}):
  wpAny (model prog w) A (Builtin.«enumerate.__next__» ⟨[.ref e],[]⟩) (λu s'=>∃v,u=.done (.ret v)/\Q v s') E s:=by
 obtain⟨J,g,d,T,os⟩:=s;refine Zl (m:=field (.ref e) 2)<|Zo k rfl (x:=.ref Z) rfl ?_;refine Zl<|U7 z nl hx λC z1 O=>?_;replace O:Heap.SameBut Z J C:=O;have y:IsEnum C e Z i old:=(O.2 e G).trans k;refine Zl (m:=field (.ref e) 3)<|Zo y rfl (x:=rawInt i) rfl ?_;refine Zl (m:=field (.ref e) 4)<|Zo y rfl (x:=.none) rfl ?_;refine Zl (m:=mkInt i)<|wpAny_mkInt ?_;refine Zl (m:=setField (.ref e) 3<|rawInt<|(i:Int)+1)<|yo y (by simp) λU j N=>?_;replace N:Heap.SameBut e C U:=N;replace j:IsEnum U e Z ((i:Int)+1) old:=j;refine Zl (m:=setField (.ref e) 4 .none)<|yo j (by simp) λR P M=>?_;replace M:Heap.SameBut e U R:=M;replace P:IsEnum R e Z ((i:Int)+1) old:=P;refine Zl (m:=newTuple [.int i T,x])<|wpAny_newTuple ?_;have X:IsEnum (R.push {cls:=.type "tuple",data:=.seq #[.int i T,x]}) e Z ((i:Int)+1) old:=ZE _ P;generalize q4:R.push {cls:=.type "tuple",data:=.seq #[.int i T,x]}=g4 at X;have B:R.objs.size=J.objs.size:=by rw[M.1,N.1,O.1]
 have el:e<J.objs.size:=ZP k;have t4:g4.get? J.objs.size=some {cls:=.type "tuple",data:=.seq #[.int i T,x]}:=by rw[<-q4,<-B];exact ZY _ Y
 have z4:g4.objs.size=J.objs.size+1:=by rw[<-q4,vg,B]
 have k4:∀b o,b≠e->b≠Z->J.get? b=some o->g4.get? b=some o:=λb o L a p=>by
  rw[<-q4];exact ZE _<|M.extBut b o L<|N.extBut b o L<|O.extBut b o a p
 have j4:SJ tp g4 Z l (i+1):=by
  rw[<-q4];exact z1.sj.to λo ho=>ZE _<|M.extBut _ o (Zs G)<|N.extBut _ o (Zs G) ho
 show wpAny _ _ (Builtin.SmallTypes.ownedTupleIsFree (.ref e) >>=_) _ _ ⟨g4,g,d,T+1,os⟩;rw[B];clear q4 P M j N y O z1 B R U C;refine Zl (m:=Builtin.SmallTypes.ownedTupleIsFree<|.ref e)<|Zl (m:=field (.ref e) 0)<|Zo X rfl (x:=.none) rfl (Zm ?_);simp only[if_true];refine Zl (jf<|Zl<|Zo X rfl (x:=old) rfl (Zl<|yo X (by simp) λf n I=>?_));replace I:Heap.SameBut e g4 f:=I;replace n:IsEnum f e Z ((i:Int)+1) x:=n;refine Zl (m:=Builtin.SmallTypes.ownedTupleHandOut (.ref e)<|.ref J.objs.size) ?_;simp only[Builtin.SmallTypes.ownedTupleHandOut];refine Zl<|yo n (by simp) λc h F=>?_;replace F:Heap.SameBut e f c:=F;replace h:IsEnumOut c e Z ((i:Int)+1) x J.objs.size:=h;refine yo h (by simp) λS r D=>?_;replace D:Heap.SameBut e c S:=D;replace r:IsEnumOut S e Z ((i:Int)+1) x J.objs.size:=r;have t:∀b o,b≠e->g4.get? b=some o->S.get? b=some o:=λb o L q=>D.extBut b o L<|F.extBut b o L<|I.extBut b o L q;refine Zl<|wpAny_letGo<|Zm ⟨_,rfl,hQ S r (j4.to λo q=>t _ o (Zs G) q) (t _ _ (vt el) t4) (by rw[D.1,F.1,I.1,z4]) λb o L a p=>t b o L<|k4 b o L a p⟩
def Pg{i:Nat}(G:IsEnum s.heap e Z i old)(z:SI N s.heap Z l i M)(O:l≠Z)(R:M[i]?=some x)(J:e≠Z)(T:∀g,IsEnumOut g e Z ((i:Int)+1) x s.heap.objs.size->SJ N g Z l (i+1)->g.get? s.heap.objs.size=some {cls:=.type "tuple",data:=.seq #[.int i s.toks,x]}->g.objs.size=s.heap.objs.size+1->
   (∀b o,b≠e->b≠Z->s.heap.get? b=some o->g.get? b=some o)->Q (some<|.ref s.heap.objs.size) {s with heap:=g,toks:=s.toks+1}):wpAny (model prog w) A (pyNext<|.ref e) Q E s:=by
 have L:s.TypeIs (.ref e) "enumerate":=⟨_,G,rfl⟩;simp only[pyNext];exact Zl (jp (wpAny_callSpecial?_slot (name:=Str.ofString "__next__") L jn (y0 jn L F.entry_enumerate_next
   (P2 G z O R J λg a b c d k=>Zm<|T g a b c d k) (F.args_enumerate_next_1 _))))
def AZ{i:Nat}(O:A.handled=none)(J:IsEnum s.heap e Z i old)(z:SI I s.heap Z l i L)(M:L[i]?=none)(B:∀g,Heap.ExtBut Z s.heap g->Q none {s with heap:=g}):wpAny (model prog w) A (pyNext<|.ref e) Q E s:=by
 have G:s.TypeIs (.ref e) "enumerate":=⟨_,J,rfl⟩;simp only[pyNext];refine Zl<|jp<|wpAny_callSpecial?_slot (name:=Str.ofString "__next__") G jn<|y0 jn G F.entry_enumerate_next ?_<|F.args_enumerate_next_1 _;refine Zl (m:=field (.ref e) 2)<|Zo J rfl (x:=.ref Z) rfl (Zl<|ME O z M λg y D ⟨o,N,R⟩=>?_);exact Zl<|jo (T:="StopIteration") (b:=true) ⟨o,N,R⟩ isSubtype_stop<|Zm<|B _ D
set_option tactic.hygienic true in
def Fa(J:Bool)(l:Addr)(N:kE):Meets (Builtin.«enumerate.__new__» ⟨[.type "enumerate",.ref l],[]⟩) (λ_ R s=>Wk J s.heap l N/\
   R (.ok<|.ret<|.ref (s.heap.push<|Je J l).objs.size) {s with heap:=(s.heap.push<|Je J l).push {cls:=.type "enumerate",data:=.fields #[.none,.bool false,.ref s.heap.objs.size,rawInt 0,.none,.none]}}):=
 .of_wp λO w A R s h=>by
  obtain⟨D,g,d,F,I⟩:=s;obtain⟨L,h⟩:=h;have B:=sub_enumerate;have T:Wk J (Shared.heap ⟨D,g,d,F,I⟩) l N:=L
  obtain⟨G,Z,S⟩:∃G,D.get? l=some G/\(∃E n,G.data=.seq E n):=by
   cases J with
   |false=>obtain⟨o,e,_,n,M⟩:=L;exact⟨o,e,_,n,M⟩
   |true=>obtain⟨o,e,_,n,M⟩:=L;exact⟨o,e,_,n,M⟩
  wp_walk using AutoSeq1.wpAny_loadPart' Z
  refine wpAny_stack_any λst=>Zm ?_
  split
  .rename_i c _ _ _ _ _
   cases(c==Value.type "enumerate") <;> (wp_walk using AutoSeq1.wpAny_loadPart' Z,Wy T;exact⟨_,Y,h⟩)
  .wp_walk using AutoSeq1.wpAny_loadPart' Z,Wy T
   exact⟨_,Y,h⟩
def QD(N:Wk Z s.heap l L)(h:∀g,IsEnum g (s.heap.objs.size+1) s.heap.objs.size 0 .none->SJ Z g s.heap.objs.size l 0->(∀c o,s.heap.get? c=some o->g.get? c=some o)->Q (.ref<|s.heap.objs.size+1) {s with heap:=g}):
  wpAny (model prog w) A (call (.type "enumerate") [.ref l]) Q E s:=by
 refine callType_new F.called_enumerate (by decide) (F.typeCall_enumerate_1 _) (F.newCall_enumerate_1 _) (λG=>F.args_object_init_2 G _) F.entry_enumerate_new (Fa Z l L) ⟨N,?_⟩;have O:(s.heap.push<|Je Z l).objs.size=s.heap.objs.size+1:=vg ..;have J:((s.heap.push<|Je Z l).push {cls:=.type "enumerate",data:=.fields #[.none,.bool false,.ref s.heap.objs.size,rawInt 0,.none,.none]}).get? (s.heap.push<|Je Z l).objs.size=some _:=ZY _ rfl;have M:SJ Z ((s.heap.push<|Je Z l).push {cls:=.type "enumerate",data:=.fields #[.none,.bool false,.ref s.heap.objs.size,rawInt 0,.none,.none]}) s.heap.objs.size l 0:=(SJ.new Z s.heap l).to λo q=>ZE _ q;show _/\_;rw[O]at J |-;exact⟨⟨_,J,Y⟩,h _ J M λc o q=>ZE _<|ZE _ q⟩
end
structure ER(h:Heap)(e it:Addr)(tp:Bool)(l:Addr)(k:Nat):Prop where
 enu:∃old,IsEnum h e it k old
 one:SJ tp h it l k
def Ite(K:W.Frag)(tp:Bool)(l:Addr):It:=
 ⟨λi H=>∃Z x,Sq K tp H l Z/\Z[i]?=some x,λi H v J=>∃r x,v=.ref r/\H r=none/\J=upd H r (.tup [.int (i:Nat),x])/\∀Z,Sq K tp H l Z->Z[i]?=some x,λi H=>∃Z,Sq K tp H l Z/\Z.length<=i⟩
def OX{P:Program}{w:World}{K:W.Frag}{O:kS}{x1}{Q:Pos}{e G l:Addr}{tp:Bool}(n1:e≠G)(n2:l≠G):Turn P w K (.Tuple O x1 Q) (Ite K tp l) [e,G] e (λi h=>ER h e G tp l i) where
 mem:=by simp
 obj:=λi h st b Z=>by
  have q:b=e\/b=G:=by simpa using Z
  rcases q with q|q <;> rw[q]
  .obtain ⟨L,N⟩:=st.enu
   exact⟨_,N,λv e=>nomatch e⟩
  .exact st.one.obj
 keep:=λi h h' st k=>⟨let⟨L,N⟩:=st.enu;⟨L,k e (by simp) _ N⟩,st.one.to λo q=>k G (by simp) o q⟩
 item:=by
  intro X r c n hc i J s U H E I M st u;subst r c n;obtain⟨xs,x,T,hx⟩:=u;obtain⟨p,C,D⟩:=I.sq T;obtain⟨F,d,S⟩:=C.get hx;obtain⟨L,B⟩:=st.enu;have R:e<s.heap.objs.size:=ZP B;refine Pg B (st.one.si D) n2 (x:=F) (by simpa using d) n1 λg ho hj ht sz m=>?_;have t:∀b o,b ∉ [e,G]->s.heap.get? b=some o->g.get? b=some o:=λb o Z q=>m b o (λz=>Z<|by simp[z]) (λz=>Z<|by simp[z]) q;have I1:Inv X J U H {s with heap:=g,toks:=s.toks+1}:=I.turnedL (t':=s.toks+1) t M;have f:H s.heap.objs.size=none:=I.hok.fresh<|ZG _;exists _,Y;refine wpAny_letOwnedTupleGo_enum (s:={s with heap:=g,toks:=s.toks+1}) ho λa e2 A=>?_
  have I2:Inv X J U H {s with heap:=a,toks:=s.toks+1}:=I1.turnedL (s:={s with heap:=g,toks:=s.toks+1}) (t':=s.toks+1) (ch:=[e]) (λb o Z q=>A.extBut b o (λz=>Z<|by simp[z]) q) λb Z=>by
   have q:b=e:=by simpa using Z
   rw[q];exact M e<|by simp
  have j:a.get? s.heap.objs.size=some {cls:=.type "tuple",data:=.seq #[.int i s.toks,F]}:=A.extBut _ _ (vt R) ht;have I3:Inv X J U (upd H s.heap.objs.size<|.tup [.int (i:Nat),x]) {s with heap:=a,toks:=s.toks+1}:=I2.retrack f (I.fpOk (ZG _) f) ⟨sl 2,[.int i s.toks,F],.cons ⟨_,rfl⟩<|.cons S .nil,⟨_,j,rfl,rfl,_,rfl⟩⟩
  have y:∀b∈ [e,G],b<s.heap.objs.size:=λb Z=>by
   have q:b=e\/b=G:=by simpa using Z
   rcases q with q|q <;> rw[q]
   .exact R
   .obtain ⟨o,q,_⟩:=st.one.obj
    exact ZP q
  refine⟨.ref s.heap.objs.size,_,I3,Y,⟨_,x,Y,f,Y,λzs h=>by rw[I.sq_inj h T];exact hx⟩,?_,λb Z=>?_⟩
  .exact ⟨⟨_,e2⟩,hj.to λo q=>A.extBut _ o (Zs n1) q⟩
  .rw [Yg (Ze<|y b Z)]
   exact(M b Z).1
 done:=by
  intro X r c n hc i J s U H E I M st u;subst r c n;obtain⟨xs,T,J2⟩:=u;obtain⟨p,C,D⟩:=I.sq T;have e1:=C.length;obtain⟨L,B⟩:=st.enu;refine AZ (I.ok.hd hc) B (st.one.si D) (by simp;omega) λg m=>⟨Y,?_⟩
  exact I.turnedL (t':=s.toks) (ch:=[G]) (λb o Z q=>m b o (λz=>Z<|by simp[z]) q) λb Z=>M b (by
   have q:b=G:=by simpa using Z
   rw[q];simp)
 self:=λ_ _ _ _ _ st h=>let⟨_,N⟩:=st.enu;wpAny_pyIter_enum N h
def Ds:bootBuiltins "enumerate"=some (.type "enumerate"):=by decide +kernel
def Cz(K:W.Frag)(ta:TA):TI:=λU H R=>ta U H λL J=>∃a Z G,L=[.ref a]/\Sq K Z J a G/\R (Ite K Z a) J
def W8(j:Gl X "enumerate")(P:X.mg "enumerate"=none)(t:PA X [a] ta)(C:starEach [a] X.env=[(false,eval a X.env)]:=by rfl):PI X (.Tuple elts x1 tpos) (.Call (.Name "enumerate" p) [a] [] pos) (Cz X.K ta):=by
 intro J s U H R I h;refine Call_ (Ue I j P Ds<|yz (thn (t pos J s U H _ I h) λd Z ⟨c,T,L,E,M⟩=>?_) (by rw[C];rfl)<|by rfl);obtain⟨l,f,k,e,M,q⟩:=M;subst e;obtain⟨u,rfl,B⟩:=vals1 E;cases B;obtain⟨S,D,N⟩:=L.sq M;have F:=N.lt;refine QD N λg O Q A=>?_;refine wpAny_pyIter_enum (s:={Z with heap:=g}) O ?_;have m:Inv X J U T {Z with heap:=g}:=L.kept (t':=Z.toks) A;refine⟨_,[Z.heap.objs.size+1,Z.heap.objs.size],_,_,T,Y,m,OX (Nat.succ_ne_self _)<|Ze F,⟨⟨_,O⟩,Q⟩,λb y=>?_,q⟩
 have G:Z.heap.objs.size<=b:=by
  have z:b=Z.heap.objs.size+1\/b=Z.heap.objs.size:=by simpa using y
  rcases z with z|z <;> rw[z] <;> first|exact ZG _|exact vf _ _
 exact L.fpOk G<|L.hok.fresh G
end L2
namespace L2
open PySem PySem.Spec PyProof.Rows PySem.W PySem.Calls
end L2
namespace L2
open PySem PySem.Spec PyProof.Rows PySem.MeetsSeq
section
def Dq:Jt X (.type "dict") (λL H Q=>∃a Z,L=[.ref a]/\H a=some (.dK Z)/\∀l,H l=none->Q (.ref l) (upd H l<|.dK Z)):=by
 intro N s U H L A Q I r h;obtain⟨a,Z,rfl,E,q⟩:=h;obtain⟨u,rfl,T⟩:=vals1 r;cases T;obtain⟨O,B,F,M,D⟩:=Ee I.hok E;have J:=M.length;refine kt_call_dict (knd:=Y8 X.prog X.w) B D (by rw[<-J];exact O) λS G R=>?_;refine⟨.ref s.heap.objs.size,_,I.laid (a:=s.heap.objs.size) (o:=.dK Z) (λb o e=>?_) (ZG _)<|Wd O (beq_eq_false_iff_ne.mpr<|Zs<|Ze I.big) M G,rfl,q _<|I.hok.fresh<|ZG _⟩;exact(R.2 b<|Ze<|ZP e).trans<|ZE _ e
end
end L2
namespace L2
open PySem PySem.Spec PyProof.Rows
def Its(x:Str):It:=⟨λi _=>i<x.cps.size,λi H v Z=>Z=H/\∃c,x.cps[i]?=some c/\v=.str ⟨#[c]⟩,λi _=>x.cps.size<=i⟩
def SIt(it:Addr)(x:Str)(i:Nat)(h:Heap):Prop:=∃ty t,(ty="str_ascii_iterator" \/ ty="str_iterator")/\h.IsStrIter it ty x t i
def Le(h:Q () s):wpAny M A (letOwnedTupleGo tg Z<|.str y t) Q E s:=by
 unfold letOwnedTupleGo;cases tg <;> cases Z <;> exact Zm h
def IM{P:Program}{w:World}{K:W.Frag}{a:Expr}(J:Addr)(x:Str):Turn P w K a (Its x) [J] J (SIt J x) where
 mem:=by simp
 obj:=λi h ⟨ty,t,_,o,p,_,hd⟩ b N=>by
  cases ZQ.mp N;exact⟨o,p,λv z=>by rw[hd]at z;cases z⟩
 keep:=λi h M ⟨ty,t,Z,o,p,r⟩ k=>⟨ty,t,Z,o,k J (by simp) o p,r⟩
 item:=by
  intro X d g f D i O s U H E I S ⟨ty,t,Z,st⟩ A;subst d g f;obtain⟨m,q,_,j,Q,C⟩:=S J (by simp);have F:∀(v:Value)(M:Heap)(R:Nat),SignAt x i v->SIt J x (i+1) M->(∀b o,b ∉ [J]->s.heap.get? b=some o->M.get? b=some o)->
    (∃u,some v=some u/\wpAny (model X.prog X.w) X.A (letOwnedTupleGo a (.ref J) u) (λ_ s2=>∃y n,Inv X O U n s2/\RelV y u/\(Its x).yld i H y n/\SIt J x (i+1) s2.heap/\∀b∈ [J],n b=none) E {s with heap:=M,toks:=R}):=λv M R B G T=>by
   obtain⟨c,u,hx,rfl⟩:=B;exact⟨_,Y,Le ⟨.str ⟨#[c]⟩,H,I.turned (λb o N e=>T b o (by simpa using N) e) m q j Q C,⟨_,Y⟩,⟨Y,c,hx,Y⟩,G,λb N=>(S b N).1⟩⟩
  rcases Z with rfl|rfl
  .exact (Walks.strAscii (I.ok.hd D) J x t).item i s _ _ A st λv M R B G T=>F v M R B ⟨_,t,.inl rfl,G⟩ T
  .exact (Walks.strWide (I.ok.hd D) J x t).item i s _ _ A st λv M R B G T=>F v M R B ⟨_,t,.inr rfl,G⟩ T
 done:=by
  intro X d g f D i O s U H E I S ⟨ty,t,Z,st⟩ A;subst d g f;obtain⟨m,q,_,j,Q,C⟩:=S J<|by simp
  have L:x.cps[i]?=none:=by
   have z:x.cps.size<=i:=A;simp[z]
  rcases Z with rfl|rfl
  .exact wpAny_pyNext_ascii_end (I.ok.hd D) st L λM l=>⟨rfl,I.turned (t':=s.toks) (λb o N e=>l b o N e) m q j Q C⟩
  .exact wpAny_pyNext_wide_end (I.ok.hd D) st L λM l=>⟨rfl,I.turned (t':=s.toks) (λb o N e=>l b o N e) m q j Q C⟩
 self:=λ_ _ _ _ _ ⟨ty,t,Z,st⟩ h=>by
  rcases Z with rfl|rfl
  .exact wpAny_pyIter_striter_ascii st h
  .exact wpAny_pyIter_striter_wide st h
section
def yM(tl:TE):TI:=λU H R=>tl U H λv Z=>∃x,v=.str x/\R (Its x) Z
def Sf(O:PE X l tl):PI X tg l (yM tl):=by
 intro Z s U H R I h;refine thn (O Z s U H _ I h) λv J ⟨y,M,L,N,x,e,q⟩=>?_;subst e;obtain⟨t,rfl⟩:=N
 have B:∀b∈ [J.heap.objs.size],J6 X Z M b:=λb T=>by
  cases ZQ.mp T;exact L.fpOk (ZG _)<|L.hok.fresh<|ZG _
 have go:∀(ty:String),(ty="str_ascii_iterator" \/ ty="str_iterator")->PIE X Z U tg R (.ref J.heap.objs.size) {J with heap:=J.heap.push {cls:=.type ty,data:=.fields #[.str x t,.int 0 0]}}:=λty G=>
  ⟨_,[J.heap.objs.size],_,_,M,rfl,L.kept (t':=J.toks) λb o e=>ZE _ e,IM _ x,⟨ty,t,G,_,ZY _ rfl,rfl,rfl⟩,B,q⟩
 cases ha:x.cps.all (λc=>c<128)
 .exact wpAny_pyIter_wide ha (go _<|.inr rfl)
 .exact wpAny_pyIter_ascii ha (go _<|.inl rfl)
end
def VL.dk_ex(x:VL P w H h d (.dK Z)):∃u,h.get? d=some u:=let⟨_,_,_,_,o,_,_,e,_⟩:=x;⟨o,e⟩
def epO(o:Obj):Nat:=match o.data with|.dict _ ep=>ep|_=>0
section
def Inv.freeze(I:Inv X G U H s)(M:H d=some (.dK Z))(R:s.heap.get? d=some o):Inv X G U (upd H d<|.frz o<|.dK Z) s:=by
 have L:∀b u,H b=some u->(∀l,u≠.dK l)->b≠d:=λb u e n z=>by subst z;rw[M]at e;cases e;exact n Z Y
 have O:∀b,H b=none->b≠d:=λb e z=>by subst z;rw[M]at e;cases e
 have J:=I.un (H':=upd H d<|.frz o<|.dK Z) (h':=s.heap) (t':=s.toks)
  ⟨λb u q _ _ _=>q,λb u q _ _ _=>⟨u.slots,q⟩,λb u q n _=>by rw[Yg (O b n)];exact n,λb u q _=>⟨u,q⟩,λb N q=>by rw[Yg (L b _ q (λl=>by intro z;cases z))];exact q,
   λb u v q=>by rw[Yg (L b _ q (λl=>by intro z;cases z))];exact q,λb T q=>⟨#[],by rw[Yg (L b _ q (λl=>by intro z;cases z)),q];simp⟩⟩ ?_
 .exact J
 .intro a u e
  by_cases z:a=d
  .subst z
   rw[Ye]at e;cases e;exact⟨R,I.hok a _ M⟩
  .rw [Yg z]at e
   exact(I.hok a u e).stay (λb v _ q=>q) (λb q=>by rw[Yg (L b _ q (λl=>by intro z;cases z))];exact q) λb N q=>by rw[Yg (L b _ q (λl=>by intro z;cases z))];exact q
end
def Itd(d:Addr)(o:Obj)(kvs:kF):It:=
 ⟨λi H=>H d=some (.frz o<|.dK kvs)/\i<kvs.length,λi H x J=>J=H/\∃Z,kvs[i]?=some Z/\x=kV Z.1,λi H=>H d=some (.frz o<|.dK kvs)/\kvs.length=i⟩
def Pl(h:V1 k v=true):RelV (kV k) v:=by
 rcases VM h with⟨i,t,rfl,rfl⟩|⟨x,t,rfl,rfl⟩
 .exact ⟨t,rfl⟩
 .exact ⟨t,rfl⟩
def AT(J:V1 k v=true)(h:Q () s):wpAny M A (letOwnedTupleGo tg Z v) Q E s:=by
 rcases VM J with⟨i,t,rfl,rfl⟩|⟨x,t,rfl,rfl⟩
 .unfold letOwnedTupleGo
  cases tg <;> cases Z <;> exact Zm h
 .exact Le h
section
def Inv.dict_at(I:Inv X M U H s)(D:H d=some (.frz o<|.dK Z)):∃G,s.heap.DictAt (Y8 X.prog X.w) d G (epO o)/\KV Z G/\(d==sysModules)=false:=by
 obtain⟨N,_,B,G,O,A,E,F,J,T,L,R⟩:=(show VL X.prog X.w H s.heap d (.frz o<|.dK Z)from I.hok d _ D);rw[N]at J;cases J;have e:epO o=F:=by unfold epO;rw[L]
 exact⟨G,⟨o,E,N,T,by rw[e];exact L,R⟩,O,B⟩
end
def DV{Z:List (κ×V)}{J:List (κ×Value)}(r:KV Z J):Z.length=J.length:=Paired.length r
theorem LK:∀{Z:List (κ×V)}{J:List (κ×Value)}(i:Nat)(k:κ)(u:Value),KV Z J->J[i]?=some (k,u)->∃v,Z[i]?=some (k,v)
 |_,_,i,k,u,.nil,e=>by simp at e
 |_,_,0,k,u,.cons (a:=p) (b:=q) r _,e=>by
  have L:some q=some (k,u):=e;cases L;obtain⟨G,v⟩:=p;have z:G=k:=r.1;subst z;exact⟨v,Y⟩
 |_,_,i+1,k,u,.cons _ t,e=>LK i k u t e
def E4{P:Program}{w:World}{K:W.Frag}{a:Expr}(M d:Addr)(o:Obj)(Z:kF):Turn P w K a (Itd d o Z) [M] M (λi h=>h.IsKeyIter M d i Z.length<|epO o) where
 mem:=by simp
 obj:=λi h ⟨D,Q,_,hd⟩ b G=>by
  cases ZQ.mp G;exact⟨D,Q,λv z=>by rw[hd]at z;cases z⟩
 keep:=λi h n ⟨D,Q,r⟩ k=>⟨D,k M (by simp) D Q,r⟩
 item:=by
  intro X y C q l i R s U H E I A st T;subst y C q;obtain⟨c,p,_,g,m,t⟩:=A M (by simp);obtain⟨N,L,B,_⟩:=I.dict_at T.1;have F:=DV B;rw[F]at st;have u:i<N.length:=by have z:i<Z.length:=T.2;omega
  have f:N[i]?=some (N[i].1,N[i].2):=ZD u;obtain⟨v',j⟩:=LK i _ _ B f;refine wpAny_pyNext_dict_item st L f λS n J O x=>?_;rw[<-F]at O;exact⟨S,Y,AT J ⟨_,H,I.turned (t':=s.toks) (λb o G e=>(x.2 b G).trans e) c p g m t,Pl J,⟨Y,_,j,Y⟩,O,λb G=>(A b G).1⟩⟩
 done:=by
  intro X y C q l i R s U H E I A st T;subst y C q;obtain⟨c,p,_,g,m,t⟩:=A M (by simp);obtain⟨N,L,B,_⟩:=I.dict_at T.1;have F:=DV B;rw[F]at st;have u:Z.length=i:=T.2;exact wpAny_pyNext_dict_end (I.ok.hd l) st L (vp.mpr<|by omega) λn eb=>⟨rfl,I.turned (t':=s.toks) (λb o G e=>eb b o G e) c p g m t⟩
 self:=λ_ _ _ _ _ st h=>wpAny_pyIter_keyiter st h
section
def C0(tl:TE):TI:=λU H R=>tl U H λv J=>∃d Z,v=.ref d/\J d=some (.dK Z)/\∀o,R (Itd d o Z)<|upd J d<|.frz o<|.dK Z
def O3(F:PE X l tl):PI X tg l (C0 tl):=by
 intro Z s U H R I h;refine thn (F Z s U H _ I h) λv L ⟨y,S,O,B,d,G,e,N,q⟩=>?_;subst e;cases B;obtain⟨o,D⟩:=(show VL X.prog X.w S L.heap d (.dK G)from O.hok d _ N).dk_ex;have J:=O.freeze N D;obtain⟨C,M,T,E⟩:=J.dict_at Ye;refine wpAny_pyIter_dict E M ?_;rw[<-DV T];refine⟨_,[L.heap.objs.size],_,_,_,Y,J.kept (t':=L.toks) λb o e=>ZE _ e,E4 _ d o G,⟨_,ZY _ Y,Y,Y⟩,λb A=>?_,q o⟩;cases ZQ.mp A;exact J.fpOk (ZG _)<|J.hok.fresh<|ZG _
def V5{st:Stmt}:PS X st (λ_ _ _=>False):=λ_ _ _ _ _ _ h=>h.elim
end
end L2
namespace L2
open PySem
inductive Bd where
 |tag (t:Str)|name (x:Str)|pair (a b:Bd)|one (e:Bd)|other (e:Bd)
 |choose (e:Bd) (ts:List Str) (bs:List Bd)|ask (f:Str) (as:List Bd)|letb (x k:Str) (e b:Bd)
mutual
def Bd.dat:Bd->Dat
 |.tag t=>.tup [.str "tag",.str t]
 |.name x=>.tup [.str "name",.str x]
 |.pair a b=>.tup [.str "pair",a.dat,b.dat]
 |.one e=>.tup [.str "one",e.dat]
 |.other e=>.tup [.str "other",e.dat]
 |.choose e ts bs=>.tup [.str "choose",e.dat,.tup (Bd.brs bs ts)]
 |.ask f as=>.tup [.str "ask",.str f,.tup (Bd.dats as)]
 |.letb x k e b=>.tup [.str "let",.str x,.str k,e.dat,b.dat]
def Bd.dats:List Bd->List Dat
 |[]=>[]
 |b::bs=>b.dat::Bd.dats bs
def Bd.brs:List Bd->List Str->List Dat
 |[],_=>[]
 |b::bs,t::ts=>.tup [.str t,b.dat]::Bd.brs bs ts
 |_::_,[]=>[]
end
def Bd.parts:Bd->List Bd
 |.tag _=>[]
 |.name _=>[]
 |.pair a b=>[a,b]
 |.one e=>[e]
 |.other e=>[e]
 |.choose e _ bs=>e::bs
 |.ask _ as=>as
 |.letb _ _ e b=>[e,b]
end L2
namespace L2
open PySem PySem.W PyProof.Rows
end L2
namespace L2
open PySem PySem.Spec PyProof.Rows
def Lu:typeLookup (.type "tuple") (Str.ofString "keys")=pure none:=am_miss_of_fast<|by decide +kernel
section
def Lv(D:Wx s.heap a G)(C:A.handled=none)(h:∀L M,(∀b o,s.heap.get? b=some o->L.get? b=some o)->Q none {s with heap:=L,toks:=M}):
  wpAny (model prog w) A (getAttr? (.ref a)<|Str.ofString "keys") Q E s:=by
 obtain⟨⟨c,y,z,sl⟩,N,O,R,k,hdat⟩:=D;simp only at R hdat O;subst R hdat O;obtain⟨X,P,j,M,I⟩:=s;have Z:=F.slot_tuple_getattribute;have U:=Z.lookup;have q:=Z.bind<|.ref a;have S:=am_tuple_getattr_none;have t:=sub_AttributeError;have T:∀n,(Shared.mk X P j n I).TypeIs (.ref a) "tuple":=λn=>⟨_,N,rfl⟩;simp only[getAttr?,getAttrBy?,getAttrBy]
 repeat (any_goals (first|assumption|exact T _|((with_reducible show wpAny _ _ (call (Value.builtin "tuple.__getattribute__") _ _) _ _ _);refine jC F.slot_tuple_getattribute (T _) am_entry_tuple_getattribute (F.args_tuple_getattribute_2 _ _) (meets_getattribute_miss_tuple a G k sl (Str.ofString "keys") _ Lu (by decide +kernel)<|by size_fits) ⟨N,C,λL B e J=>?_⟩)|wp_step))
 have there:=J.there;obtain⟨_,_,m⟩:=there;refine(?_:wpAny _ _ (getattributeRaised _ _ _ _ _ _ _) _ _ _);simp only[getattributeRaised]
 repeat any_goals first|assumption|wp_step
 exact h _ _ J.keeps
end
section
def Wh(hc:X.calm=true):Jt X (.type "dict") (λxs H Q=>∃(p:Addr)(L:kC)(Z:kF),xs=[.ref p]/\H p=some (.tup<|L.map V.ref)/\OJ X.K H L Z/\(Z.map (·.1)).Nodup/\∀l,H l=none->Q (.ref l) (upd H l<|.dK Z)):=by
 intro G3 s U H xs us Q I r h;obtain⟨p,L,Z,rfl,x,C,hn,q⟩:=h;obtain⟨u,rfl,c⟩:=vals1 r;cases c;obtain⟨w,G,r',d⟩:=(show VL X.prog X.w H s.heap p (.tup<|L.map V.ref)from I.hok p _ x);rw[ZA]at w
 have j:G.length=L.length:=by
  have:=r'.length;rw[ZA]at this;exact this.symm
 have G1:∀(i:Nat)(a:Addr),L[i]?=some a->G[i]?=some (Value.ref a):=λi a e=>by
  obtain⟨u,hu,c⟩:=r'.get (show(L.map V.ref)[i]?=some (V.ref a) by rw[ZH,e];rfl);rw[hu,show u=Value.ref a from c]
 obtain⟨vs,M,n⟩:=NL s.heap L Z C.1 λi a k y e1 e2=>by
  obtain⟨L1,r2,p2,_⟩:=I.tuple<|C.2 i a k y e1 e2
  cases r2 with
  |cons r1 t1=>
   cases t1 with
   |cons r3 t3=>
    cases t3;exact⟨_,_,p2,r1,r3⟩
 have J2:vs.length=G.toArray.size:=by rw[ZO,j,C.1,<-M.length]
 have B:vs.map (·.1)=Z.map (·.1):=by
  have G2:∀{l:kF}{m:List (Key×Value)},KV l m->m.map (·.1)=l.map (·.1):=by
   intro l m q
   induction q with
   |nil=>rfl
   |cons x t ih=>rw[ZV,ZV,ih,x.1]
  exact G2 M
 have S:p<s.heap.objs.size:=by
  obtain⟨o,e,_⟩:=d;exact ZP e
 refine callType_codes (Q₁:=λob t=>ob=.ref s.heap.objs.size/\t={s with heap:=s.heap.push {cls:=.type "dict",data:=.dict #[]}}) F.kt_called_dict (F.kt_typeCall_dict_1 _) F.entry_dict_init (kt_code_dict_new _ ⟨Y,Y⟩) λob t g=>?_;obtain⟨rfl,rfl⟩:=g;have J:(s.heap.push {cls:=.type "dict",data:=.dict #[]}).DictOf (Y8 X.prog X.w) s.heap.objs.size []:=Heap.DictOf.new s.heap;have k0:∀b o,s.heap.get? b=some o->(s.heap.push {cls:=.type "dict",data:=.dict #[]}).get? b=some o:=λb o e=>ZE _ e;refine And.intro J.typeIs<|And.intro (F.args_dict_init_2 _ _) ?_;delta Builtin.«dict.__init__» Builtin.Dict.selfAndRest;refine Zl<|Zl<|wpAny_notOrdered_dict J.typeIs<|Zm (?_:wpAny _ _ (Builtin.Dict.updateFrom "dict.__init__" s.heap.objs.size (.ref p) [] .none) _ _ _);delta Builtin.Dict.updateFrom;have R:=d.keeps k0;refine Zl<|jX (T:="tuple") (show Shared.TypeIs _ _ _ from let⟨o,O,_,h2,_⟩:=R;⟨o,O,h2⟩) ?_;rw[Zp (by decide)];refine Zl<|Lv R (I.ok.hd hc) λO M2 N=>?_;simp only[Option.isNone_none,if_true];refine Zl<|jf ?_;refine Zl<|wpAny_pyIter_tuple (show Heap.IsTuple _ _ _ from(R.keeps N).is) ?_
 have z:s.heap.objs.size<O.objs.size:=by
  obtain⟨o,es,ep,ho,_⟩:=J;exact ZP<|N _ _ ho
 have f:∀b o,s.heap.get? b=some o->(O.push {cls:=.type "tuple_iterator",data:=.fields #[.ref p,.int 0 0]}).get? b=some o:=λb o e=>ZE _<|N b o<|k0 b o e;refine Zm ⟨plainId_quiet Jn _,P7 (Walks.tuple (A:=X.A.in1.in1) (I.ok.hd hc) O.objs.size p (Ze<|qb S z) G.toArray) (h₀:=s.heap) (vs:=vs) J2 (by rw[<-M.length,<-C.1];exact w) (by rw[B];exact hn) ?_ s.heap.objs.size ?_ ?_ .none _ 0 _ 0 0 rfl (Zc _) ?_ ?_ f ?_⟩
 .intro i v hv
  have hi:i<G.length:=by
   have:=(Array.getElem?_eq_some_iff.mp hv).1
   rwa [ZO]at this
  have g:i<L.length:=by omega
  obtain⟨k,ku,vu,e1,e2,e3⟩:=n i L[i]<|ZD g;refine⟨L[i],k,ku,vu,?_,e1,e2,XM e3⟩;have:=G1 i L[i]<|ZD g;have E:G[i]?=some v:=by simpa using hv
  rw[this]at E;exact(ZT E).symm
 .intro P
  have two:s.heap.objs.size=O.objs.size\/s.heap.objs.size=p:=by simpa using P
  rcases two with e|e
  .exact Zr e (Ze z)
  .exact Zr e (vt S)
 .intro b o e
  have D:=ZP e;refine⟨λP=>?_,Ze D⟩;have e':b=O.objs.size:=by simpa using P
  rw[e']at D;exact Zr z<|Nat.not_lt_of_lt D
 .exact ⟨⟨_,ZY _ rfl,rfl,rfl⟩,(show Heap.IsTuple _ _ _ from(d.keeps f).is)⟩
 .obtain ⟨o,es,ep,ho,rest⟩:=J
  exact⟨o,es,ep,ZE _<|N _ _ ho,rest⟩
 .intro h' tk hd' hk'
  refine⟨Y,.ref s.heap.objs.size,_,I.laid (a:=s.heap.objs.size) (o:=.dK Z) (λb o e=>?_) (ZG _)<|Wd (by rw[<-C.1];exact w) (beq_eq_false_iff_ne.mpr<|Zs<|Ze I.big) M hd',rfl,q _<|I.hok.fresh<|ZG _⟩;have D:=ZP e;refine hk' b o (λP=>?_) (Ze D)<|f b o e;have e':b=O.objs.size:=by simpa using P
  rw[e']at D;exact Zr z<|Nat.not_lt_of_lt D
end
end L2
namespace L2
open PySem
def Yw(h:Has H v (.tup J)):∃p Z,v=.ref p/\H p=some (.tup Z)/\HasL H Z J:=by unfold Has at h;exact h
def Yu(h:H p=some (.tup xs))(t:HasL H xs Z):Has H (.ref p) (.tup Z):=by unfold Has;exact⟨p,xs,Y,h,t⟩
def has_str(h:Has H v (.str x)):v=.str x:=by unfold Has at h;exact h
def Y4:Has H (.str x) (.str x):=by unfold Has;rfl
def Yd(h:HasL H Z (d::J)):∃x r,Z=x::r/\Has H x d/\HasL H r J:=by
 match Z,h with
 |[],h=>unfold HasL at h;exact h.elim
 |x::r,h=>unfold HasL at h;exact⟨x,r,Y,h.1,h.2⟩
def VD(h:HasL H Z []):Z=[]:=by
 match Z,h with
 |[],_=>rfl
 |_::_,h=>unfold HasL at h;exact h.elim
theorem Bd.dats_map:∀Z:List Bd,Bd.dats Z=Z.map Bd.dat
 |[]=>by unfold Bd.dats;rfl
 |b::Z=>by unfold Bd.dats;rw[Bd.dats_map Z];rfl
abbrev Z9:=@Bd.dats_map
theorem Bd.brs_len:∀{bs:List Bd}{ts:ky},bs.length=ts.length->(Bd.brs bs ts).length=ts.length
 |[],[],_=>by unfold Bd.brs;rfl
 |[],_::_,e=>by simp at e
 |_::_,[],e=>by simp at e
 |b::bs,t::ts,e=>by
  unfold Bd.brs;rw[Zf,Bd.brs_len<|by simpa using e,Zf]
theorem Bd.brs_get:∀{bs:List Bd}{ts:ky}{j:Nat}{d:Dat},(Bd.brs bs ts)[j]?=some d->∃b t,bs[j]?=some b/\ts[j]?=some t/\d=.tup [.str t,b.dat]
 |[],ts,j,d,e=>by unfold Bd.brs at e;simp at e
 |_::_,[],j,d,e=>by unfold Bd.brs at e;simp at e
 |b::bs,t::ts,0,d,e=>by
  unfold Bd.brs at e;have Z:some _=some d:=e;cases Z;exact⟨b,t,Y,Y,Y⟩
 |b::bs,t::ts,j+1,d,e=>by
  unfold Bd.brs at e;exact Bd.brs_get (bs:=bs) (ts:=ts) (j:=j) e
mutual
def Bd.ok:Bd->Prop
 |.tag _=>True
 |.name _=>True
 |.pair a b=>a.ok/\b.ok
 |.one e=>e.ok
 |.other e=>e.ok
 |.choose e ts bs=>e.ok/\bs.length=ts.length/\(1<=ts.length/\ts.length<=7)/\Bd.oks bs
 |.ask _ as=>as.length<=6/\Bd.oks as
 |.letb _ _ e b=>e.ok/\b.ok
def Bd.oks:List Bd->Prop
 |[]=>True
 |b::bs=>b.ok/\Bd.oks bs
end
theorem Bd.oks_mem:∀{Z:List Bd}{b:Bd},Bd.oks Z->b∈Z->b.ok
 |[],_,_,h=>nomatch h
 |c::Z,b,w,h=>by
  unfold Bd.oks at w;rcases Zd.mp h with rfl|h
  .exact w.1
  .exact Bd.oks_mem w.2 h
def Bd.ok_parts{b:Bd}(h:b.ok):∀c∈b.parts,c.ok:=by
 intro c Z
 cases b with
 |tag t=>cases Z
 |name x=>cases Z
 |pair a e=>
  unfold Bd.ok at h;simp only[Bd.parts,Zd,qk,or_false]at Z;rcases Z with rfl|rfl
  .exact h.1
  .exact h.2
 |one e=>unfold Bd.ok at h;simp only[Bd.parts,ZQ]at Z;rw[Z];exact h
 |other e=>unfold Bd.ok at h;simp only[Bd.parts,ZQ]at Z;rw[Z];exact h
 |choose e J G=>
  unfold Bd.ok at h;simp only[Bd.parts,Zd]at Z;rcases Z with rfl|Z
  .exact h.1
  .exact Bd.oks_mem h.2.2.2 Z
 |ask f L=>unfold Bd.ok at h;exact Bd.oks_mem h.2 Z
 |letb x k e g=>
  unfold Bd.ok at h;simp only[Bd.parts,Zd,qk,or_false]at Z;rcases Z with rfl|rfl
  .exact h.1
  .exact h.2
def Bd.few{b:Bd}(h:b.ok):b.parts.length<=8:=by
 cases b <;> (try (simp[Bd.parts];done)) <;> (unfold Bd.ok at h;simp only[Bd.parts,Zf,jK];omega)
end L2
namespace K4
open PySem L2
def EE:Yh ["body","word"] ["body"] (Yc BY):=Y5
def Qa:List.Nodup [("tag":Str),"branch"]:=by decide +kernel
section
def Xf:Sp:=λJ H Q _=>∃(v:V)(b:Bd),J=[v]/\Has H v b.dat/\b.ok/\∀u Z,Same H Z->Has Z u (.tup<|Bd.dats b.parts)->Q u Z
def ok_parts(B:Blt mg)(F:Fun K "parts" "parts" BY f fd):Yf P w K mg base CX0 (n+1) f fd ["body"] Xf:=by
 refine F.oq EE λR7 A G2 s H I Q E hr h=>?_;obtain⟨v,b,rfl,O,ok,q⟩:=h;refine⟨_,YY (Yx 1 EE.nd<|Yo Yt (pv 0) Ya)
  (YY (Y1 (Yr U9 (pv 1) (Yi<|pa2 Yy Yy)<|by rfl) (YZ<|Ym<|Yi VP) Yp)
  (YY (Y1 (Yr VZ (pv 1) Yy<|Yz _) (YZ (Ym (Y9 MY (Yi<|pa1<|Yo Yt (pv 0) Ya) (VY JL rfl B.tuple JB (pa1 (JG ["tag","branch"] [] (UH<|Yo Yt (pv 0) Ya) Mj (λcl C fp s H=>Vd (n:=2) rfl (Ys (Yl 0 Qa rfl (Or.inl rfl) (Or.inr rfl))<|Ys (Yl 1 Qa rfl (Or.inl rfl) (Or.inr rfl)) VN))
     (λcl C fp s H=>pv 1))))))) Yp)
  (YY (Y1 (Yr VZ (pv 1) Yy<|Yz _) (YZ<|Ym<|Yo Yt (pv 0) Ya) Yp)
  (YY (Y1 (Yr VZ (pv 1) Yy<|Yz _) (YZ<|Ym<|Vz Id (pv 0) (JN Ya) JO) Yp)
  (YZ<|Ym<|Vz Id (pv 0) (JN Ya) JO))))),?_⟩
 show let a:=_;let b:=_;let c:=Yk (VE _ b _) a;let d:=_;let e:=Yk (VE _ d _) c;let f:=_;let g:=Yk (VE _ f _) e;let h:=_;let i:=Yk (VE _ h _) g;Yk _ i _ _ _
 intros
 cases b with
 |tag t=>
  unfold Bd.dat at O;obtain⟨p,xs,rfl,M,T⟩:=Yw O;obtain⟨r,m,rfl,D,G⟩:=Yd T;obtain rfl:=has_str D;exists _,_,Z2 M,VG (j:=0) Y;refine⟨sl 2,λN J=>?_⟩;refine⟨N,_,Y,.inr<|Z2 Ye,rfl,rfl,_,rfl,VH (by decide +kernel) ?_⟩;exact⟨sl 0,λu Z=>q _ _ ((Yq J _).trans<|Yq Z _)<|Yu Ye (by simp only[Bd.parts,Bd.dats];exact Z6)⟩
 |name x=>
  unfold Bd.dat at O;obtain⟨p,xs,rfl,M,T⟩:=Yw O;obtain⟨r,m,rfl,D,G⟩:=Yd T;obtain rfl:=has_str D;exists _,_,Z2 M,VG (j:=0) Y;refine⟨sl 2,λN J=>?_⟩;refine⟨N,_,Y,.inr<|Z2 Ye,rfl,rfl,_,rfl,VH (by decide +kernel) ?_⟩;exact⟨sl 0,λu Z=>q _ _ ((Yq J _).trans<|Yq Z _)<|Yu Ye (by simp only[Bd.parts,Bd.dats];exact Z6)⟩
 |pair a e=>
  unfold Bd.dat at O;obtain⟨p,xs,rfl,M,T⟩:=Yw O;obtain⟨r,m,rfl,D,G⟩:=Yd T;obtain rfl:=has_str D;exists _,_,Z2 M,VG (j:=0) Y;refine⟨sl 2,λN J=>?_⟩;have L:=Yq J<|.tup [V.str "tag",V.str "name"];refine⟨N,_,Y,.inr<|Z2 Ye,rfl,rfl,_,rfl,Y0 (by decide +kernel) ?_⟩;refine⟨Y,_,Y,Y0 (by decide +kernel) ?_⟩;refine⟨Y,_,Y,Y0 (by decide +kernel) ?_⟩;refine⟨Y,_,Y,Y0 (by decide +kernel) ?_⟩;refine⟨1,Y,p,_,Y,Z2<|L _ _ M,by simp[HT.sIx],λu Z=>q _ _ (L.trans<|Yq Z _)<|Yu (xs:=m) (by rw[Ye];simp[Uq,HT.sIx]) ?_⟩;exact(G.mono L).mono<|Yq Z _
 |one e=>
  unfold Bd.dat at O;obtain⟨p,xs,rfl,M,T⟩:=Yw O;obtain⟨r,m,rfl,D,G⟩:=Yd T;obtain rfl:=has_str D;exists _,_,Z2 M,VG (j:=0) Y;refine⟨sl 2,λN J=>?_⟩;have L:=Yq J<|.tup [V.str "tag",V.str "name"];refine⟨N,_,Y,.inr<|Z2 Ye,rfl,rfl,_,rfl,Y0 (by decide +kernel) ?_⟩;refine⟨Y,_,Y,Y0 (by decide +kernel) ?_⟩;refine⟨Y,_,Y,Y0 (by decide +kernel) ?_⟩;refine⟨Y,_,Y,Y0 (by decide +kernel) ?_⟩;refine⟨1,Y,p,_,Y,Z2<|L _ _ M,by simp[HT.sIx],λu Z=>q _ _ (L.trans<|Yq Z _)<|Yu (xs:=m) (by rw[Ye];simp[Uq,HT.sIx]) ?_⟩;exact(G.mono L).mono<|Yq Z _
 |other e=>
  unfold Bd.dat at O;obtain⟨p,xs,rfl,M,T⟩:=Yw O;obtain⟨r,m,rfl,D,G⟩:=Yd T;obtain rfl:=has_str D;exists _,_,Z2 M,VG (j:=0) Y;refine⟨sl 2,λN J=>?_⟩;have L:=Yq J<|.tup [V.str "tag",V.str "name"];refine⟨N,_,Y,.inr<|Z2 Ye,rfl,rfl,_,rfl,Y0 (by decide +kernel) ?_⟩;refine⟨Y,_,Y,Y0 (by decide +kernel) ?_⟩;refine⟨Y,_,Y,Y0 (by decide +kernel) ?_⟩;refine⟨Y,_,Y,Y0 (by decide +kernel) ?_⟩;refine⟨1,Y,p,_,Y,Z2<|L _ _ M,by simp[HT.sIx],λu Z=>q _ _ (L.trans<|Yq Z _)<|Yu (xs:=m) (by rw[Ye];simp[Uq,HT.sIx]) ?_⟩;exact(G.mono L).mono<|Yq Z _
 |choose e ts bs=>
  unfold Bd.dat at O;obtain⟨p,xs,rfl,M,T⟩:=Yw O;obtain⟨r,m,rfl,D,G⟩:=Yd T;obtain rfl:=has_str D;obtain⟨o,r2,rfl,h2,X⟩:=Yd G;obtain⟨x3,r3,rfl,h3,U⟩:=Yd X;obtain rfl:=VD U;obtain⟨pz,zs,rfl,G1,J2⟩:=Yw h3;unfold Bd.ok at ok;obtain⟨o1,o2,o3,o4⟩:=ok;have lz:=J2.length;rw[Bd.brs_len o2]at lz;exists _,_,Z2 M,VG (j:=0) Y;refine⟨sl 2,λN J=>?_⟩;have L:=Yq J<|.tup [V.str "tag",V.str "name"];refine⟨N,_,Y,.inr<|Z2 Ye,rfl,rfl,_,rfl,Y0 (by decide +kernel) ?_⟩;refine⟨Y,_,Y,VH (by decide +kernel) ?_⟩;refine⟨_,_,Z2<|L _ _ M,rfl,sl 1,λu Z=>?_⟩;have s2:=Yq Z<|.tup [o];have sA:=L.trans s2;exists _,_,Z2<|sA _ _ M,rfl,⟨_,Z2<|sA _ _ G1⟩;have S:=sA _ _ G1;refine Vh zs.length (Yj<|by omega) (λj I H'=>H'=upd (upd H N<|.tup [V.str "tag",V.str "name"]) u (.tup [o])/\I.length=j/\HasL H I ((bs.map Bd.dat).take j)) ⟨rfl,rfl,Z6⟩ (λj I H' z=>z.2.1) ?_ ?_ ?_ ?_
  .rintro j I H' hj ⟨rfl,_⟩
   exact⟨zs,zs[j],Z2 S,by simp[hj]⟩
  .rintro I H' ⟨rfl,_⟩
   exact⟨zs,Z2 S,ZG _⟩
  .rintro j I H' x H3 R hj ⟨rfl,z2,z3⟩ yl hR
   obtain⟨rfl,y⟩:=yl;obtain⟨d,hd,O1⟩:=J2.get<|y zs<|Z2 S;obtain⟨b,t0,R5,R6,rfl⟩:=Bd.brs_get hd;obtain⟨pp,ys,rfl,R1,G3⟩:=Yw O1;obtain⟨y1,r4,rfl,h4,M2⟩:=Yd G3;obtain⟨y2,r5,rfl,h5,L1⟩:=Yd M2;obtain rfl:=VD L1;exists _,Z2<|sA _ _ R1,rfl;refine hR _ _ ⟨Y,by rw[ZL,z2];rfl,?_⟩;rw[List.take_add_one,ZH,R5];exact Z7 z3<|Z5 h5
  .rintro I H' l ⟨rfl,z2,z3⟩ hl3
   have s3:=Yq hl3<|.lst I;refine⟨l,_,Y,.inl ⟨Z3 Ye,λl4 R4=>?_⟩⟩;have s4:=Yq R4<|.tup I;have sB:=(sA.trans s3).trans s4;rw[Zg (by rw[ZA];omega)]at z3;have e1:Bd.dats (Bd.choose e ts bs).parts=e.dat::bs.map Bd.dat:=by rw[Z9];rfl
   refine⟨u,l4,[o],I,Y,Y,Z2<|s4 _ _<|s3 _ _ Ye,Z2 Ye,by simp,Zh (Yj (by simp only[yg];omega)),λe0=>?_,λ_ p5 R3=>?_⟩
   .refine q _ _ sB ?_
    rw[e1];subst e0
    have hb:bs=[]:=by
     have:=z3.length;simpa using this.symm
    rw[hb];exact Yu (s4 _ _<|s3 _ _ Ye)<|Z5<|h2.mono sB
   .have s5:=Yq R3<|.tup<|[o]++ I
    refine q _ _ (sB.trans s5) ?_;rw[e1];exact Yu Ye<|Z4 (h2.mono<|sB.trans s5)<|z3.mono<|sB.trans s5
 |ask g as=>
  unfold Bd.dat at O;obtain⟨p,xs,rfl,M,T⟩:=Yw O;obtain⟨r,m,rfl,D,G⟩:=Yd T;obtain rfl:=has_str D;obtain⟨o,r2,rfl,h2,X⟩:=Yd G;obtain⟨x3,r3,rfl,h3,U⟩:=Yd X;exists _,_,Z2 M,VG (j:=0) Y;refine⟨sl 2,λN J=>?_⟩;have L:=Yq J<|.tup [V.str "tag",V.str "name"];refine⟨N,_,Y,.inr<|Z2 Ye,rfl,rfl,_,rfl,Y0 (by decide +kernel) ?_⟩;refine⟨Y,_,Y,Y0 (by decide +kernel) ?_⟩;refine⟨Y,_,Y,VH (by decide +kernel) ?_⟩;exact⟨_,_,Z2<|L _ _ M,VG (j:=2) rfl,q _ _ L<|h3.mono L⟩
 |letb x k e g=>
  unfold Bd.dat at O;obtain⟨p,xs,rfl,M,T⟩:=Yw O;obtain⟨r,m,rfl,D,G⟩:=Yd T;obtain rfl:=has_str D;obtain⟨o,r2,rfl,h2,X⟩:=Yd G;obtain⟨x3,r3,rfl,h3,U⟩:=Yd X;have lr:=U.length;exists _,_,Z2 M,VG (j:=0) Y;refine⟨sl 2,λN J=>?_⟩;have L:=Yq J<|.tup [V.str "tag",V.str "name"];refine⟨N,_,Y,.inr<|Z2 Ye,rfl,rfl,_,rfl,Y0 (by decide +kernel) ?_⟩;refine⟨Y,_,Y,Y0 (by decide +kernel) ?_⟩;refine⟨Y,_,Y,Y0 (by decide +kernel) ?_⟩;refine⟨Y,_,Y,VH (by decide +kernel) ?_⟩;refine⟨3,Y,p,_,Y,Z2<|L _ _ M,by simp[HT.sIx],λu Z=>q _ _ (L.trans<|Yq Z _)<|Yu (xs:=r3) (by rw[Ye];simp[Uq,HT.sIx]) ?_⟩;exact(U.mono L).mono<|Yq Z _
end
end K4
namespace L2
open PySem
def Bd.at:Bd->List Int->Option Bd
 |b,[]=>some b
 |b,i::r=>if 0<=i then(match b.parts[i.toNat]? with|some c=>Bd.at c r|none=>none)else none
end L2
namespace K4
open PySem L2
end K4
namespace L2
open PySem PySem.Spec PyProof.Rows
mutual
def Bd.size:Bd->Nat
 |.tag _=>1
 |.name _=>1
 |.pair a b=>1+(a.size+b.size)
 |.one e=>1+e.size
 |.other e=>1+e.size
 |.choose e _ bs=>1+(e.size+Bd.sizes bs)
 |.ask _ as=>1+Bd.sizes as
 |.letb _ _ e b=>1+(e.size+b.size)
def Bd.sizes:List Bd->Nat
 |[]=>0
 |b::bs=>b.size+Bd.sizes bs
end
mutual
def Bd.dep:Bd->Nat
 |.tag _=>0
 |.name _=>0
 |.pair a b=>1+max a.dep b.dep
 |.one e=>1+e.dep
 |.other e=>1+e.dep
 |.choose e _ bs=>1+max e.dep (Bd.deps bs)
 |.ask _ as=>1+Bd.deps as
 |.letb _ _ e b=>1+max e.dep b.dep
def Bd.deps:List Bd->Nat
 |[]=>0
 |b::bs=>max b.dep<|Bd.deps bs
end
def Bd.size_eq(b:Bd):b.size=1+Bd.sizes b.parts:=by
 cases b <;> simp[Bd.size,Bd.sizes,Bd.parts]
theorem Bd.deps_mem:∀{Z:List Bd}{b:Bd},b∈Z->b.dep<=Bd.deps Z
 |[],_,h=>nomatch h
 |c::Z,b,h=>by
  unfold Bd.deps;rcases Zd.mp h with rfl|h
  .exact vq _ _
  .exact Zb (Bd.deps_mem h) (vo _ _)
def Bd.dep_mem{b c:Bd}(h:c∈b.parts):c.dep<b.dep:=by
 have Z:=Bd.deps_mem h;cases b <;> simp only[Bd.parts,Bd.deps,Bd.dep,qk]at * <;> first|exact h.elim|omega
end L2
namespace K4
open PySem L2
end K4
namespace L2
open PySem
abbrev Hds:=Str->Option (List (Str×Str)×Str)
inductive Kd(ks:List (Str×Shp))(hd:Hds):List (Key×V)->Str->Bd->Prop
 |tag {g:List (Key×V)}{y t:Str}{ts:List Str}:Va ks y=some (.tags ts)->t∈ts->Kd ks hd g y (.tag t)
 |name {g:List (Key×V)}{y x:Str}:VC g (Sum.inr x)=some (.str y)->Kd ks hd g y (.name x)
 |pair {g:List (Key×V)}{y a b:Str}{A B:Bd}:Va ks y=some (.pair a b)->Kd ks hd g a A->Kd ks hd g b B->Kd ks hd g y (.pair A B)
 |one {g:List (Key×V)}{y z b:Str}{e:Bd}:Va ks z=some (.pair y b)->Kd ks hd g z e->Kd ks hd g y (.one e)
 |other {g:List (Key×V)}{y z a:Str}{e:Bd}:Va ks z=some (.pair a y)->Kd ks hd g z e->Kd ks hd g y (.other e)
 |choose {g:List (Key×V)}{y z:Str}{ts:List Str}{e:Bd}{bs:List Bd}:Va ks z=some (.tags ts)->Kd ks hd g z e->bs.length=ts.length->(∀b∈bs,Kd ks hd g y b)->Kd ks hd g y (.choose e ts bs)
 |ask {g:List (Key×V)}{y f:Str}{ps:List (Str×Str)}{as:List Bd}:hd f=some (ps,y)->as.length=ps.length->(∀(i:Nat)(a:Bd)(p:Str×Str),as[i]?=some a->ps[i]?=some p->Kd ks hd g p.2 a)->Kd ks hd g y (.ask f as)
 |letb {g:List (Key×V)}{y x z:Str}{e b:Bd}:VC g (Sum.inr x)=none->z∈ks.map (·.1)->Kd ks hd (putK g (Sum.inr x) (.str z)) z e->Kd ks hd (putK g (Sum.inr x) (.str z)) y b->Kd ks hd g y (.letb x z e b)
def hdD(ps:List (Str×Str))(k:Str):Dat:=.tup [.tup (ps.map λp=>.tup [.str p.1,.str p.2]),.str k]
def AS(Z:List (Str×Str))(k:Str):(hdD Z k).st=true:=by
 have:∀Z:List (Str×Str),Dat.sts (Z.map λp=>Dat.tup [.str p.1,.str p.2])=true:=by
  intro Z
  induction Z with
  |nil=>unfold List.map Dat.sts;rfl
  |cons p Z ih=>rw[ZV];unfold Dat.sts;rw[ih];simp[Dat.st,Dat.sts]
 simp[hdD,Dat.st,Dat.sts,this]
theorem Er:∀{Z:List Bd}{J:ky},Dat.sts (Bd.dats Z)=true->Dat.sts (Bd.brs Z J)=true
 |[],_,_=>by unfold Bd.brs Dat.sts;rfl
 |b::Z,[],_=>by unfold Bd.brs Dat.sts;rfl
 |b::Z,t::J,h=>by
  unfold Bd.dats Dat.sts at h;rw[ZZ]at h;unfold Bd.brs Dat.sts;rw[Er h.2];simp[Dat.st,Dat.sts,h.1]
mutual
theorem Bd.st:∀b:Bd,b.dat.st=true
 |.tag t=>by simp[Bd.dat,Dat.st,Dat.sts]
 |.name t=>by simp[Bd.dat,Dat.st,Dat.sts]
 |.pair a b=>by simp[Bd.dat,Dat.st,Dat.sts,Bd.st a,Bd.st b]
 |.one a=>by simp[Bd.dat,Dat.st,Dat.sts,Bd.st a]
 |.other a=>by simp[Bd.dat,Dat.st,Dat.sts,Bd.st a]
 |.choose e G Z=>by simp[Bd.dat,Dat.st,Dat.sts,Bd.st e,Er (Bd.sts Z)]
 |.ask f J=>by simp[Bd.dat,Dat.st,Dat.sts,Bd.sts J]
 |.letb x k e b=>by simp[Bd.dat,Dat.st,Dat.sts,Bd.st e,Bd.st b]
theorem Bd.sts:∀Z:List Bd,Dat.sts (Bd.dats Z)=true
 |[]=>by unfold Bd.dats Dat.sts;rfl
 |b::Z=>by unfold Bd.dats Dat.sts;rw[Bd.st b,Bd.sts Z];rfl
end
def IJ{Z:kF}(h:VC Z k=some v):∃J∈Z,J.1=k/\J.2=v:=by
 unfold VC at h
 cases e:Z.find? (λJ=>decide<|J.1=k)with
 |none=>rw[e]at h;cases h
 |some J=>
  rw[e]at h;exact⟨J,yp e,by simpa using List.find?_some e,ZT h⟩
theorem U4:∀Z:ky,HasL H (Z.map V.str)<|Z.map Dat.str
 |[]=>Z6
 |n::Z=>Z4 Y4<|U4 Z
def Cp{Z:ky}(h:H a=some (.lst<|Z.map V.str)):Has H (.ref a) (.lst<|Z.map Dat.str):=Pk h<|U4 Z
def M9(Z:ky):(Dat.lst<|Z.map Dat.str).dep<=1:=by
 have:∀Z:ky,Dat.deps (Z.map Dat.str)=0:=by
  intro Z
  induction Z with
  |nil=>unfold List.map Dat.deps;rfl
  |cons n Z ih=>rw[ZV];unfold Dat.deps;rw[ih];unfold Dat.dep;rfl
 unfold Dat.dep;rw[this];decide
def OW(h:H r=some (.tup [.str a,.str b])):Has H (.ref r) (.tup [.str a,.str b]):=Yu h<|Z4 Y4<|Z4 Y4 Z6
def JJ.sm(s:JJ H p)(e:Same H Z):JJ Z p:=let⟨a,b,c,d,h⟩:=s;⟨a,b,c,d,e _ _ h⟩
end L2
namespace K4
open PySem L2
section
variable{P:Program}{w:World}{K:W.Frag}{mg:Str->Option Value}{base:Heap}
def Df(P:Program)(w:World)(K:W.Frag)(mg:Str->Option Value)(base:Heap)(n:Nat)(x:Str)(ps:ky)(sp:Sp):Prop:=
 ∃(g:Addr)(Z:FuncData),mg x=some (.ref g)/\W.keepIn K (.ref g)=true/\Binds K Z ps []/\Yf P w K mg base CX0 n g Z ps sp
def VS{X:Cx}(D:Df X.prog X.w X.K X.mg X.base k x B M)(N:Vo k X.A)(T:PA X (e::Z) t)(O:Gl X x:=by exact Y)(L:(x==("__debug__":Str))=false:=by decide)(R:starEach (e::Z) X.env=(false,eval e X.env)::starEach Z X.env:=by rfl)(J:(backTo pos<|starEach Z X.env).any (·.1)=false:=by rfl):
  PE X (.Call (.Name x p) (e::Z) [] pos) (M6 M [] E0 t):=let⟨_,_,m,k,b,G⟩:=D;Jd G N O m k b .nil Y2 T L R J
def Df.up(d:Df P w K mg base n x J Z)(h:n<=m):Df P w K mg base m x J Z:=
 let⟨g,O,N,M,L,G⟩:=d;⟨g,O,N,M,L,G.mono h⟩
end
end K4
namespace L2
open PySem
end L2
namespace K4
open PySem L2
end K4
namespace L2
open PySem
def Xu(h:Has H v (.tup [.str a,.str b])):∃t,v=.ref t/\H t=some (.tup [.str a,.str b]):=by
 obtain⟨t,O,rfl,G,L⟩:=Yw h;obtain⟨T,D,rfl,N,J⟩:=Yd L;obtain⟨R,B,rfl,M,Z⟩:=Yd J;obtain rfl:=VD Z;obtain rfl:=has_str N;obtain rfl:=has_str M;exact⟨t,Y,G⟩
end L2
namespace K4
open PySem L2
end K4
namespace L2
open PySem
def Same.putN(s:Same H0 H)(h:H0 p=none):Same H0 (upd H p o):=λb u e=>by
 rw[Yg (Yb e h)];exact s b u e
end L2
namespace K4
open PySem L2
end K4
namespace L2
open PySem PySem.Spec PyProof.Rows
section
def Dp:Jt X (.type "dict") (λL H Q=>∃a Z,L=[.ref a]/\Rd H a (.dK Z)/\∀l,H l=none->Q (.ref l) (upd H l<|.dK Z)):=by
 intro N s U H L A Q I r h;obtain⟨a,Z,rfl,E,q⟩:=h;obtain⟨u,rfl,T⟩:=vals1 r;cases T;obtain⟨O,B,F,M,D⟩:=Wu I.hok E;have J:=M.length;refine kt_call_dict (knd:=Y8 X.prog X.w) B D (by rw[<-J];exact O) λS G R=>?_;refine⟨.ref s.heap.objs.size,_,I.laid (a:=s.heap.objs.size) (o:=.dK Z) (λb o e=>?_) (ZG _)<|Wd O (beq_eq_false_iff_ne.mpr<|Zs<|Ze I.big) M G,rfl,q _<|I.hok.fresh<|ZG _⟩;exact(R.2 b<|Ze<|ZP e).trans<|ZE _ e
end
end L2
namespace L2
open PySem
def KH{Z:kF}(h:J∈putK Z k v):J∈Z\/J=(k,v):=by
 unfold putK at h
 split at h
 .obtain ⟨q,hq,e⟩:=ZW.mp h
  by_cases z:q.1=k
  .rw [Zp z]at e;exact .inr<|by rw[<-e,z]
  .rw [Zq z]at e;exact .inl (by rw[<-e];exact hq)
 .rcases ZX.mp h with h|h
  .exact .inl h
  .exact .inr (ZQ.mp h)
def NI(Z:kF)(k:Key)(v:V):(putK Z k v).length<=Z.length+1:=by
 unfold putK
 split
 .rw [ZA];omega
 .rw [ZL];exact ZG _
end L2
namespace K4
open PySem L2
end K4
namespace L2
open PySem
abbrev Hd:=Str×List (Str×Str)×Str
def WdS(y:Str):Prop:=1<=y.length/\y.length<=8/\∀c∈y.cps.toList,97<=c/\c<97+26
def V4(c:kP)(ps:List (Str×Str)):Nat:=ps.foldl (λr p=>r*c p.2) 1
def Gu(c:kP)(Z:List (Str×Str))(p:Str×Str):V4 c (Z++[p])=V4 c Z*c p.2:=by unfold V4;rw[jy];rfl
structure Fq(ns:List Str)(c:Str->Nat)(top:Nat)(h:Hd):Prop where
 len:h.2.1.length<=3
 kin:∀p∈h.2.1,p.2∈ns
 own:h.2.2∈ns
 nd:(h.2.1.map (·.1)).Nodup
 spl:∀p∈h.2.1,WdS p.1
 rows:V4 c h.2.1<=top
def Rj{Z:kF}(h:k∉Z.map (·.1)):VC Z k=none:=by
 unfold VC
 rw[jr.mpr (λJ G=>by
  intro z;exact h<|ZW.mpr ⟨J,G,Zt z⟩)]
 rfl
def RH{Z:ky}(J:Z.Nodup)(h:Z[i]?=some y):y∉Z.take i:=by
 have e:=take_snoc h;have s:(Z.take i++[y]).Nodup:=by rw[<-e];exact J.sublist<|vv _ _
 exact λz=>(vx.mp s).2.2 y z y (ZQ.mpr Y) Y
def Wds.wdS(w:Wds 97 Z)(h:y∈Z):WdS y:=⟨(w.len y h).1,(w.len y h).2,w.abc y h⟩
def JJ.at(s:JJ H p):∃Z,H p=some (.lst Z):=let⟨_,_,_,_,h⟩:=s;⟨_,h⟩
end L2
namespace K4
open PySem L2
end K4
namespace L2
open PySem
theorem KL:∀{G:List (Str×Str)}{Z:kH},HasL H Z (G.map λp=>.tup [.str p.1,.str p.2])->∃(J:kC),Z=J.map V.ref/\OJ K H J (G.map λp=>((Sum.inr p.1:Key),V.str p.2))
 |[],Z,h=>by
  obtain rfl:=VD h;exact⟨[],Y,Y,λi a k y e=>by simp at e⟩
 |q::G,Z,h=>by
  rw[ZV]at h;obtain⟨x,r,rfl,E,D⟩:=Yd h;obtain⟨t,rfl,B⟩:=Xu E;obtain⟨J,rfl,T,R⟩:=KL (K:=K) D;refine⟨t::J,Y,by simp[T],λi b k y O N=>?_⟩
  cases i with
  |zero=>
   have M:some t=some b:=O;have L:some ((Sum.inr q.1:Key),V.str q.2)=some (k,y):=N;cases M;cases L;exact Z2 B
  |succ i=>exact R i b k y O N
abbrev Dd:=Hd×Bd
def Uz(x:Dd):Dat:=.tup [.str x.1.1,.tup<|x.1.2.1.map λp=>.tup [.str p.1,.str p.2],.str x.1.2.2,x.2.dat]
def kvP(ps:List (Str×Str)):kF:=ps.map λp=>((Sum.inr p.1:Key),V.str p.2)
def Vv(hs:List Hd):Hds:=λf=>(hs.find? λh=>decide<|h.1=f).map (·.2)
def EJ(J:List (Str×Str)):Dat.sts (J.map λp=>Dat.tup [.str p.1,.str p.2])=true:=by
 have:=AS J "";unfold hdD Dat.st Dat.sts at this;rw[ZZ]at this;have Z:=this.1;unfold Dat.st at Z;exact Z
def LU(J:(Z.map (·.1)).Nodup)(m:h∈Z):Vv Z h.1=some h.2:=by
 induction Z with
 |nil=>exact nomatch m
 |cons g Z ih=>
  rw[ZV,vK]at J;unfold Vv;rw[vc];rcases Zd.mp m with e|e
  .subst e;simp
  .have ne:¬g.1=h.1:=λq=>J.1 (by rw[q];exact ZW.mpr ⟨_,e,Y⟩)
   rw[Zy ne];exact ih J.2 e
theorem D8:∀{Z:kF},(Z.map (·.1)).Nodup->∀{J:Key×V},J∈Z->VC Z J.1=some J.2
 |[],_,J,m=>nomatch m
 |g::Z,nd,J,m=>by
  rw[ZV,vK]at nd;unfold VC;rw[vc];rcases Zd.mp m with e|e
  .subst e;simp
  .have ne:¬g.1=J.1:=λq=>nd.1 (by rw[q];exact ZW.mpr ⟨_,e,Y⟩)
   rw[Zy ne];exact D8 nd.2 e
def JJ.tkB(s:JJ H p)(b:SameB p H Z):TK H Z:=λc J h=>b c _ (M0 s h) h
end L2
namespace K4
open PySem L2
end K4
namespace L2
open PySem
def Kr(ks:kO)(hd:Hds)(kv:kF)(y:Str):Bd->List Str->Prop
 |.tag t,zs=>zs=[]/\∃ts,Va ks y=some (.tags ts)/\t∈ts
 |.name x,zs=>zs=[]/\VC kv (Sum.inr x)=some (.str y)
 |.pair _ _,zs=>∃a b,zs=[a,b]/\Va ks y=some (.pair a b)
 |.one _,zs=>∃z b,zs=[z]/\Va ks z=some (.pair y b)
 |.other _,zs=>∃z a,zs=[z]/\Va ks z=some (.pair a y)
 |.choose _ ts bs,zs=>∃z,zs=z::List.replicate bs.length y/\Va ks z=some (.tags ts)/\bs.length=ts.length
 |.ask f _,zs=>∃ps:List (Str×Str),hd f=some (ps,y)/\zs=ps.map (·.2)
 |.letb x z _ _,zs=>zs=[z,y]/\VC kv (Sum.inr x)=none/\z∈ks.map (·.1)
def wth(kv:kF):Bd->List (Key×V)
 |.letb x z _ _=>putK kv (Sum.inr x)<|.str z
 |_=>kv
def Kd.inv(h:Kd T B R y b):
  ∃N,Kr T B R y b N/\N.length=b.parts.length/\∀(i:Nat)(p:Bd)(z:Str),b.parts[i]?=some p->N[i]?=some z->Kd T B (wth R b) z p:=by
 cases h with
 |tag G L=>exact⟨[],⟨Y,_,G,L⟩,Y,λi p z e=>nomatch e⟩
 |name G=>exact⟨[],⟨Y,G⟩,Y,λi p z e=>nomatch e⟩
 |pair G L M=>
  refine⟨_,⟨_,_,Y,G⟩,Y,λi p z J Z=>?_⟩;rcases i with _|_|i
  .cases J;cases Z;exact L
  .cases J;cases Z;exact M
  .exact nomatch J
 |one G L=>
  refine⟨_,⟨_,_,Y,G⟩,Y,λi p z J Z=>?_⟩;rcases i with _|i
  .cases J;cases Z;exact L
  .exact nomatch J
 |other G L=>
  refine⟨_,⟨_,_,Y,G⟩,Y,λi p z J Z=>?_⟩;rcases i with _|i
  .cases J;cases Z;exact L
  .exact nomatch J
 | @choose _ _ I S e D G L M O=>
  refine⟨_,⟨_,Y,G,M⟩,by simp[Bd.parts],λi p z J Z=>?_⟩;rcases i with _|i
  .cases J;cases Z;exact L
  .have m:=ZJ (show D[i]?=some p from J)
   have A:(List.replicate D.length y)[i]?=some z:=Z;have F:=ZJ A;cases List.eq_of_mem_replicate F;exact O p m
 | @ask _ _ f E U G L M=>
  refine⟨_,⟨_,G,Y⟩,by rw[ZA];exact L.symm,λi p z J Z=>?_⟩;rw[ZH]at Z
  cases ep:E[i]? with
  |none=>rw[ep]at Z;cases Z
  |some q=>
   rw[ep]at Z;cases Z;exact M i p q J ep
 |letb G L M O=>
  refine⟨_,⟨Y,G,L⟩,Y,λi p z J Z=>?_⟩;rcases i with _|_|i
  .cases J;cases Z;exact M
  .cases J;cases Z;exact O
  .exact nomatch J
end L2
namespace L2
open PySem
end L2
namespace K4
open PySem L2
section
def W3:Sp:=λJ H Q _=>∃(x:Str)(o:Nat),J=[.str x,.str (alpha o)]/\(o=97\/o=65)/\1<=x.length/\x.length<=8/\(∀c∈x.cps.toList,o<=c/\c<o+26)/\∀Z,Same H Z->Q (.bl true) Z
def Of:Yh ["text","letters"] ["text","letters"] (Yc BW):=Y5
def Cc:List.Nodup [("sign":Str),"letters"]:=by decide +kernel
def Kj(B:Blt M)(F:Fun K "is_spelt" "is_spelt" BW f y)(X:M "LONGEST"=some u)(N:RelV (.int 8) u):Yf P w K M base CX0 (n+1) f y ["text","letters"] W3:=by
 refine F.oq Of λk A G s H Z Q E b h=>?_;obtain⟨x,o,rfl,I,l,r,U,q⟩:=h;refine⟨_,YY (Y1 (Jk<|JR<|G0 rfl B.isi rfl B.str Wj (pv 0)) (YZ<|Ym Xn) Yp)
  (YZ (Ym (WO (KY Xp Xp Ya (VA Ms rfl B.len Zu (pa1<|pv 0))<|JF rfl X N)
   (XW (VA (To rfl) rfl B.all Wl (pa1 (JG ["sign"] [1] (Sf<|pv 0) (Vk (i:=0)<|by decide)
    (λg C j s H=>Yl 0 Cc rfl (Or.inl rfl) (Or.inr rfl)) (λg C j s H=>Jc FJ (pv 0) (pv 1) rfl)))))))),?_⟩
 exists _,_,_,_,Y,.str x,TH K "str",_,Y;refine Y0 (by simp) ?_;have T:x.length<=sizeLine:=Zh (Yj<|by omega);exists x,Y,T,_,Y;refine VH (by simp;omega) ?_;exists _,Y;refine VH (by simp;omega) ?_;exists x,Y;have d:x.cps.size=x.length:=rfl;refine Vh x.length (Yj<|by omega) (λi Z J=>Same H J/\Z=List.replicate i (V.bl true)) ⟨Z8 _,rfl⟩ (λi Z J z=>by rw[z.2];simp) ?_ ?_ ?_ ?_
 .intro i Z J hi z
  exact hi
 .intro Z J z
  exact ZG _
 .intro i Z J v H'' R hi z yl hR
  obtain⟨rfl,c,L,rfl⟩:=yl;exists _,_,Y,Y
  have S:c∈x.cps.toList:=by
   have:=Array.mem_of_getElem? L;exact Array.mem_toList_iff.mpr this
  obtain⟨D,O,m⟩:=K1 I<|U c S;have t:Builtin.Str.occurrences (alpha o) ⟨#[c]⟩ 0 (alpha o).length 1=D::O:=m;rw[t];exact hR _ _ ⟨z.1,by rw[z.2,List.replicate_succ'];rfl⟩
 .intro Z J p z hp
  refine⟨p,List.replicate x.length true,Y,Z3 (by rw[Ye,z.2,List.map_replicate]),?_⟩;rw[show(List.replicate x.length true).all id=true by simp];exact q _<|z.1.trans<|Yq hp _
def Ut(o:Nat):Sp:=λJ H Q _=>∃(x:Str),J=[.str x]/\1<=x.length/\x.length<=8/\(∀c∈x.cps.toList,o<=c/\c<o+26)/\∀Z,Same H Z->Q (.bl true) Z
def Ik:Yh ["text"] ["text"] (Yc MM):=Y5
def FO(F:Fun K "is_name" "is_name" MM f S)(G:Yf P w K J base CX0 n g I ["text","letters"] W3)(C:Binds K I ["text","letters"] [])(R:W.keepIn K (.ref g)=true)(M:J "is_spelt"=some (.ref g))(D:J "SMALL"=some u)(L:RelV (.str<|Str.ofString "abcdefghijklmnopqrstuvwxyz") u):Yf P w K J base CX0 (n+1) f S ["text"] (Ut 97):=by
 refine F.oq Ik λU A Z s H X Q E T h=>?_;obtain⟨x,rfl,O,N,B,q⟩:=h;exists _,YZ<|Ym<|Jd G T rfl M R C .nil Y2 (pa2 (pv 0)<|JF rfl D L);refine⟨x,97,?_,.inl Y,O,N,B,q⟩;rw[<-RC];rfl
def On:Yh ["text"] ["text"] (Yc Bi):=Y5
def Ku(F:Fun K "is_tag" "is_tag" Bi f S)(G:Yf P w K J base CX0 n g I ["text","letters"] W3)(C:Binds K I ["text","letters"] [])(R:W.keepIn K (.ref g)=true)(M:J "is_spelt"=some (.ref g))(D:J "GREAT"=some u)(L:RelV (.str<|Str.ofString "ABCDEFGHIJKLMNOPQRSTUVWXYZ") u):Yf P w K J base CX0 (n+1) f S ["text"] (Ut 65):=by
 refine F.oq On λU A Z s H X Q E T h=>?_;obtain⟨x,rfl,O,N,B,q⟩:=h;exists _,YZ<|Ym<|Jd G T rfl M R C .nil Y2 (pa2 (pv 0)<|JF rfl D L);refine⟨x,65,?_,.inr Y,O,N,B,q⟩;rw[<-RQ];rfl
end
end K4
namespace L2
open PySem
def Xa(ks:kO):Nat->Str->Nat
 |0,_=>0
 |n+1,y=>match Va ks y with
  |none=>0
  |some (.tags _)=>1
  |some (.pair a b)=>1+Xa ks n a+Xa ks n b
def JK(t:Str):Shp->Bool
 |.tags ts=>decide<|t∈ts
 |.pair _ _=>false
def V2(a b:Str):Shp->Bool
 |.tags _=>false
 |.pair c e=>decide (c=a) && decide (e=b)
def JE(ks:kO)(t:Str):Option Str:=(ks.find? λk=>JK t k.2).map (·.1)
def Vt(ks:kO)(a b:Str):Option Str:=(ks.find? λk=>V2 a b k.2).map (·.1)
def XF{α:Type}(p:α->Bool)(l:List α)(x:α):(l++[x]).find? p=(l.find? p).or (if p x=true then some x else none):=by
 rw[List.find?_append]
 congr 1
 rw[vc];cases p x <;> simp
def WG(h:z∈Z.map (·.1)):Va (Z++[x]) z=Va Z z:=by
 obtain⟨s,J⟩:=JM h;unfold Va at J |-;rw[XF]
 cases e:Z.find? λk=>decide (k.1=z)with
 |none=>rw[e]at J;cases J
 |some k=>rfl
def E9(h:z∉Z.map (·.1)):Va Z z=none:=by
 cases e:Va Z z with
 |none=>rfl
 |some s=>exact Zr (ZW.mpr ⟨_,Xh e,Y⟩) h
def Gk(h:z∉Z.map (·.1)):Va (Z++[(z,s)]) z=some s:=by
 have q:=E9 h;unfold Va at q |-;rw[XF]
 cases e:Z.find? λk=>decide (k.1=z)with
 |none=>simp
 |some k=>rw[e]at q;cases q
theorem Jl(h:KK top c d Z)(x:Str×Shp):∀(n:Nat)(z:Str),z∈Z.map (·.1)->Y3 (Z++[x]) n z=Y3 Z n z
 |0,_,_=>rfl
 |n+1,z,hz=>by
  obtain⟨s,J⟩:=JM hz;rw[X6 J,X6 ((WG hz).trans J)]
  cases s with
  |tags M=>rfl
  |pair a b=>
   obtain⟨L,G,_⟩:=h.at J;show(W.non::_)=(W.non::_);rw[Jl h x n a L,Jl h x n b G]
def hOf(ks:kO)(n:Nat):Shp->Nat
 |.tags _=>1
 |.pair a b=>1+Xa ks n a+Xa ks n b
def Xs(h:Va Z y=some s):Xa Z (n+1) y=hOf Z n s:=by
 conv=>lhs;unfold Xa
 rw[h];cases s <;> rfl
theorem UW(h:KK top c d Z)(x:Str×Shp):∀(n:Nat)(z:Str),z∈Z.map (·.1)->Xa (Z++[x]) n z=Xa Z n z
 |0,_,_=>rfl
 |n+1,z,hz=>by
  obtain⟨s,J⟩:=JM hz;rw[Xs J,Xs ((WG hz).trans J)]
  cases s with
  |tags M=>rfl
  |pair a b=>
   obtain⟨L,G,_⟩:=h.at J;show 1+_+_=1+_+_;rw[UW h x n a L,UW h x n b G]
theorem XD(h:KK top c d Z):∀(n m:Nat)(y:Str),y∈Z.map (·.1)->d y<n->d y<m->Xa Z n y=Xa Z m y
 |0,_,_,_,h1,_=>Zr h1<|Zw _
 |_+1,0,_,_,_,h2=>Zr h2<|Zw _
 |n+1,m+1,y,hy,h1,h2=>by
  obtain⟨s,J⟩:=JM hy;have M:=h.at J;rw[Xs J,Xs J]
  cases s with
  |tags N=>rfl
  |pair a b=>
   obtain⟨L,G,B,T,R,O⟩:=M;have E:=vq (d a)<|d b;have D:=vo (d a)<|d b;show 1+_+_=1+_+_;rw[XD h n m a L (by omega) (by omega),XD h n m b G (by omega) (by omega)]
structure KA6 where
 t:Addr
 dx:Addr
 sh:Addr
 wo:Addr
 he:Addr
 pd:Addr
 tk:Addr
 pk:Addr
structure KC where
 sh:List (Key×V)
 wo:List (Key×V)
 he:List (Key×V)
 pd:List (Key×V)
 tk:List (Key×V)
 pk:List (List Key×V)
def Wc(A:KA6):List (Str×V):=[("shapes",.ref A.sh),("worths",.ref A.wo),("heights",.ref A.he),("pairs_deep",.ref A.pd),("tag_kinds",.ref A.tk),("pair_kinds",.ref A.pk)]
def KA6.ds(A:KA6):kC:=[A.sh,A.wo,A.he,A.pd,A.tk,A.pk]
structure KD(H:Hp)(C:Addr)(A:KA6)(S:KC):Prop where
 ins:H A.t=some (.ins C A.dx (Wc A))
 sh:H A.sh=some (.dK S.sh)
 wo:H A.wo=some (.dK S.wo)
 he:H A.he=some (.dK S.he)
 pd:H A.pd=some (.dK S.pd)
 tk:H A.tk=some (.dK S.tk)
 pk:H A.pk=some (.dT S.pk)
 nd:A.ds.Nodup
structure KR(H:Hp)(S:KC)(ks:List (Str×Shp))(d:Str->Nat):Prop where
 ke:S.sh.map (·.1)=ks.map (λk=>Sum.inr k.1)
 sh:∀y s,Va ks y=some s->∃v,VC S.sh (Sum.inr y)=some v/\Has H v s.dat
 wo:∀y∈ks.map (·.1),∃l xs,VC S.wo (Sum.inr y)=some (.ref l)/\H l=some (.lst xs)/\HasL H xs ((Y3 ks 3 y).map W.dat)
 he:∀y∈ks.map (·.1),VC S.he (Sum.inr y)=some (.int (Xa ks 3 y:Nat))
 pd:∀y∈ks.map (·.1),VC S.pd (Sum.inr y)=some (.int (d y:Nat))
 tk:∀x:Str,VC S.tk (Sum.inr x)=(JE ks x).map V.str
 pk:∀a b:Str,VC S.pk [Sum.inr a,Sum.inr b]=(Vt ks a b).map V.str
 ln:S.sh.length<=4*ks.length/\S.wo.length<=4*ks.length/\S.he.length<=4*ks.length/\S.pd.length<=4*ks.length/\S.tk.length<=4*ks.length/\S.pk.length<=4*ks.length
def KI(H:Hp)(C t:Addr)(ks:kO)(d:kP):Prop:=∃A S,A.t=t/\KD H C A S/\KR H S ks d
def KD.mono(k:KD H C A S)(e:Same H Z):KD Z C A S:=⟨e _ _ k.ins,e _ _ k.sh,e _ _ k.wo,e _ _ k.he,e _ _ k.pd,e _ _ k.tk,e _ _ k.pk,k.nd⟩
def TL(H H':Hp):Prop:=(∀b Z,H b=some (.tup Z)->H' b=some (.tup Z))/\∀b Z,H b=some (.lst Z)->H' b=some (.lst Z)
def Same.tl(e:Same H J):TL H J:=⟨λb Z h=>e _ _ h,λb Z h=>e _ _ h⟩
def TL.trans(a:TL H G)(b:TL G J):TL H J:=⟨λc Z h=>b.1 _ _<|a.1 _ _ h,λc Z h=>b.2 _ _<|a.2 _ _ h⟩
mutual
theorem Has.tl{H M:Hp}(e:TL H M):∀(d:Dat){v:V},Has H v d->Has M v d
 |.non,_,h=>by unfold Has at h |-;exact h
 |.bl _,_,h=>by unfold Has at h |-;exact h
 |.int _,_,h=>by unfold Has at h |-;exact h
 |.str _,_,h=>by unfold Has at h |-;exact h
 |.tup ds,_,h=>by
  unfold Has at h |-;obtain⟨a,Z,L,G,J⟩:=h;exact⟨a,Z,L,e.1 _ _ G,HasL.tl e ds J⟩
 |.lst ds,_,h=>by
  unfold Has at h |-;obtain⟨a,Z,L,G,J⟩:=h;exact⟨a,Z,L,e.2 _ _ G,HasL.tl e ds J⟩
theorem HasL.tl{H G:Hp}(e:TL H G):∀(Z:kM){J:kH},HasL H J Z->HasL G J Z
 |[],[],h=>by unfold HasL;trivial
 |[],_::_,h=>by unfold HasL at h;exact h.elim
 |_::_,[],h=>by unfold HasL at h;exact h.elim
 |d::Z,x::J,h=>by
  unfold HasL at h |-;exact⟨Has.tl e d h.1,HasL.tl e Z h.2⟩
end
def KR.tl(k:KR H S L d)(e:TL H N):KR N S L d:=
 ⟨k.ke,λy s h=>let⟨v,J,Z⟩:=k.sh y s h;⟨v,J,Has.tl e _ Z⟩,λy h=>let⟨l,G,J,Z,M⟩:=k.wo y h;⟨l,G,J,e.2 _ _ Z,HasL.tl e _ M⟩,k.he,k.pd,k.tk,k.pk,k.ln⟩
def KI.mono(k:KI H C t Z d)(e:Same H M):KI M C t Z d:=by
 obtain⟨A,S,L,G,J⟩:=k;exact⟨A,S,L,G.mono e,J.tl e.tl⟩
def UV(x:Str)(Z:ky):inV (.str x) (Z.map V.str)=decide (x∈Z):=by
 induction Z with
 |nil=>rfl
 |cons t Z ih=>
  have e:inV (.str x) ((t::Z).map V.str)=((t==x) || inV (.str x) (Z.map V.str)):=rfl;rw[e,ih]
  by_cases h:t=x
  .subst h;simp
  .have h':¬x=t:=λq=>h q.symm
   simp[h,h']
def Jx(Z:ky):(Z.map V.str).all UD=true:=by
 induction Z with
 |nil=>rfl
 |cons t Z ih=>simp only[ZV,jZ,ih];rfl
structure KCl(K:W.Frag)(C:Addr):Prop where
 cl:Cls K C
 sh:VF K C "shapes"
 wo:VF K C "worths"
 he:VF K C "heights"
 pd:VF K C "pairs_deep"
 tk:VF K C "tag_kinds"
 pk:VF K C "pair_kinds"
def Mn(A:KA6):(Wc A).lookup ("shapes":Str)=some (V.ref A.sh):=rfl
def Lo(A:KA6):(Wc A).lookup ("worths":Str)=some (V.ref A.wo):=rfl
def P1(A:KA6):(Wc A).lookup ("heights":Str)=some (V.ref A.he):=rfl
def P0(A:KA6):(Wc A).lookup ("pairs_deep":Str)=some (V.ref A.pd):=rfl
def AV(A:KA6):(Wc A).lookup ("tag_kinds":Str)=some (V.ref A.tk):=rfl
def AW(A:KA6):(Wc A).lookup ("pair_kinds":Str)=some (V.ref A.pk):=rfl
def WE(k:KD H C A S)(r:KR H S Z d)(h:Va Z y=some s):∃v,Vg H A.sh (.str y) (some v)/\Has H v s.dat:=by
 obtain⟨v,G,J⟩:=r.sh y s h;exact⟨v,by rw[<-G];exact Vg.k (k:=Sum.inr y) k.sh,J⟩
end L2
namespace K4
open PySem L2
section
variable{f g C:Addr}
def U6(C:Addr):Sp:=λG H Q _=>∃(t:Addr)(J:kO)(d:kP),G=[.ref t]/\KI H C t J d/\∀l Z,Same H Z->H l=none->Z l=some (.lst<|J.map λk=>V.str k.1)->Q (.ref l) Z
def Oh:Yh ["self"] ["self"] (Yc Ba):=Y5
def Km(B:Blt L)(T:KCl K C)(F:Fun K "names" "Kinds.names" Ba f O):Yf P w K L base CX0 (n+1) f O ["self"] (U6 C):=by
 refine F.oq Oh λR A Z s H D Q E U h=>?_;obtain⟨t,I,d,rfl,⟨X,S,rfl,J,N⟩,q⟩:=h;exists _,YZ<|Ym<|VY (U2 rfl) rfl B.list JU (pa1<|Yn (pv 0) rfl);refine⟨C,_,_,_,J.ins,T.cl,T.sh,Mn _,_,_,Y,J.sh,λl G=>?_⟩;refine q l _ (Yq G _) G ?_;rw[Ye];have e:(S.sh.map λM=>kV M.1)=(S.sh.map (·.1)).map kV:=by rw[yj];rfl
 rw[e,N.ke,yj]
 rfl
def U5(C:Addr):Sp:=λJ H Q _=>∃(t:Addr)(Z:kO)(d:kP)(y:Str)(s:Shp),J=[.ref t,.str y]/\KI H C t Z d/\Va Z y=some s/\∀v,Has H v s.dat->Q v H
def FC:Yh ["self","kind"] ["self","kind"] (Yc Gm):=Y5
def B6(T:KCl K C)(F:Fun K "shape_of" "Kinds.shape_of" Gm f B):Yf P w K U base CX0 (n+1) f B ["self","kind"] (U5 C):=by
 refine F.oq FC λD A Z s H I Q E N h=>?_;obtain⟨t,X,d,y,s,rfl,⟨j,S,rfl,J,G⟩,M,q⟩:=h;have L:=V9 N;obtain⟨v,R,O⟩:=WE J G M;exists _,YZ<|Ym<|Vj L (Yn (pv 0) rfl) (pv 1) λ_ _=>rfl;exact⟨C,_,_,_,J.ins,T.cl,T.sh,Mn _,v,R,q v O⟩
def Ge(C:Addr):Sp:=λJ H Q _=>∃(t:Addr)(Z:kO)(d:kP)(x:Str),J=[.ref t,.str x]/\KI H C t Z d/\Q (((JE Z x).map V.str).getD .non) H
def Ij:Yh ["self","tag"] ["self","tag"] (Yc ML):=Y5
def FN(T:KCl K C)(F:Fun K "kind_of_tag" "Kinds.kind_of_tag" ML f N):Yf P w K B base CX0 (n+1) f N ["self","tag"] (Ge C):=by
 refine F.oq Ij λO A Z s H R Q E M h=>?_;obtain⟨t,D,d,x,rfl,⟨I,S,rfl,J,G⟩,q⟩:=h;have L:=V9 M;exists _,YZ<|Ym<|G4 L (Yn (pv 0) rfl) (pv 1) ⟨rfl,rfl,rfl,rfl⟩;exact⟨C,_,_,_,J.ins,T.cl,T.tk,AV _,.inl ⟨_,.inl J.tk⟩,_,by rw[<-G.tk x];exact Vg.k (k:=Sum.inr x) J.tk,q⟩
def WB(C:Addr):Sp:=λG H Q _=>∃(t:Addr)(Z:kO)(d:kP)(a b:Str),G=[.ref t,.str a,.str b]/\KI H C t Z d/\∀J,Same H J->Q (((Vt Z a b).map V.str).getD .non) J
def FD:Yh ["self","one","other"] ["self","one","other"] (Yc Gp):=Y5
def B9(T:KCl K C)(F:Fun K "kind_of_pair" "Kinds.kind_of_pair" Gp f R):Yf P w K I base CX0 (n+1) f R ["self","one","other"] (WB C):=by
 refine F.oq FD λB A Z s H D Q E N h=>?_;obtain⟨t,U,d,a,b,rfl,⟨X,S,rfl,J,L⟩,q⟩:=h;have M:=V9 N;exists _,YZ<|Ym<|G4 M (Yn (pv 0) rfl) (Yi<|pa2 (pv 1)<|pv 2) ⟨rfl,rfl,rfl,rfl⟩;refine⟨C,_,_,_,J.ins,T.cl,T.pk,AW _,.inr ⟨_,.inl J.pk⟩,sl 2,λp O=>?_⟩;have G:=Yq O<|.tup [.str a,.str b];exact⟨_,by rw[<-L.pk a b];exact Vg.t (k:=[Sum.inr a,Sum.inr b]) (G _ _ J.pk) Ye,q _ G⟩
def Jy(C:Addr):Sp:=λL H Q _=>∃(t:Addr)(J:kO)(d:kP)(y:Str),L=[.ref t,.str y]/\KI H C t J d/\y∈J.map (·.1)/\
 ∀l G Z,Same H Z->H l=none->Z l=some (.lst G)->HasL Z G ((Y3 J 3 y).map W.dat)->Q (.ref l) Z
def BP:Yh ["self","kind"] ["self","kind"] (Yc WI):=Y5
def NN(B:Blt N)(T:KCl K C)(F:Fun K "worths_of" "Kinds.worths_of" WI f z):Yf P w K N base CX0 (n+1) f z ["self","kind"] (Jy C):=by
 refine F.oq BP λm A G s H p Q E I h=>?_;obtain⟨t,c,d,y,rfl,⟨u,S,rfl,M,O⟩,R,q⟩:=h;have D:=V9 I;obtain⟨l,J,j,X,U⟩:=O.wo y R;exists _,YZ<|Ym<|VY Uj rfl B.list JU (pa1<|Vj D (Yn (pv 0) rfl) (pv 1) λ_ _=>rfl);refine⟨C,_,_,_,M.ins,T.cl,T.wo,Lo _,_,by rw[<-j];exact Vg.k (k:=Sum.inr y) M.wo,l,J,Y,.inl<|Z3 X,λr Z=>?_⟩;have L:=Yq Z<|.lst J;exact q r J _ L Z Ye<|U.mono L
end
end K4
namespace L2
open PySem
def KFr(A:KA6)(H H':Hp):Prop:=∀b o,b∉A.ds->H b=some o->H' b=some o
def KFr.refl(A:KA6)(H:Hp):KFr A H H:=λ_ _ _ h=>h
def KFr.trans(a:KFr A H G)(b:KFr A G J):KFr A H J:=λc o Z h=>b c o Z<|a c o Z h
def Same.kfr(e:Same H Z):KFr A H Z:=λb o _ h=>e b o h
def KFr.put(a:KFr A H L)(G:x∈A.ds)(o:HO):KFr A H (upd L x o):=λb u Z h=>by
 have J:b≠x:=λz=>by rw[z]at Z;exact Z G
 rw[Yg J];exact a b u Z h
def KFr.tl(a:KFr A H O)(k:KD H C A S):TL H O:=by
 have G:∀b u,H b=some u->(∀l,u≠.dK l)->(∀l,u≠.dT l)->b∉A.ds:=λb u Z J N L=>by
  simp only[KA6.ds,Zd,jh,or_false]at L;rcases L with z|z|z|z|z|z
  .rw [z,k.sh]at Z;exact J _ (ZT Z).symm
  .rw [z,k.wo]at Z;exact J _ (ZT Z).symm
  .rw [z,k.he]at Z;exact J _ (ZT Z).symm
  .rw [z,k.pd]at Z;exact J _ (ZT Z).symm
  .rw [z,k.tk]at Z;exact J _ (ZT Z).symm
  .rw [z,k.pk]at Z;exact N _ (ZT Z).symm
 exact⟨λb M h=>a b _ (G b _ h (λl=>by intro z;cases z) (λl=>by intro z;cases z)) h,λb M h=>a b _ (G b _ h (λl=>by intro z;cases z) (λl=>by intro z;cases z)) h⟩
def KA6.apart{A:KA6}(n:A.ds.Nodup):(A.sh≠A.wo/\A.sh≠A.he/\A.sh≠A.pd/\A.sh≠A.tk/\A.sh≠A.pk)/\(A.wo≠A.he/\A.wo≠A.pd/\A.wo≠A.tk/\A.wo≠A.pk)/\(A.he≠A.pd/\A.he≠A.tk/\A.he≠A.pk)/\(A.pd≠A.tk/\A.pd≠A.pk)/\A.tk≠A.pk:=by
 simpa[KA6.ds]using n
section
def KD.put_sh(k:KD H C A S)(l:kF):KD (upd H A.sh<|.dK l) C A {S with sh:=l}:=by
 obtain⟨⟨M,L,G,J,Z⟩,_⟩:=KA6.apart k.nd;exact⟨(Yg<|JW k.ins k.sh (by intro z;cases z)).trans k.ins,Ye,(Yg M.symm).trans k.wo,(Yg L.symm).trans k.he,(Yg G.symm).trans k.pd,(Yg J.symm).trans k.tk,(Yg Z.symm).trans k.pk,k.nd⟩
def KD.put_wo(k:KD H C A S)(l:kF):KD (upd H A.wo<|.dK l) C A {S with wo:=l}:=by
 obtain⟨⟨M,_⟩,⟨L,G,J,Z⟩,_⟩:=KA6.apart k.nd;exact⟨(Yg<|JW k.ins k.wo (by intro z;cases z)).trans k.ins,(Yg M).trans k.sh,Ye,(Yg L.symm).trans k.he,(Yg G.symm).trans k.pd,(Yg J.symm).trans k.tk,(Yg Z.symm).trans k.pk,k.nd⟩
def KD.put_he(k:KD H C A S)(l:kF):KD (upd H A.he<|.dK l) C A {S with he:=l}:=by
 obtain⟨⟨_,M,_⟩,⟨L,_⟩,⟨G,J,Z⟩,_⟩:=KA6.apart k.nd;exact⟨(Yg<|JW k.ins k.he (by intro z;cases z)).trans k.ins,(Yg M).trans k.sh,(Yg L).trans k.wo,Ye,(Yg G.symm).trans k.pd,(Yg J.symm).trans k.tk,(Yg Z.symm).trans k.pk,k.nd⟩
def KD.put_pd(k:KD H C A S)(l:kF):KD (upd H A.pd<|.dK l) C A {S with pd:=l}:=by
 obtain⟨⟨_,_,M,_⟩,⟨_,L,_⟩,⟨G,_⟩,⟨J,Z⟩,_⟩:=KA6.apart k.nd;exact⟨(Yg<|JW k.ins k.pd (by intro z;cases z)).trans k.ins,(Yg M).trans k.sh,(Yg L).trans k.wo,(Yg G).trans k.he,Ye,(Yg J.symm).trans k.tk,(Yg Z.symm).trans k.pk,k.nd⟩
def KD.put_tk(k:KD H C A S)(l:kF):KD (upd H A.tk<|.dK l) C A {S with tk:=l}:=by
 obtain⟨⟨_,_,_,M,_⟩,⟨_,_,L,_⟩,⟨_,G,_⟩,⟨J,_⟩,Z⟩:=KA6.apart k.nd;exact⟨(Yg<|JW k.ins k.tk (by intro z;cases z)).trans k.ins,(Yg M).trans k.sh,(Yg L).trans k.wo,(Yg G).trans k.he,(Yg J).trans k.pd,Ye,(Yg Z.symm).trans k.pk,k.nd⟩
def KD.put_pk(k:KD H C A S)(l:List (List Key×V)):KD (upd H A.pk<|.dT l) C A {S with pk:=l}:=by
 obtain⟨⟨_,_,_,_,M⟩,⟨_,_,_,L⟩,⟨_,_,G⟩,⟨_,J⟩,Z⟩:=KA6.apart k.nd;exact⟨(Yg<|JW k.ins k.pk (by intro z;cases z)).trans k.ins,(Yg M).trans k.sh,(Yg L).trans k.wo,(Yg G).trans k.he,(Yg J).trans k.pd,(Yg Z).trans k.tk,Ye,k.nd⟩
end
def UI{α:Type}{l:List α}{x a:α}(h:l[i]?=some a):x∈l.take (i+1)↔x∈l.take i\/x=a:=by
 rw[take_snoc h,ZX,ZQ]
end L2
namespace K4
open PySem L2
section
variable{f g C:Addr}
def BH(C:Addr):Sp:=λL H Q _=>∃(A:KA6)(S:KC)(y:Str)(l:Addr)(Z:ky),L=[.ref A.t,.str y,.ref l]/\KD H C A S/\H l=some (.tup<|Z.map V.str)/\1<=Z.length/\Z.length<=4/\Wds 65 Z/\(∀x∈Z,VC S.tk (Sum.inr x)=none)/\
 S.tk.length<=100/\S.wo.length<=100/\S.he.length<=100/\S.pd.length<=100/\
 ∀G J r,KFr A H G->KD G C A ⟨S.sh,putK S.wo (Sum.inr y)<|.ref r,putK S.he (Sum.inr y)<|.int 1,putK S.pd (Sum.inr y)<|.int 0,J,S.pk⟩->
  (∀x:Str,VC J (Sum.inr x)=if x∈Z then some (.str y)else VC S.tk (Sum.inr x))->J.length<=S.tk.length+4->G r=some (.lst (.non::Z.map V.str))->Q .non G
def Ig:Yh ["self","name","tags","tag"] ["self","name","tags"] (Yc Iq):=Y5
def PL(B:Blt mg)(T:KCl K C)(F:Fun K "take_tags" "Kinds.take_tags" Iq f fd)(hM:mg "MOST_TAGS"=some u)(rM:RelV (.int 4) u)(G:Yf P w K mg base CX0 n g gd ["text"] (Ut 65))(bG:Binds K gd ["text"] [])(kG:W.keepIn K (.ref g)=true)(mG:mg "is_tag"=some (.ref g)):Yf P w K mg base CX0 (n+1) f fd ["self","name","tags"] (BH C):=by
 refine F.oq Ig λM2 A J2 s H vs Q E hr h=>?_;obtain⟨D,S,y,l,J,rfl,kd,hl,l1,l4,wt,tn,b1,b2,b3,b4,q⟩:=h;have t:=V9 hr;refine⟨_,YY (Y1 (Jk<|Gy Xp Xp Ya (VA Y7 rfl B.len Zu (pa1<|pv 2))<|JF rfl hM rM) (YZ V5) Yp)
  (YY (Jb Zv rfl (UH<|pv 2) (Yl 3 Ig.nd)
   (YY (Y1 (Jk<|JR<|Jd G hr rfl mG kG bG .nil Y2 (pa1<|pv 3)) (YZ V5) Yp)
   (YY (Y1 (Jp<|Uw t (pv 3)<|Yn (pv 0) rfl) (YZ V5) Yp)
   (YZ<|Vc t (Yn (pv 0) rfl) (pv 3) (pv 1) rfl))))
  (YY (Vc t (Yn (pv 0) rfl) (pv 1) (Y9 B5 (V8<|pa1 Vs)<|VY Uj rfl B.list JU (pa1<|pv 2)) rfl)
  (YY (Vc t (Yn (pv 0) rfl) (pv 1) Ya rfl)
  (YZ<|Vc t (Yn (pv 0) rfl) (pv 1) Ya rfl)))),?_⟩
 show let a:=_;let b:=Yk _ a;let c:=Yk _ b;let d:=_;let e:=_;let f:=Yk (VE _ e _) d;let g:=_;let h:=Yk (VE _ g _) f;let i:=Yk (XH _ _ h) c;let j:=_;Yk (VE _ j _) i _ _ _
 intros
 have lt:(J.map V.str).length=J.length:=ZA _;exists l,_,Y,.inr<|Z2 hl,_,rfl;refine VH (by simp;omega) ?_;exists _,Y;refine Y0 (by simp;omega) ?_;exists ⟨_,Z2 hl⟩
 let I:kI:=λi U R=>KFr D H R/\∃L z,KD R C D {S with tk:=L}/\(∀x:Str,VC L (Sum.inr x)=if x∈J.take i then some (.str y)else VC S.tk (Sum.inr x))/\L.length<=S.tk.length+i/\R l=some (.tup<|J.map V.str)/\
  U=[some (.ref D.t),some<|.str y,some<|.ref l,z]
 refine Ta (xs:=J.map V.str) I ⟨KFr.refl _ _,S.tk,_,kd,λx=>by simp,ZG _,hl,Y⟩ ?_ ?_ ?_
 .rintro i U R _ ⟨_,L,z,_,_,_,hl',_⟩
  exact Z2 hl'
 .rintro BB RR i v U R hv ⟨fr,L,z,kd',tv,tl,hl',rfl⟩
  rw[ZH]at hv
  cases hx:J[i]? with
  |none=>rw[hx]at hv;cases hv
  |some x=>
   rw[hx]at hv;cases hv;have mx:x∈J:=ZJ hx
   have nx:x∉J.take i:=λhm=>by
    have q':(J.take i++[x]).Nodup:=by rw[<-take_snoc hx];exact wt.nd.sublist<|vv _ _
    exact(vx.mp q').2.2 x hm x (by simp) rfl
   have L1:=(ZF.mp hx).1;obtain⟨w1,w8⟩:=wt.len x mx;refine⟨x,Y,w1,w8,wt.abc x mx,λH2 s2=>⟨_,Y,?_⟩⟩;refine Y0 (by simp) ?_;have Z:=kd'.mono s2
   have gx:Vg H2 D.tk (.str x) none:=by
    have e:=tv x;rw[Zq nx,tn x mx]at e;rw[<-e];exact Vg.k (k:=Sum.inr x) Z.tk
   exists C,_,_,_,Z.ins,T.cl,T.tk,AV _,_,gx,_,Y;refine Y0 (by simp) ?_;refine⟨C,_,_,_,Z.ins,T.cl,T.tk,AV _,_,Jh.k (k:=Sum.inr x) Z.tk<|Yj (by show L.length<=1000;omega),?_⟩;have o:=s2 _ _ hl';refine⟨(fr.trans s2.kfr).put (by simp[KA6.ds]) _,putK L (Sum.inr x)<|.str y,_,Z.put_tk _,λX=>?_,?_,?_,rfl⟩
   .rw [Vy]
    by_cases e:X=x
    .subst e
     rw[Zp rfl,Zp ((UI hx).mpr<|.inr rfl)]
    .rw [Zq (λz=>e<|Sum.inr.inj z),tv X]
     have:(X∈J.take (i+1))↔X∈J.take i:=⟨λz=>((UI hx).mp z).resolve_right e,λz=>(UI hx).mpr<|.inl z⟩
     by_cases m:X∈J.take i
     .rw [Zp m,Zp (this.mpr m)]
     .rw [Zq m,Zq (λz=>m<|this.mp z)]
   .have:=VW L (Sum.inr x)<|.str y;omega
   .rw [Yg (JW o Z.tk (by intro z;cases z))];exact o
 .rintro U R ⟨fr,L,z,kd',tv,tl,hl',rfl⟩
  rw[lt]at tl;rw[Zg (by omega)]at tv;refine⟨sl 1,λp1 r=>⟨l,_,Y,.inr<|Z2<|(Yq r _) _ _ hl',λp2 p=>?_⟩⟩;refine⟨p1,p2,_,_,Y,Y,(Yg<|Yb Ye p).trans Ye,Ye,Zh (Yj (by simp;omega)),λM G2=>?_⟩;have sx:Same R _:=((Yq r<|.lst [V.non]).trans<|Yq p<|.lst<|J.map V.str).trans<|Yq G2<|.lst<|[V.non]++ J.map V.str;have hp:upd (upd (upd R p1<|.lst [V.non]) p2<|.lst<|J.map V.str) M (.lst<|[V.non]++ J.map V.str) M=some (.lst (.non::J.map V.str)):=Ye;generalize upd (upd (upd R p1<|.lst [V.non]) p2<|.lst<|J.map V.str) M (.lst<|[V.non]++ J.map V.str)=H2 at sx hp |-;have Z:=kd'.mono sx;refine⟨C,_,_,_,Z.ins,T.cl,T.wo,Lo _,_,Jh.k (k:=Sum.inr y) Z.wo<|Yj (by show S.wo.length<=1000;omega),?_⟩;have O:=Z.put_wo<|putK S.wo (Sum.inr y)<|.ref M;have G3:upd H2 D.wo (.dK<|putK S.wo (Sum.inr y)<|.ref M) M=some (.lst (.non::J.map V.str)):=by rw[Yg (JW hp Z.wo (by intro z;cases z))];exact hp
  refine⟨C,_,_,_,O.ins,T.cl,T.he,P1 _,_,Jh.k (k:=Sum.inr y) O.he<|Yj (by show S.he.length<=1000;omega),?_⟩;have N:=O.put_he<|putK S.he (Sum.inr y)<|.int 1;refine⟨C,_,_,_,N.ins,T.cl,T.pd,P0 _,_,Jh.k (k:=Sum.inr y) N.pd<|Yj (by show S.pd.length<=1000;omega),?_⟩;have G1:=N.put_pd<|putK S.pd (Sum.inr y)<|.int 0;refine q _ L M ?_ G1 tv (by omega) ?_
  .exact ((((fr.trans sx.kfr).put (by simp[KA6.ds]) _).put (by simp[KA6.ds]) _).put (by simp[KA6.ds]) _)
  .have h3:=G3
   have h4:upd (upd H2 D.wo<|.dK<|putK S.wo (Sum.inr y)<|.ref M) D.he (.dK<|putK S.he (Sum.inr y)<|.int 1) M=some (.lst (.non::J.map V.str)):=by rw[Yg (JW h3 O.he (by intro z;cases z))];exact h3
   rw[Yg (JW h4 N.pd (by intro z;cases z))];exact h4
end
end K4
namespace L2
open PySem
structure Pt(H:Hp)(S:KC)(e:Str)(us:List W)(h p:Nat):Prop where
 sh:(VC S.sh (Sum.inr e)).isSome=true
 wo:∃l xs,VC S.wo (Sum.inr e)=some (.ref l)/\H l=some (.lst xs)/\HasL H xs (us.map W.dat)
 he:VC S.he (Sum.inr e)=some (.int h)
 pd:VC S.pd (Sum.inr e)=some (.int p)
end L2
namespace K4
open PySem L2
section
variable{f g C:Addr}
def Rv(C:Addr):Sp:=λT H Q _=>∃(A:KA6)(S:KC)(y e g:Str)(G Z:List W)(R O M L:Nat),T=[.ref A.t,.str y,.str e,.str g]/\KD H C A S/\Pt H S e G R M/\Pt H S g Z O L/\VC S.pk [Sum.inr e,Sum.inr g]=none/\
 1+max M L<=2/\1+G.length*Z.length<=30/\G.length<=30/\Z.length<=30/\S.pk.length<=100/\S.wo.length<=100/\S.he.length<=100/\S.pd.length<=100/\e≠y/\g≠y/\
 ∀J r,KFr A H J->KD J C A ⟨S.sh,putK S.wo (Sum.inr y)<|.ref r,putK S.he (Sum.inr y)<|.int (1+R+O:Nat),putK S.pd (Sum.inr y)<|.int (1+max M L:Nat),S.tk,putK S.pk [Sum.inr e,Sum.inr g]<|.str y⟩->
  (∃N,J r=some (.lst N)/\HasL J N ((W.non::G.flatMap λu=>Z.map λv=>W.pair u v).map W.dat))->Q .non J
def MF:Yh ["self","name","one","other","deep","worths"] ["self","name","one","other"] (Yc BZ):=Y5
def Qc:List.Nodup [("first":Str),"second","self","other"]:=by decide +kernel
def Kl(B:Blt mg)(T:KCl K C)(F:Fun K "take_pair" "Kinds.take_pair" BZ f fd)(hM:mg "MOST_PAIRS_DEEP"=some u1)(rM:RelV (.int 2) u1)(T8:mg "MOST_WORTHS"=some u2)(R6:RelV (.int 30) u2):
  Yf P w K mg base CX0 (n+1) f fd ["self","name","one","other"] (Rv C):=by
 refine F.oq MF λD1 A R7 s H vs Q E hr h=>?_;obtain⟨J,S,y,e,g,us,Z,he,hg,pe,pg,rfl,kd,G1,J2,pn,d2,D2,ul,vl,b0,b1,b2,b3,D0,T9,q⟩:=h;have I:=V9 hr;refine⟨_,YY (Y1 (PW.pt<|UP (Jp<|WP I (pv 2)<|Yn (pv 0) rfl)<|Jo<|Jp<|WP I (pv 3)<|Yn (pv 0) rfl) (YZ V5) Yp)
  (YY (Y1 (Jp<|Uw I (Yi<|pa2 (pv 2)<|pv 3)<|Yn (pv 0) rfl) (YZ V5) Yp)
  (YY (Yx 4 MF.nd<|Y9 Vn Ya<|VA (Fh rfl) rfl B.max Fl (pa2 (Vj I (Yn (pv 0) rfl) (pv 2) λ_ _=>rfl)<|Vj I (Yn (pv 0) rfl) (pv 3) λ_ _=>rfl))
  (YY (Y1 (Yr G8 (pv 4) (JF rfl hM rM)<|Yz _) (YZ V5) Yp)
  (YY (Yx 5 MF.nd (Y9 B5 (V8<|pa1 Vs) (O7 (wi2:=LR K<|QP (Q3 K (BF 2) "worths")<|BF 3) [0,3] (JP<|Vj I (Yn (pv 0) rfl) (pv 2) λ_ _=>rfl)
    (λcl C fp s H=>Yl 0 Qc rfl (Or.inl rfl) (Or.inr rfl)) (λcl C fp s H=>JP<|Vj I (Yn (pv 2) rfl) (pv 3) λ_ _=>rfl) (λcl C fp s H=>Yl 1 Qc rfl (Or.inl rfl) (Or.inr rfl))
    (λcl C fp s H=>Yi<|pa2 (pv 0)<|pv 1))))
  (YY (Y1 (Yr G8 (VA Y7 rfl B.len Zu (pa1<|pv 5)) (JF rfl T8 R6)<|Yz _) (YZ V5) Yp)
  (YY (Vc I (Yn (pv 0) rfl) (Yi<|pa2 (pv 2)<|pv 3) (pv 1) rfl)
  (YY (Vc I (Yn (pv 0) rfl) (pv 1) (pv 5) rfl)
  (YY (Vc I (Yn (pv 0) rfl) (pv 1) (Y9 Vn (Y9 Vn Ya<|Vj I (Yn (pv 0) rfl) (pv 2) λ_ _=>rfl)<|Vj I (Yn (pv 0) rfl) (pv 3) λ_ _=>rfl) rfl)
  (YZ<|Vc I (Yn (pv 0) rfl) (pv 1) (pv 4) rfl))))))))),?_⟩
 show let a:=_;let b:=Yk _ a;let c:=Yk _ b;let d:=Yk _ c;let e:=_;let f:=Yk (VE _ e _) d;let g:=Yk _ f;let h:=_;let i:=Yk (VE _ h _) g;let j:=Yk _ i;let k:=_;let l:=Yk (VE _ k _) j;let m:=_;Yk (VE _ m _) l _ _ _
 intros
 have fl:∀{H2:Hp},KD H2 C J S->H2 J.t=some (.ins C J.dx<|Wc J):=λk=>k.ins;have ge:Vg H J.sh (.str e) (VC S.sh<|Sum.inr e):=Vg.k (k:=Sum.inr e) kd.sh;have gg:Vg H J.sh (.str g) (VC S.sh<|Sum.inr g):=Vg.k (k:=Sum.inr g) kd.sh;exists C,_,_,_,kd.ins,T.cl,T.sh,Mn _,_,ge,_,Y;refine Y0 (by rw[G1.sh];simp) ?_;exists C,_,_,_,kd.ins,T.cl,T.sh,Mn _,_,gg,_,Y;refine Y0 (by rw[J2.sh];simp) ?_;refine⟨sl 2,λp1 T4=>?_⟩;refine up_in T4 _ λH1 s1 h1=>?_;have O:=kd.mono s1;have gp:Vg H1 J.pk (.ref p1) none:=by rw[<-pn];exact Vg.t (k:=[Sum.inr e,Sum.inr g]) O.pk h1
 exists C,_,_,_,O.ins,T.cl,T.pk,AW _,_,gp,_,Y;refine Y0 (by simp) ?_;refine⟨C,_,_,_,O.ins,T.cl,T.pd,P0 _,_,by rw[<-G1.pd];exact Vg.k (k:=Sum.inr e) O.pd,?_⟩;exists C,_,_,_,O.ins,T.cl,T.pd,P0 _,_,by rw[<-J2.pd];exact Vg.k (k:=Sum.inr g) O.pd,_,_,Y
 have em:(1+(if(pg:Int) > (pe:Int)then(pg:Int)else(pe:Int)))=((1+max pe pg:Nat):Int):=by
  by_cases z:pe<pg
  .rw [Zp (by omega),Nat.max_eq_right (Zh z)];omega
  .rw [Zq (by omega),Nat.max_eq_left (by omega)];omega
 dsimp only[Vl,rI0,UU];rw[em];exists _,Y;refine Y0 (by simp;omega) ?_;obtain⟨l1,D,w1,w2,w3⟩:=G1.wo;obtain⟨l2,M,v1,v2,v3⟩:=J2.wo;have O1:=w3.length;have M2:=v3.length;rw[ZA]at O1 M2;refine⟨sl 1,λp2 T3=>?_⟩;refine up_in T3 _ λH2 s2 h2=>?_;have R4:=O.mono s2;have U:=s1.trans s2;exists C,_,_,_,R4.ins,T.cl,T.wo,Lo _,.ref l1,by rw[<-w1];exact Vg.k (k:=Sum.inr e) R4.wo,⟨D,Z3<|U _ _ w2⟩;refine Tl D.length (λi L H'=>Same H2 H'/\L.length=i*Z.length/\i<=us.length/\HasL H' L (((us.take i).flatMap λu=>Z.map λv=>W.pair u v).map W.dat)) ⟨Z8 _,by simp,Zc _,by rw[vE];exact Z6⟩
  (λi L H' z=>Yj (by rw[z.2.1];have:i*Z.length<=us.length*Z.length:=jm _ z.2.2.1;omega)) ?_ ?_ ?_ ?_
 .intro i L H' hi z
  exact⟨D,D[i],Z3<|(U.trans z.1) _ _ w2,by simp[hi]⟩
 .intro L H' z
  exact⟨D,Z3<|(U.trans z.1) _ _ w2,ZG _⟩
 .intro i L H' x H'' R hi z yl hR
  obtain⟨rfl,yy⟩:=yl;have sz:=U.trans z.1;obtain⟨dx,o,T7⟩:=w3.get<|yy D<|Z3<|sz _ _ w2;rw[ZH]at o
  cases hu1:us[i]? with
  |none=>rw[hu1]at o;cases o
  |some u=>
   rw[hu1]at o;cases o;have R1:=kd.mono sz;exists C,_,_,_,R1.ins,T.cl,T.wo,Lo _,.ref l2,by rw[<-v1];exact Vg.k (k:=Sum.inr g) R1.wo,⟨M,Z3<|sz _ _ v2⟩;refine Nc M.length (λj ws H3=>Same H'' H3/\ws.length=i*Z.length+j/\j<=Z.length/\HasL H3 ws (((us.take i).flatMap λu=>Z.map λv=>W.pair u v).map W.dat++ ((Z.take j).map λv=>W.pair u v).map W.dat)) ⟨Z8 _,by rw[z.2.1];rfl,Zc _,by rw[vE,vG,vG,yu];exact z.2.2.2⟩
    (λj ws H3 N=>Yj (by
     rw[N.2.1];have:(i+1)*Z.length<=us.length*Z.length:=jm _ (by omega);rw[vP]at this;have:=N.2.2.1;omega)) ?_ ?_ ?_ ?_
   .intro j ws H3 hj N
    exact⟨M,M[j],Z3<|(sz.trans N.1) _ _ v2,by simp[hj]⟩
   .intro ws H3 N
    exact⟨M,Z3<|(sz.trans N.1) _ _ v2,ZG _⟩
   .intro j ws H3 x2 H4 T2 hj N yl2 hT
    obtain⟨rfl,R5⟩:=yl2;have s3:=sz.trans N.1;obtain⟨dz,r,T6⟩:=v3.get<|R5 M<|Z3<|s3 _ _ v2;rw[ZH]at r
    cases hv1:Z[j]? with
    |none=>rw[hv1]at r;cases r
    |some v=>
     rw[hv1]at r;cases r;refine⟨sl 2,λt ht=>hT _ _ ?_⟩;have st:=Yq ht<|.tup [x,x2];exists N.1.trans st,by rw[ZL,N.2.1];rfl,(ZF.mp hv1).1;rw[take_snoc hv1,ZK,ZK,<-vk];refine Z7 (N.2.2.2.mono st)<|Z5 ?_;unfold W.dat Has;exact⟨t,_,Y,Ye,Z4 ((T7.mono s3).mono st)<|Z4 ((T6.mono s3).mono st) Z6⟩
   .intro ws H3 N
    have T5:M.length=Z.length:=M2;refine hR _ _ ⟨z.1.trans N.1,by rw[N.2.1,T5,vP],(ZF.mp hu1).1,?_⟩;have y4:=N.2.2.2;have et:Z.take M.length=Z:=Zg (by omega);rw[et]at y4;rw[FZ _ hu1,ZK];exact y4
 .intro L H' p3 z hp3
  have s3:=Yq hp3<|.lst L;have h3:upd H' p3 (.lst L) p3=some (.lst L):=Ye;have z4:=z.2.2.2;rw[Zg (by omega)]at z4;have z5:=z4.mono s3;generalize upd H' p3 (.lst L)=H3 at s3 h3 z5 |-;have G3:=z.1.trans s3;have lz:L.length=us.length*Z.length:=by rw[z.2.1,O1]
  refine⟨p2,p3,[V.non],L,Y,Y,G3 _ _ h2,h3,Zh (Yj (by rw[lz];simp;omega)),λp4 T1=>?_⟩;have s4:=Yq T1<|.lst<|[V.non]++ L;have h4:upd H3 p4 (.lst<|[V.non]++ L) p4=some (.lst<|[V.non]++ L):=Ye;have z6:=z5.mono s4;generalize upd H3 p4 (.lst<|[V.non]++ L)=H4 at s4 h4 z6 |-;have L1:=(U.trans G3).trans s4;have G2:=kd.mono L1;have hw:HasL H4 ([V.non]++ L) ((W.non::us.flatMap λu=>Z.map λv=>W.pair u v).map W.dat):=Z4 EY z6;exists p4,_,Y,.inl<|Z3 h4,_,rfl;refine Y0 (by simp;omega) ?_;refine⟨C,_,_,_,G2.ins,T.cl,T.pk,AW _,sl 2,λp5 T0=>?_⟩;refine up_in T0 _ λH5 s5 h5=>?_;have R3:=G2.mono s5;refine⟨_,Jh.t (k:=[Sum.inr e,Sum.inr g]) R3.pk h5<|Yj<|by omega,?_⟩;have p:=R3.put_pk<|putK S.pk [Sum.inr e,Sum.inr g]<|.str y;have f6:KFr J H (upd H5 J.pk<|.dT<|putK S.pk [Sum.inr e,Sum.inr g]<|.str y):=KFr.put (Same.kfr<|L1.trans s5) (by simp[KA6.ds]) _;have t6:TL H4 (upd H5 J.pk<|.dT<|putK S.pk [Sum.inr e,Sum.inr g]<|.str y):=(KFr.put (Same.kfr s5) (by simp[KA6.ds]) _:KFr J H4 _).tl G2;generalize upd H5 J.pk (.dT<|putK S.pk [Sum.inr e,Sum.inr g]<|.str y)=H6 at p f6 t6 |-;refine⟨C,_,_,_,p.ins,T.cl,T.wo,Lo _,_,Jh.k (k:=Sum.inr y) p.wo<|Yj (by show S.wo.length<=1000;omega),?_⟩;have G:=p.put_wo<|putK S.wo (Sum.inr y)<|.ref p4;have f7:=f6.put (x:=J.wo) (by simp[KA6.ds])<|.dK<|putK S.wo (Sum.inr y)<|.ref p4;have t7:=t6.trans<|(KFr.put (KFr.refl J H6) (x:=J.wo) (by simp[KA6.ds])<|.dK<|putK S.wo (Sum.inr y)<|.ref p4).tl p;generalize upd H6 J.wo (.dK<|putK S.wo (Sum.inr y)<|.ref p4)=H7 at G f7 t7 |-;refine⟨C,_,_,_,G.ins,T.cl,T.he,P1 _,_,by rw[<-G1.he];exact Vg.k (k:=Sum.inr e) G.he,?_⟩;refine⟨C,_,_,_,G.ins,T.cl,T.he,P1 _,_,by rw[<-J2.he];exact Vg.k (k:=Sum.inr g) G.he,?_⟩;refine⟨C,_,_,_,G.ins,T.cl,T.he,P1 _,_,Jh.k (k:=Sum.inr y) G.he<|Yj (by show S.he.length<=1000;omega),?_⟩;have eh:(1+(he:Int)+(hg:Int))=((1+he+hg:Nat):Int):=by push_cast;rfl
  dsimp only[rI0,rI,UU];rw[eh];have X:=G.put_he<|putK S.he (Sum.inr y)<|.int ((1+he+hg:Nat):Int);have f8:=f7.put (x:=J.he) (by simp[KA6.ds])<|.dK<|putK S.he (Sum.inr y)<|.int ((1+he+hg:Nat):Int);have t8:=t7.trans<|(KFr.put (KFr.refl J H7) (x:=J.he) (by simp[KA6.ds])<|.dK<|putK S.he (Sum.inr y)<|.int ((1+he+hg:Nat):Int)).tl G;generalize upd H7 J.he (.dK<|putK S.he (Sum.inr y)<|.int ((1+he+hg:Nat):Int))=H8 at X f8 t8 |-;refine⟨C,_,_,_,X.ins,T.cl,T.pd,P0 _,_,Jh.k (k:=Sum.inr y) X.pd<|Yj (by show S.pd.length<=1000;omega),?_⟩;have R8:=X.put_pd<|putK S.pd (Sum.inr y)<|.int ((1+max pe pg:Nat):Int);have f9:=f8.put (x:=J.pd) (by simp[KA6.ds])<|.dK<|putK S.pd (Sum.inr y)<|.int ((1+max pe pg:Nat):Int);have t9:=t8.trans<|(KFr.put (KFr.refl J H8) (x:=J.pd) (by simp[KA6.ds])<|.dK<|putK S.pd (Sum.inr y)<|.int ((1+max pe pg:Nat):Int)).tl X;exact q _ p4 f9 R8 ⟨_,t9.2 _ _ h4,HasL.tl t9 _ hw⟩
end
end K4
namespace L2
open PySem
def C8(G:KK top c d J)(L:y∈J.map (·.1)):c y<=5\/c y<=top:=by
 obtain⟨s,M⟩:=JM L;have Z:=G.at M
 cases s with
 |tags B=>obtain⟨T,R,O,_⟩:=Z;exact .inl<|by omega
 |pair a b=>obtain⟨T,R,O,N,_⟩:=Z;exact .inr N
def My{L:kO}(e:Z.map (·.1)=L.map (λk=>(Sum.inr k.1:Key)))(h:y∉L.map (·.1)):VC Z (Sum.inr y)=none:=by
 unfold VC
 cases q:Z.find? λJ=>decide (J.1=Sum.inr y)with
 |none=>rfl
 |some J=>
  have m:=yp q;have M:=List.find?_some q;have z:J.1=Sum.inr y:=Zt M;have G:(Sum.inr y:Key)∈Z.map (·.1):=ZW.mpr ⟨J,m,z⟩;rw[e]at G;obtain⟨k,N,O⟩:=ZW.mp G;exact Zr (ZW.mpr ⟨k,N,Sum.inr.inj O⟩) h
def UB{Z:kO}{s:Shp}(h:z∈(Z++[(y,s)]).map (·.1))(n:z≠y):z∈Z.map (·.1):=by
 rw[ZK,ZX]at h;rcases h with h|h
 .exact h
 .exact Zr (ZQ.mp h) n
def KR.snoc(k:KR H S Z d)(t:TL H A)(L:KK 30 c d Z)(P:KK1 30 c d (Z.map (·.1)) y s)(E:y∉Z.map (·.1))(M:S'.sh=putK S.sh (Sum.inr y) v)(hv:Has A v s.dat)(R:S'.wo=putK S.wo (Sum.inr y) (.ref r))(hr:∃D,A r=some (.lst D)/\HasL A D ((wOf Z 3 s).map W.dat))(B:S'.he=putK S.he (Sum.inr y) (.int (hOf Z 3 s:Nat)))(T:S'.pd=putK S.pd (Sum.inr y) (.int (d y:Nat)))(C:∀x:Str,VC S'.tk (Sum.inr x)=if JK x s=true then some (.str y)else VC S.tk (Sum.inr x))(i:S'.tk.length<=S.tk.length+4)(I:∀x,JK x s=true->JE Z x=none)(X:∀a b:Str,VC S'.pk [Sum.inr a,Sum.inr b]=if V2 a b s=true then some (.str y)else VC S.pk [Sum.inr a,Sum.inr b])(h:S'.pk.length<=S.pk.length+4)(U:∀a b,V2 a b s=true->Vt Z a b=none):
  KR A S' (Z++[(y,s)]) d:=by
 have Q:=k.tl t;have j:=My k.ke E
 have hw:Y3 (Z++[(y,s)]) 3 y=wOf Z 3 s:=by
  rw[X6 (Gk E)]
  cases s with
  |tags m=>rfl
  |pair a b=>
   obtain⟨O,N,w,u,f,p⟩:=P;have o:=vq (d a)<|d b;have l:=vo (d a)<|d b;show(W.non::_)=(W.non::_);rw[Jl L _ 2 a O,Jl L _ 2 b N,J7 L 2 3 a O (by omega)<|by omega,J7 L 2 3 b N (by omega) (by omega)]
 have hh:Xa (Z++[(y,s)]) 3 y=hOf Z 3 s:=by
  rw[Xs (Gk E)]
  cases s with
  |tags m=>rfl
  |pair a b=>
   obtain⟨O,N,w,u,f,p⟩:=P;have o:=vq (d a)<|d b;have l:=vo (d a)<|d b;show 1+_+_=1+_+_;rw[UW L _ 2 a O,UW L _ 2 b N,XD L 2 3 a O (by omega)<|by omega,XD L 2 3 b N (by omega) (by omega)]
 have F:∀{z:Str},z≠y->¬(Sum.inr z:Key)=Sum.inr y:=λn q=>n<|Sum.inr.inj q;obtain⟨b1,b2,b3,b4,b5,b6⟩:=k.ln;exists ?_,λz g G=>?_,λz G=>?_,λz G=>?_,λz G=>?_,λx=>?_,λa b=>?_
 .rw [M,V7 v j,ZK,ZK,k.ke];rfl
 .rw [M,Vy]
  by_cases e:z=y
  .subst e
   rw[Gk E]at G;cases G;rw[Zp rfl];exact⟨v,Y,hv⟩
  .rw [Zq (F e)]
   have J:=UB (ZW.mpr ⟨_,Xh G,rfl⟩) e;rw[WG J]at G;exact Q.sh z g G
 .rw [R,Vy]
  by_cases e:z=y
  .subst e
   rw[Zp rfl,hw];obtain⟨D,g1,g2⟩:=hr;exact⟨r,D,Y,g1,g2⟩
  .rw [Zq (F e)]
   have J:=UB G e;rw[Jl L _ 3 z J];exact Q.wo z J
 .rw [B,Vy]
  by_cases e:z=y
  .subst e
   rw[Zp rfl,hh]
  .rw [Zq (F e)]
   have J:=UB G e;rw[UW L _ 3 z J];exact k.he z J
 .rw [T,Vy]
  by_cases e:z=y
  .subst e
   rw[Zp rfl]
  .rw [Zq (F e)]
   exact k.pd z<|UB G e
 .rw [C x]
  have e:JE (Z++[(y,s)]) x=(JE Z x).or (if JK x s=true then some y else none):=by
   unfold JE;rw[XF]
   cases Z.find? λk=>JK x k.2 with
   |some k=>rfl
   |none=>
    show Option.map _ (if JK x s=true then some (y,s)else none)=_;cases JK x s <;> rfl
  rw[e]
  cases hx:JK x s with
  |true=>rw[I x hx];rfl
  |false=>
   rw[k.tk x];cases JE Z x <;> rfl
 .rw [X a b]
  have e:Vt (Z++[(y,s)]) a b=(Vt Z a b).or (if V2 a b s=true then some y else none):=by
   unfold Vt;rw[XF]
   cases Z.find? λk=>V2 a b k.2 with
   |some k=>rfl
   |none=>
    show Option.map _ (if V2 a b s=true then some (y,s)else none)=_;cases V2 a b s <;> rfl
  rw[e]
  cases hx:V2 a b s with
  |true=>rw[U a b hx];rfl
  |false=>
   rw[k.pk a b];cases Vt Z a b <;> rfl
 .rw [ZL,yg,M,R,B,T]
  have:=VW S.sh (Sum.inr y) v;have:=VW S.wo (Sum.inr y)<|.ref r;have:=VW S.he (Sum.inr y)<|.int (hOf Z 3 s:Nat);have:=VW S.pd (Sum.inr y)<|.int (d y:Nat);exact⟨by omega,by omega,by omega,by omega,by omega,by omega⟩
end L2
namespace K4
open PySem L2
section
variable{f g C gt gp gn:Addr}
def Rx(C:Addr):Sp:=λM H Q _=>∃(A:KA6)(S:KC)(y:Str)(v:V)(s:Shp)(Z:kO)(c d:kP),M=[.ref A.t,.str y,v]/\KD H C A S/\KR H S Z d/\KK 30 c d Z/\KK1 30 c d (Z.map (·.1)) y s/\y∉Z.map (·.1)/\
 (1<=y.length/\y.length<=8/\∀c∈y.cps.toList,97<=c/\c<97+26)/\(∀G,s=.tags G->Wds 65 G)/\(∀x,JK x s=true->JE Z x=none)/\(∀a b,V2 a b s=true->Vt Z a b=none)/\Has H v s.dat/\Z.length<=6/\
 ∀J L,KFr A H J->KD J C A L->KR J L (Z++[(y,s)]) d->Q .non J
def yX(A:KA6):(Wc A).lookup ("take_tags":Str)=none:=rfl
def yY(A:KA6):(Wc A).lookup ("take_pair":Str)=none:=rfl
def Oj:Yh ["self","name","shape"] ["self","name","shape"] (Yc Be):=Y5
def Ko(B:Blt mg)(T:KCl K C)(F:Fun K "take" "Kinds.take" Be f fd)(GN:Yf P w K mg base CX0 n gn nd' ["text"] (Ut 97))(bN:Binds K nd' ["text"] [])(kN:W.keepIn K (.ref gn)=true)(mN:mg "is_name"=some (.ref gn))(GT:Yf P w K mg base CX0 n gt td ["self","name","tags"] (BH C))(bT:Binds K td ["self","name","tags"] [])(mT:VI K C "take_tags" gt)(GP:Yf P w K mg base CX0 n gp pd' ["self","name","one","other"] (Rv C))(bP:Binds K pd' ["self","name","one","other"] [])(mP:VI K C "take_pair" gp):
  Yf P w K mg base CX0 (n+1) f fd ["self","name","shape"] (Rx C):=by
 refine F.oq Oj λM2 A J2 s H vs Q E hr h=>?_;obtain⟨M,S,y,v,s,U,c,d,rfl,kd,R,o,k1,ny,⟨y1,y8,yc⟩,wt,D,I,hv,k6,q⟩:=h;have hu:=V9 hr;refine⟨_,YY (Y1 (Jk<|JR<|Jd GN hr rfl mN kN bN .nil Y2 (pa1<|pv 1)) (YZ V5) Yp)
  (YY (Y1 (Jp<|Uw hu (pv 1)<|Yn (pv 0) rfl) (YZ V5) Yp)
  (YY (Y1 (PW.pt<|MS (Yr VZ (VA Y7 rfl B.len Zu (pa1<|pv 2)) Ya<|Yz _)<|W6<|Yr VZ (Yo Yt (pv 2) Ya) Yy<|Yz _)
   (YZ<|VQ<|Y6 (pv 0) T.cl mT GT hr bT .nil Y2<|pa2 (pv 1)<|Yo Yt (pv 2) Ya)
   (YZ (Y1 (PW.pt<|MS (Yr VZ (VA Y7 rfl B.len Zu (pa1<|pv 2)) Ya<|Yz _)<|W6<|Yr VZ (Yo Yt (pv 2) Ya) Yy<|Yz _)
    (YZ<|VQ<|Y6 (pv 0) T.cl mP GP hr bP .nil Y2<|pa3 (pv 1) (Yo Yt (pv 2) Ya)<|Yo Yt (pv 2) Ya)
    (YZ V5))))
  (YZ<|Vc hu (Yn (pv 0) rfl) (pv 1) (pv 2) rfl))),?_⟩
 show let a:=_;let b:=_;let c:=_;let d:=_;let e:=VE _ c d;let f:=Yk (VE _ b e) a;let g:=_;let h:=Yk (VE _ g _) f;let i:=_;Yk (VE _ i _) h _ _ _
 intros
 refine⟨y,Y,y1,y8,yc,λH1 s1=>⟨_,Y,?_⟩⟩;refine Y0 (by simp) ?_;have J:=kd.mono s1;have X:=R.tl s1.tl;have N:=hv.mono s1;have gn:Vg H1 M.sh (.str y) none:=by rw[<-My R.ke ny];exact Vg.k (k:=Sum.inr y) J.sh
 exists C,_,_,_,J.ins,T.cl,T.sh,Mn _,_,gn,_,Y;refine Y0 (by simp) ?_;obtain⟨b1,b2,b3,b4,b5,b6⟩:=R.ln
 cases s with
 |tags u=>
  obtain⟨p,l,rfl,O,hl⟩:=Xw N;have l2:([V.str "tags",V.ref l]:kH).length=2:=rfl;exists p,_,Y,.inr<|Z2 O,rfl,_,rfl;refine VH (by simp) ?_;exists _,_,Z2 O,Y,Y,_,Y;refine VH (by simp) ?_;obtain⟨t1,t4,_,t0,_⟩:=k1;refine⟨_,_,J.ins,yX _,_,_,Z2 O,Y,M,S,y,l,u,Y,J,hl,t1,t4,wt u Y,λx hx=>?_,by omega,by omega,by omega,by omega,λH2 L1 r f2 Z tv tl t=>?_⟩
  .rw [R.tk x,D x (by unfold JK;exact decide_eq_true hx)];rfl
  .have tl2:=f2.tl J
   refine⟨C,_,_,_,Z.ins,T.cl,T.sh,Mn _,_,Jh.k (k:=Sum.inr y) Z.sh<|Yj (by show S.sh.length<=1000;omega),?_⟩;have j:=Z.put_sh<|putK S.sh (Sum.inr y)<|.ref p;have f3:=f2.put (x:=M.sh) (by simp[KA6.ds])<|.dK<|putK S.sh (Sum.inr y)<|.ref p;have G:=tl2.trans<|(KFr.put (KFr.refl M H2) (x:=M.sh) (by simp[KA6.ds])<|.dK<|putK S.sh (Sum.inr y)<|.ref p).tl Z;have L:=(KFr.put (KFr.refl M H2) (x:=M.sh) (by simp[KA6.ds])<|.dK<|putK S.sh (Sum.inr y)<|.ref p).tl Z;refine q _ _ (s1.kfr.trans f3) j<|KR.snoc (v:=.ref p) (r:=r) X G o ⟨t1,t4,by assumption,t0,by assumption⟩ ny rfl (Has.tl G _ N) rfl ⟨_,L.2 _ _ t,?_⟩ rfl (by rw[t0];rfl) (λx=>?_) tl D (λa b=>rfl) (vf _ _) I
   .show HasL _ (V.non::u.map V.str) ((W.non::u.map W.tag).map W.dat)
    exact Z4 EY<|M5 u
   .rw [tv x]
    unfold JK
    by_cases m:x∈u
    .rw [Zp m,Zp (decide_eq_true m)]
    .rw [Zq m,Zq (by simp[m])]
 |pair a b=>
  obtain⟨p,rfl,O⟩:=Ug N;obtain⟨q1,q2,q3,q4,q5,q6⟩:=id k1;have m1:=vq (d a)<|d b;have m2:=vo (d a)<|d b;exists p,_,Y,.inr<|Z2 O,rfl,_,rfl;refine Y0 (by simp) ?_;refine Y0 (by simp) ?_;exists p,_,Y,.inr<|Z2 O,rfl,_,rfl;refine VH (by simp) ?_;exists _,_,Z2 O,Y,Y,_,Y;refine VH (by simp) ?_;obtain⟨la,pa,_⟩:=UL o 3 a q1 (by omega);obtain⟨lb,pb,_⟩:=UL o 3 b q2<|by omega
  have pt:∀z,z∈U.map (·.1)->Pt H1 S z (Y3 U 3 z) (Xa U 3 z) (d z):=λz hz=>by
   obtain⟨s',G3⟩:=JM hz;obtain⟨v',e1,_⟩:=R.sh z s' G3;exact⟨by rw[e1];rfl,X.wo z hz,R.he z hz,R.pd z hz⟩
  have ca:c a<=30:=by rcases C8 o q1 with h|h <;> omega
  have cb:c b<=30:=by rcases C8 o q2 with h|h <;> omega
  refine⟨_,_,J.ins,yY _,_,_,Z2 O,Y,_,_,Z2 O,Y,M,S,y,a,b,Y3 U 3 a,Y3 U 3 b,Xa U 3 a,Xa U 3 b,d a,d b,Y,J,pt a q1,pt b q2,?_,by omega,?_,by omega,by omega,by omega,by omega,by omega,by omega,λz=>by subst z;exact ny q1,λz=>by subst z;exact ny q2,λH2 r f2 Z t=>?_⟩
  .rw [R.pk a b,I a b (by unfold V2;simp)];rfl
  .rw [la,lb];omega
  .have tl2:=f2.tl J
   refine⟨C,_,_,_,Z.ins,T.cl,T.sh,Mn _,_,Jh.k (k:=Sum.inr y) Z.sh<|Yj (by show S.sh.length<=1000;omega),?_⟩;have j:=Z.put_sh<|putK S.sh (Sum.inr y)<|.ref p;have f3:=f2.put (x:=M.sh) (by simp[KA6.ds])<|.dK<|putK S.sh (Sum.inr y)<|.ref p;have L:=(KFr.put (KFr.refl M H2) (x:=M.sh) (by simp[KA6.ds])<|.dK<|putK S.sh (Sum.inr y)<|.ref p).tl Z;have G:=tl2.trans L;obtain⟨xs,G2,G1⟩:=t;refine q _ _ (s1.kfr.trans f3) j<|KR.snoc (v:=.ref p) (r:=r) X G o k1 ny rfl (Has.tl G _ N) rfl ⟨xs,L.2 _ _ G2,HasL.tl L _ G1⟩ rfl (by rw[q5]) (λx=>rfl) (vf _ _) D (λe g=>?_) (by have:=VW S.pk [Sum.inr a,Sum.inr b]<|.str y;show(putK S.pk [Sum.inr a,Sum.inr b]<|V.str y).length<=_;omega) I;show VC (putK S.pk [Sum.inr a,Sum.inr b]<|V.str y) [Sum.inr e,Sum.inr g]=_;rw[Vy];unfold V2
   by_cases h1:a=e
   .by_cases h2:b=g
    .subst h1 h2;simp
    .have z:¬([Sum.inr e,Sum.inr g]:List Key)=[Sum.inr a,Sum.inr b]:=λw=>by injection w with w1 w2;injection w2 with w2 _;exact h2 (Sum.inr.inj w2).symm
     rw[Zq z,Zq (by simp[h2])]
   .have z:¬([Sum.inr e,Sum.inr g]:List Key)=[Sum.inr a,Sum.inr b]:=λw=>by injection w with w1 _;exact h1 (Sum.inr.inj w1).symm
    rw[Zq z,Zq (by simp[h1])]
end
end K4
namespace L2
open PySem
def Jg(L:H x=some (.ins C Z fs))(G:H p=none):
  upd (upd H p o) x (.ins C Z<|VR f (.ref p) fs) x=some (.ins C Z<|VR f (.ref p) fs)/\upd (upd H p o) x (.ins C Z<|VR f (.ref p) fs) p=some o/\p≠x/\∀b u,b≠x->H b=some u->upd (upd H p o) x (.ins C Z<|VR f (.ref p) fs) b=some u:=by
 have J:p≠x:=(Yb L G).symm;exact⟨Ye,(Yg J).trans Ye,J,λb u M h=>by rw[Yg M,Yg (Yb h G)];exact h⟩
def KK.take(h:KK top c d J)(i:Nat):KK top c d (J.take i):=λj y s e=>by
 have Z:j<i:=by
  have:=(ZF.mp e).1;rw[ZN]at this;omega
 rw[j8,Zp Z]at e;have q:=h j y s e;rw[List.take_take,vm (Zh Z)];exact q
def Pu{i j a b:Nat}(h:4*i+a=4*j+b)(J:a<4)(Z:b<4):i=j:=by omega
def KG.apart(g:KG M){i j:Nat}(E:M[i]?=some (y,.tags G))(D:M[j]?=some (z,.tags J))(A:x∈G)(F:x∈J):i=j:=by
 obtain⟨Z,wd,q⟩:=g.tg;obtain⟨r,X,rfl⟩:=q i y G E;obtain⟨C,B,rfl⟩:=q j z J D;obtain⟨a,O,T⟩:=vi.mp A;obtain⟨b,N,R⟩:=vi.mp F;rw[ZN,vO]at O N;obtain⟨Q,U⟩:=Nat.lt_min.mp O;obtain⟨P,S⟩:=Nat.lt_min.mp N;rw[List.getElem_take,List.getElem_drop]at T R;have e:Z[4*i+a]'(Nat.add_lt_of_lt_sub' U)=Z[4*j+b]'(Nat.add_lt_of_lt_sub' S):=T.trans R.symm;have L:=ve.mp wd.nd
 have I:4*i+a=4*j+b:=by
  rcases qg (4*i+a) (4*j+b)with h|h|h
  .exact Zr e (L _ _ _ _ h)
  .exact h
  .exact Zr e.symm (L _ _ _ _ h)
 exact Pu I (by omega)<|by omega
def KG.ntk(g:KG Z)(T:Z[i]?=some (y,s))(x:Str)(h:JK x s=true):JE (Z.take i) x=none:=by
 cases s with
 |pair a b=>cases h
 |tags N=>
  have R:x∈N:=Zt h;unfold JE
  cases e:(Z.take i).find? λk=>JK x k.2 with
  |none=>rfl
  |some k=>
   have m:=yp e;have q:=List.find?_some e;obtain⟨z,O⟩:=k
   cases O with
   |pair a b=>cases q
   |tags L=>
    have J:x∈L:=Zt q;obtain⟨j,M,B⟩:=vi.mp m;have G:j<i:=by rw[ZN]at M;omega
    have D:Z[j]?=some (z,.tags L):=by
     have:=ZD M;rw[B,j8,Zp G]at this;exact this
    have:=g.apart T D R J;omega
def KG.npk(g:KG J)(N:J[i]?=some (y,s))(a b:Str)(h:V2 a b s=true):Vt (J.take i) a b=none:=by
 have L:∀{Z:Shp},V2 a b Z=true->Z=.pair a b:=λ{Z} h=>by
  cases Z with
  |tags D=>cases h
  |pair c e=>
   unfold V2 at h;rw[ZZ]at h;rw[Zt h.1,Zt h.2]
 unfold Vt
 cases e:(J.take i).find? λk=>V2 a b k.2 with
 |none=>rfl
 |some k=>
  have m:=yp e;have q:=List.find?_some e;obtain⟨z,Z⟩:=k;have B:=L h;have R:Z=.pair a b:=L q;subst B R;obtain⟨j,M,O⟩:=vi.mp m;have G:j<i:=by rw[ZN]at M;omega
  have T:J[j]?=some (z,.pair a b):=by
   have:=ZD M;rw[O,j8,Zp G]at this;exact this
  have:=g.pr i j y z a b N T;omega
end L2
namespace K4
open PySem L2
section
variable{f g C gt:Addr}
def BK(C:Addr):Sp:=λL H Q _=>∃(x M l:Addr)(G:kH)(Z:kO)(c d:kP),L=[.ref x,.ref l]/\H x=some (.ins C M [])/\H l=some (.lst G)/\HasL H G (Z.map NZ)/\KK 30 c d Z/\(Z.map (·.1)).Nodup/\KG Z/\0<Z.length/\Z.length<=6/\
 ∀J,(∀b o,b≠x->H b=some o->J b=some o)->KI J C x Z d->Q .non J
def C5(A:KA6):(Wc A).lookup ("take":Str)=none:=rfl
def BS:Yh ["self","told","name","shape"] ["self","told"] (Yc Iy):=Y5
def PV(B:Blt mg)(T:KCl K C)(F:Fun K "__init__" "Kinds.__init__" Iy f fd)(hM:mg "MOST_KINDS"=some u)(rM:RelV (.int 6) u)(GT:Yf P w K mg base CX0 n gt td ["self","name","shape"] (Rx C))(bT:Binds K td ["self","name","shape"] [])(mT:VI K C "take" gt):
  Yf P w K mg base CX0 (n+1) f fd ["self","told"] (BK C):=by
 refine F.oq BS λI6 A T2 s H vs Q E hr h=>?_;obtain⟨x,M,l,xs,ks,c,d,rfl,hx,hl,G3,kk,nd,kg,k0,k6,q⟩:=h;refine⟨_,YY (Y1 (Jk<|Gy Xp Xp Ya (VA Y7 rfl B.len Zu (pa1<|pv 1))<|JF rfl hM rM) (YZ V5) Yp)
  (YY (VT (pv 0) V0 rfl) (YY (VT (pv 0) V0 rfl) (YY (VT (pv 0) V0 rfl) (YY (VT (pv 0) V0 rfl) (YY (VT (pv 0) V0 rfl) (YY (VT (pv 0) KQ rfl)
  (YZ (Jb Zv rfl (JP<|pv 1) (Vd (n:=2) rfl (Ys (Yl 2 BS.nd)<|Ys (Yl 3 BS.nd) VN))
   (YZ<|VQ<|Y6 (pv 0) T.cl mT GT hr bT .nil Y2<|pa2 (pv 2)<|pv 3))))))))),?_⟩
 show let a:=_;let b:=XH _ _ a;let c:=Yk _ b;let d:=Yk _ c;let e:=Yk _ d;let f:=Yk _ e;let g:=Yk _ f;let h:=Yk _ g;let i:=_;Yk (VE _ i _) h _ _ _
 intros
 have lx:=G3.length;rw[ZA]at lx;exists l,_,Y,.inl<|Z3 hl,_,rfl;refine VH (by simp;omega) ?_;exists _,Y;refine Y0 (by simp;omega) ?_;intro X J2;refine⟨x,C,M,_,Y,by rw[Yg (Yb hx J2)];exact hx,T.cl,T.sh,by decide,?_⟩;obtain⟨x1,a1,n1,r⟩:=Jg (f:="shapes") (o:=.dK []) hx J2;generalize upd (upd H X<|.dK []) x (.ins C M<|VR "shapes" (.ref X) [])=H1 at x1 a1 r |-;intro p2 N;refine⟨x,C,M,_,Y,by rw[Yg (Yb x1 N)];exact x1,T.cl,T.wo,(by show 1<1000;decide),?_⟩;obtain⟨x2,a2,n2,p⟩:=Jg (f:="worths") (o:=.dK []) x1 N;generalize upd (upd H1 p2<|.dK []) x (.ins C M<|VR "worths" (.ref p2)<|VR "shapes" (.ref X) [])=H2 at x2 a2 p |-;intro p3 L;refine⟨x,C,M,_,Y,by rw[Yg (Yb x2 L)];exact x2,T.cl,T.he,(by show 2<1000;decide),?_⟩;obtain⟨x3,a3,n3,k⟩:=Jg (f:="heights") (o:=.dK []) x2 L;generalize upd (upd H2 p3<|.dK []) x (.ins C M<|VR "heights" (.ref p3)<|VR "worths" (.ref p2)<|VR "shapes" (.ref X) [])=H3 at x3 a3 k |-;intro p4 G;refine⟨x,C,M,_,Y,by rw[Yg (Yb x3 G)];exact x3,T.cl,T.pd,(by show 3<1000;decide),?_⟩;obtain⟨x4,a4,n4,m⟩:=Jg (f:="pairs_deep") (o:=.dK []) x3 G;generalize upd (upd H3 p4<|.dK []) x (.ins C M<|VR "pairs_deep" (.ref p4)<|VR "heights" (.ref p3)<|VR "worths" (.ref p2)<|VR "shapes" (.ref X) [])=H4 at x4 a4 m |-;intro p5 J;refine⟨x,C,M,_,Y,by rw[Yg (Yb x4 J)];exact x4,T.cl,T.tk,(by show 4<1000;decide),?_⟩;obtain⟨x5,a5,n5,t⟩:=Jg (f:="tag_kinds") (o:=.dK []) x4 J;generalize upd (upd H4 p5<|.dK []) x (.ins C M<|VR "tag_kinds" (.ref p5)<|VR "pairs_deep" (.ref p4)<|VR "heights" (.ref p3)<|VR "worths" (.ref p2)<|VR "shapes" (.ref X) [])=H5 at x5 a5 t |-;intro p6 Z;refine⟨x,C,M,_,Y,by rw[Yg (Yb x5 Z)];exact x5,T.cl,T.pk,(by show 5<1000;decide),?_⟩;obtain⟨x6,a6,n6,j⟩:=Jg (f:="pair_kinds") (o:=.dT []) x5 Z;generalize upd (upd H5 p6<|.dT []) x (.ins C M<|VR "pair_kinds" (.ref p6)<|VR "tag_kinds" (.ref p5)<|VR "pairs_deep" (.ref p4)<|VR "heights" (.ref p3)<|VR "worths" (.ref p2)<|VR "shapes" (.ref X) [])=H6 at x6 a6 j |-
 let D:KA6:=⟨x,M,X,p2,p3,p4,p5,p6⟩
 have frame:∀b o,b≠x->H b=some o->H6 b=some o:=λb o R h=>j b o R<|t b o R<|m b o R<|k b o R<|p b o R<|r b o R h;have T0:=p _ _ n1 a1;have R8:=k _ _ n1 T0;have R7:=m _ _ n1 R8;have R6:=t _ _ n1 R7;have I4:=j _ _ n1 R6;have R5:=k _ _ n2 a2;have R4:=m _ _ n2 R5;have R3:=t _ _ n2 R4;have I3:=j _ _ n2 R3;have R1:=m _ _ n3 a3;have O1:=t _ _ n3 R1;have I2:=j _ _ n3 O1;have M2:=t _ _ n4 a4;have I1:=j _ _ n4 M2;have F9:=j _ _ n5 a5
 have T4:D.ds.Nodup:=by
  have F8:=Yb a1 N;have F7:=Yb T0 L;have F6:=Yb R8 G;have F5:=Yb R7 J;have F4:=Yb R6 Z;have F3:=Yb a2 L;have F2:=Yb R5 G;have F1:=Yb R4 J;have E3:=Yb R3 Z;have E2:=Yb a3 G;have E1:=Yb R1 J;have D3:=Yb O1 Z;have D2:=Yb a4 J;have D1:=Yb M2 Z;have D0:=Yb a5 Z;simp[KA6.ds,D,F8,F7,F6,F5,F4,F3,F2,F1,E3,E2,E1,D3,D2,D1,D0]
 have kd:KD H6 C D ⟨[],[],[],[],[],[]⟩:=⟨x6,I4,I3,I2,I1,F9,a6,T4⟩
 have T3:∀b,b∈D.ds->H b=none:=λb R=>by
  cases e:H b with
  |none=>rfl
  |some o=>
   simp only[KA6.ds,D,Zd,jh,or_false]at R;rcases R with z|z|z|z|z|z
   .subst z;rw[J2]at e;cases e
   .subst z;rw[r _ _ n2 e]at N;cases N
   .subst z;rw[p _ _ n3 (r _ _ n3 e)]at L;cases L
   .subst z;rw[k _ _ n4 (p _ _ n4<|r _ _ n4 e)]at G;cases G
   .subst z;rw[m _ _ n5 (k _ _ n5<|p _ _ n5<|r _ _ n5 e)]at J;cases J
   .subst z;rw[t _ _ n6 (m _ _ n6<|k _ _ n6<|p _ _ n6<|r _ _ n6 e)]at Z;cases Z
 have T5:l≠x:=JW hl hx (by intro z;cases z);have L1:=frame _ _ T5 hl;have G1:TL H H6:=⟨λb ys h=>frame _ _ (JW h hx (by intro z;cases z)) h,λb ys h=>frame _ _ (JW h hx (by intro z;cases z)) h⟩;have T7:=HasL.tl G1 _ G3;exists ⟨_,Z3 L1⟩
 let I:kI:=λi U H'=>∃S z1 z2,KFr D H6 H'/\KD H' C D S/\KR H' S (ks.take i) d/\U=[some (.ref x),some<|.ref l,z1,z2]
 refine Pz (xs:=xs) I ⟨_,_,_,KFr.refl _ _,kd,?_,Y⟩ ?_ ?_ ?_
 .rw [vE]
  exact⟨Y,λy s e=>by simp[Va]at e,λy hy=>by simp at hy,λy hy=>by simp at hy,λy hy=>by simp at hy,λy=>Y,λa b=>Y,by decide⟩
 .rintro i U H' _ ⟨S,z1,z2,fr,kd',kr',rfl⟩
  exact Z3<|(fr.tl kd).2 _ _ L1
 .rintro BB RR i v U H' hv ⟨S,z1,z2,fr,kd',kr',rfl⟩
  have I5:=(ZF.mp hv).1;obtain⟨dv,O,T9⟩:=T7.get hv;rw[ZH]at O
  cases hk:ks[i]? with
  |none=>rw[hk]at O;cases O
  |some ys=>
   rw[hk]at O;cases O;obtain⟨y,sh⟩:=ys;have T1:=fr.tl kd;obtain⟨a,v2,rfl,ha,T8⟩:=Lb<|Has.tl T1 _ T9;have my:y∈ks.map (·.1):=ZW.mpr ⟨_,ZJ hk,rfl⟩
   have ny:y∉(ks.take i).map (·.1):=λhm=>by
    have q':((ks.take i++[(y,sh)]).map (·.1)).Nodup:=by rw[<-take_snoc hk];exact nd.sublist<|(vv _ _).map _
    rw[ZK]at q';exact(vx.mp q').2.2 y hm y (by simp) rfl
   exists _,Z2 ha,Y;refine⟨_,_,kd'.ins,C5 D,D,S,y,v2,sh,ks.take i,c,d,Y,kd',kr',kk.take i,kk i y sh hk,ny,⟨(kg.nm.len y my).1,(kg.nm.len y my).2,kg.nm.abc y my⟩,λts e=>?_,kg.ntk hk,kg.npk hk,T8,by rw[ZN];omega,λH2 S2 f2 T6 G2=>?_⟩
   .subst e
    exact kg.tags<|ZJ hk
   .rw [<-take_snoc hk]at G2
    exact⟨S2,_,_,fr.trans f2,T6,G2,Y⟩
 .rintro U H' ⟨S,z1,z2,fr,kd',kr',rfl⟩
  rw[Zg (by omega)]at kr';refine q H' (λb o R h=>fr b o (λhm=>?_)<|frame b o R h) ⟨D,S,rfl,kd',kr'⟩;rw[T3 b hm]at h;cases h
end
end K4
namespace L2
open PySem
def Tc{α:Type}{p:α->Bool}{l:List α}{x:α}(h:(l.take i).find? p=none)(e:l[i]?=some x)(Z:p x=true):l.find? p=some x:=by
 have J:=(ZF.mp e).1;have G:l.drop i=x::l.drop (i+1):=by rw[List.drop_eq_getElem_cons J,(ZF.mp e).2]
 rw[<-jN i l,List.find?_append,h,G,vc,Z]
 rfl
def QR(h:Va Z y=some s):∃i:Nat,Z[i]?=some (y,s):=ym.mp<|Xh h
def BC(g:KG Z)(h:Va Z y=some (.tags J))(m:t∈J):JE Z t=some y:=by
 obtain⟨i,L⟩:=QR h;have G:JK t (.tags J)=true:=by unfold JK;exact decide_eq_true m
 have n:=g.ntk L t G;unfold JE at n |-
 rw[Tc (by cases e:(Z.take i).find? λk=>JK t k.2 with
  |none=>rfl
  |some k=>rw[e]at n;cases n) L G]
 rfl
def NM(g:KG Z)(h:Va Z y=some (.pair a b)):Vt Z a b=some y:=by
 obtain⟨i,G⟩:=QR h;have J:V2 a b (.pair a b)=true:=by unfold V2;simp
 have n:=g.npk G a b J;unfold Vt at n |-
 rw[Tc (by cases e:(Z.take i).find? λk=>V2 a b k.2 with
  |none=>rfl
  |some k=>rw[e]at n;cases n) G J]
 rfl
def LZ(h:Has H v (.tup [.str b,d])):∃a u,v=.ref a/\H a=some (.tup [.str b,u])/\Has H u d:=by
 obtain⟨t,R,rfl,L,M⟩:=Yw h;obtain⟨T,D,rfl,O,J⟩:=Yd M;obtain⟨G,B,rfl,N,Z⟩:=Yd J;obtain rfl:=VD Z;obtain rfl:=has_str O;exact⟨t,G,Y,L,N⟩
def Fp:List (Option Str)->Option (ky)
 |[]=>some []
 |none::_=>none
 |some x::r=>(Fp r).map (x:: ·)
theorem N1:∀Z:ky,Fp (Z.map some)=some Z
 |[]=>rfl
 |z::Z=>by show(Fp<|Z.map some).map (z:: ·)=_;rw[N1 Z];rfl
theorem Re:∀{l:List (Option Str)},none∈l->Fp l=none
 |none::l,_=>rfl
 |some y::l,h=>by
  show(Fp l).map (y:: ·)=none;rw[Re ((Zd.mp h).resolve_left λe=>nomatch e)];rfl
theorem Eu:∀{l:List (Option Str)},none∉l->∃Z,l=List.map some Z
 |[],_=>⟨[],rfl⟩
 |none::_,h=>Zr Za h
 |some y::l,h=>let⟨Z,e⟩:=Eu (l:=l) λm=>h<|ZM _ m;⟨y::Z,by rw[e];rfl⟩
def Ob:V->Option Str
 |.str y=>some y
 |_=>none
open Classical in
noncomputable def own (ks:kO) (hd:Hds) (kv:kF):Bd->List Str->Option Str
 |.tag t,_=>JE ks t
 |.name x,_=>(VC kv<|Sum.inr x).bind Ob
 |.pair _ _,zs=>match zs with|[a,b]=>Vt ks a b|_=>none
 |.one _,zs=>match zs with|[z]=>(match Va ks z with|some (.pair a _)=>some a|_=>none)|_=>none
 |.other _,zs=>match zs with|[z]=>(match Va ks z with|some (.pair _ b)=>some b|_=>none)|_=>none
 |.choose _ ts _,zs=>match zs with|z::y::r=>if Va ks z=some (.tags ts)/\∀u∈r,u=y then some y else none|_=>none
 |.ask f _,zs=>match hd f with|some (ps,k)=>if ps.map (·.2)=zs then some k else none|none=>none
 |.letb _ z _ _,zs=>match zs with|[a,y]=>if a=z then some y else none|_=>none
def Js(ks:kO)(kv:kF):Bd->Prop
 |.letb x z _ _=>(VC kv<|Sum.inr x).isSome=true\/z∉ks.map (·.1)
 |_=>False
open Classical in
noncomputable def kdn (ks:kO) (hd:Hds):Nat->List (Key×V)->Bd->Option Str
 |0,_,_=>none
 |n+1,kv,b=>if Js ks kv b then none else(Fp<|b.parts.map<|kdn ks hd n<|wth kv b).bind (own ks hd kv b)
def GJ(h:Js J Z b):kdn J G (n+1) Z b=none:=by unfold kdn;exact Zp h
def TN(h:none∈b.parts.map (kdn J G n<|wth Z b)):kdn J G (n+1) Z b=none:=by
 unfold kdn;split
 .rfl
 .rw [Re h];rfl
def Me(h:¬Js J Z b)(e:b.parts.map (kdn J G n<|wth Z b)=L.map some):kdn J G (n+1) Z b=own J G Z b L:=by unfold kdn;rw[Zq h,e,N1];rfl
def NK(ns:ky)(kv:kF):Prop:=∀q∈kv,∃(x k:Str),q=(Sum.inr x,V.str k)/\k∈ns
def HK(ns:ky)(hd:Hds):Prop:=∀f Z k,hd f=some (Z,k)->k∈ns
def NK.wth(h:NK (J.map (·.1)) Z)(G:¬Js J Z b):NK (J.map (·.1)) (wth Z b):=by
 cases b with
 |letb x z e g=>
  intro q L;rcases KH L with m|rfl
  .exact h q m
  .exact ⟨x,z,rfl,Classical.not_not.mp λm=>G<|.inr m⟩
 |_=>exact h
def Nl{Z:kO}{p:Str×Shp->Bool}(h:(Z.find? p).map (·.1)=some y):y∈Z.map (·.1):=by
 obtain⟨k,J,rfl⟩:=Zj.mp h;exact ZW.mpr ⟨k,yp J,Y⟩
def NK.at(h:NK Z J)(e:VC J (Sum.inr x)=some v):∃k,v=.str k/\k∈Z:=by
 obtain⟨q,m,_,rfl⟩:=IJ e;obtain⟨_,k,rfl,G⟩:=h q m;exact⟨k,Y,G⟩
def O8(G:KK 30 c d Z)(N:NK (Z.map (·.1)) J)(R:HK (Z.map (·.1)) T)(L:∀z∈M,z∈Z.map (·.1))(h:own Z T J b M=some y):y∈Z.map (·.1):=by
 cases b with
 |tag t=>exact Nl h
 |name x=>
  obtain⟨v,O,e⟩:=Option.bind_eq_some_iff.mp (show(VC J<|Sum.inr x).bind Ob=some y from h);obtain⟨k,rfl,m⟩:=N.at O;cases e;exact m
 |pair a b=>
  unfold own at h;dsimp only at h;split at h
  .exact Nl h
  .cases h
 |one e=>
  unfold own at h;dsimp only at h;split at h
  .split at h
   .rename_i hs;cases h;exact(G.at hs).1
   .cases h
  .cases h
 |other e=>
  unfold own at h;dsimp only at h;split at h
  .split at h
   .rename_i hs;cases h;exact(G.at hs).2.1
   .cases h
  .cases h
 |choose e B D=>
  unfold own at h;dsimp only at h;split at h
  .split at h
   .cases h;exact L _<|by simp
   .cases h
  .cases h
 |ask f E=>
  unfold own at h;dsimp only at h;split at h
  .split at h
   .rename_i hf _;cases h;exact R _ _ _ hf
   .cases h
  .cases h
 |letb x z e g=>
  unfold own at h;dsimp only at h;split at h
  .split at h
   .cases h;exact L _<|by simp
   .cases h
  .cases h
theorem EV(L:KK 30 c d Z)(M:HK (Z.map (·.1)) G):∀(n:Nat)(J:kF)(b:Bd)(y:Str),NK (Z.map (·.1)) J->kdn Z G n J b=some y->y∈Z.map (·.1)
 |0,_,_,_,_,h=>nomatch h
 |n+1,J,b,y,nk,h=>by
  by_cases nb:Js Z J b
  .rw [GJ nb]at h;cases h
  by_cases hn:none∈b.parts.map (kdn Z G n<|wth J b)
  .rw [TN hn]at h;cases h
  obtain⟨R,N⟩:=Eu hn;rw[Me nb N]at h;refine O8 L nk M (λz O=>?_) h;have m:some z∈b.parts.map (kdn Z G n<|wth J b):=by rw[N];exact ZW.mpr ⟨z,O,Y⟩
  obtain⟨p,_,e⟩:=ZW.mp m;exact EV L M n _ p z (nk.wth nb) e
def Sj(N:KG L)(F:∀e G J,b=.choose e G J->1<=J.length)(h:Kr L D M y b R):own L D M b R=some y:=by
 cases b with
 |tag t=>obtain⟨_,G,Z,T⟩:=h;exact BC N Z T
 |name x=>obtain⟨_,Z⟩:=h;show(VC M<|Sum.inr x).bind Ob=_;rw[Z];rfl
 |pair a b=>obtain⟨U,O,rfl,Z⟩:=h;exact NM N Z
 |one e=>obtain⟨z,O,rfl,Z⟩:=h;show(match Va L z with|some (.pair a _)=>some a|_=>none)=_;rw[Z]
 |other e=>obtain⟨z,O,rfl,Z⟩:=h;show(match Va L z with|some (.pair _ b)=>some b|_=>none)=_;rw[Z]
 |choose e G J=>
  obtain⟨z,rfl,Z,I⟩:=h;have:=F e G J rfl;obtain⟨m,E⟩:∃m,J.length=m+1:=⟨J.length-1,by omega⟩;rw[E,vz];exact Zp ⟨Z,λu B=>List.eq_of_mem_replicate B⟩
 |ask f S=>
  obtain⟨A,Z,rfl⟩:=h;unfold own;dsimp only;rw[Z];exact Zp Y
 |letb x z e g=>obtain⟨rfl,_,_⟩:=h;exact Zp Y
theorem Kd.kdn(T:KG G)(O:∀z L,Va G z=some (.tags L)->1<=L.length):∀(n:Nat)(J:kF)(b:Bd)(y:Str),Kd G D J y b->b.dep<n->L2.kdn G D n J b=some y
 |0,_,_,_,_,h=>nomatch h
 |n+1,J,b,y,h,hn=>by
  obtain⟨Z,M,R,A⟩:=h.inv
  have E:¬Js G J b:=by
   cases b with
   |letb x z e g=>obtain⟨_,N,I⟩:=M;exact λm=>m.elim (λm=>by rw[N]at m;cases m) λm=>m I
   |_=>exact id
  have e:b.parts.map (L2.kdn G D n<|L2.wth J b)=Z.map some:=by
   refine List.ext_getElem? λi=>?_;rw[ZH,ZH]
   cases hp:b.parts[i]? with
   |none=>
    have:Z[i]?=none:=vp.mpr (by rw[R];exact vp.mp hp);rw[this];rfl
   |some p=>
    have S:i<Z.length:=by rw[R];exact(ZF.mp hp).1
    have B:Z[i]?=some Z[i]:=ZD S;have:=Bd.dep_mem<|ZJ hp;rw[B];exact congrArg some<|Kd.kdn T O n _ p _ (A i p _ hp B)<|by omega
  rw[Me E e];refine Sj T (λC L X U=>?_) M;subst U;obtain⟨z,_,N,F⟩:=M;rw[F];exact O _ _ N
def wrs(f:Bd->List (kB)):Nat->List Bd->List (kB)
 |_,[]=>[]
 |k,c::cs=>(f c).map (((k:Nat):Int):: ·)++ wrs f (k+1) cs
open Classical in
noncomputable def wr (ks:kO) (hd:Hds):Nat->List (Key×V)->Bd->List (kB)
 |0,_,_=>[]
 |n+1,kv,b=>if Js ks kv b then[[]]else if none∈b.parts.map (kdn ks hd n<|wth kv b)then wrs (wr ks hd n<|wth kv b) 0 b.parts else if kdn ks hd (n+1) kv b=none then[[]]else[]
theorem Rh{f:Bd->List (kB)}:∀(k:Nat)(Z J:List Bd),wrs f k (Z++ J)=wrs f k Z++ wrs f (k+Z.length) J
 |k,[],J=>by simp[wrs]
 |k,x::Z,J=>by
  have e:k+1+Z.length=k+(Z.length+1):=by omega
  simp[wrs,Rh (k+1) Z J,e]
def Fu{f:Bd->List (kB)}{Z:List Bd}(h:Z[i]?=some c):wrs f 0 (Z.take<|i+1)=wrs f 0 (Z.take i)++ (f c).map (((i:Nat):Int):: ·):=by
 have J:=(ZF.mp h).1;rw[take_snoc h,Rh];simp[wrs,ZN,vm (Zh J)]
theorem Rf{f:Bd->List (kB)}:∀(k:Nat)(Z:List Bd),wrs f k Z=[]↔∀c∈Z,f c=[]
 |k,[]=>by simp[wrs]
 |k,x::Z=>by simp[wrs,Rf (k+1) Z]
theorem Ri:∀(n:Nat)(Z:kF)(b:Bd),b.dep<n->(wr J G n Z b=[]↔kdn J G n Z b≠none)
 |0,_,_,h=>Zr h<|Zw _
 |n+1,Z,b,h=>by
  unfold wr
  by_cases c1:Js J Z b
  .rw [Zp c1,GJ c1];simp
  .rw [Zq c1]
   by_cases c2:none∈b.parts.map (kdn J G n<|wth Z b)
   .rw [Zp c2,TN c2]
    refine⟨λe=>?_,λe=>Zr Y e⟩;obtain⟨c,L,M⟩:=ZW.mp c2;have N:=Bd.dep_mem L;exact Zr M<|(Ri n (wth Z b) c<|by omega).mp<|(Rf 0 _).mp e c L
   .rw [Zq c2]
    by_cases c3:kdn J G (n+1) Z b=none
    .rw [Zp c3];simp[c3]
    .rw [Zq c3];simp[c3]
def OT(h:¬Js J Z b)(e:none∈b.parts.map (kdn J G n<|wth Z b)):wr J G (n+1) Z b=wrs (wr J G n<|wth Z b) 0 b.parts:=by
 unfold wr;rw[Zq h,Zp e]
def Fw(h:Js J Z b):[[]]=wr J G (n+1) Z b:=by unfold wr;rw[Zp h]
def Qu(h:¬Js J Z b)(e:none∉b.parts.map (kdn J G n<|wth Z b))(k:kdn J G (n+1) Z b=none):[[]]=wr J G (n+1) Z b:=by unfold wr;rw[Zq h,Zq e,Zp k]
def Fv{G:List Bd}(h:∀c∈G,c.dep<n):wrs (wr L M n J) k G=[]↔none∉G.map (kdn L M n J):=by
 rw[Rf]
 constructor
 .intro z m
  obtain⟨c,Z,e⟩:=ZW.mp m;exact(Ri n J c<|h c Z).mp (z c Z) e
 .intro z c Z
  exact(Ri n J c<|h c Z).mpr λe=>z<|ZW.mpr ⟨c,Z,e⟩
def Ey{f:Bd->List (kB)}{Z:List Bd}(h:Z[i]?=some c)(e:wrs f 0 (Z.take i)=[])(J:f c=w::r):∃t,wrs f 0 Z=(((i:Nat):Int)::w)::t:=by
 exists r.map (((i:Nat):Int):: ·)++ wrs f (0+(Z.take<|i+1).length) (Z.drop<|i+1)
 conv=>lhs;rw[<-jN (i+1) Z]
 rw[Rh,Fu h,e,J];simp
end L2
namespace L2
open PySem PySem.Spec PyProof.Rows
section
variable{X:Cx}{CX:CXT}{k:Nat}{E:XK}{ta ti:TE}{t:TA}
def Q9(X:Cx)(CX:CXT)(k:Nat)(E:XK)(ta:TE)(t:TA):TE:=λU H Q=>ta U H λv L=>∃(f:Addr)(G:FuncData)(J:ky)(Z:Sp),v=.ref f/\Yf X.prog X.w X.K X.mg X.base CX k f G J Z/\W.keepIn X.K (.ref f)=true/\Binds X.K G J []/\M6 Z [] E t U L Q
def KZ(S:PE X (.Name x p) ta)(D:Vo k X.A)(B:Um CX X E)(j:PA X (e::J) t)(C:starEach (e::J) X.env=(false,eval e X.env)::starEach J X.env:=by rfl)(G:(backTo pos<|starEach J X.env).any (·.1)=false:=by rfl):
  PE X (.Call (.Name x p) (e::J) [] pos) (Q9 X CX k E ta t):=by
 intro Z s U H Q I h;refine jd<|thn (S Z s U H _ I h) λu N ⟨v,z,M,R,f,r,w,c,y,F,A,P,q⟩=>?_;subst y;obtain rfl:u=Value.ref f:=R;refine jW (h₀:=X.base) M.ok.mod.kin A (thn (j pos Z N U z _ M q) λg d ⟨m,l,L,O,T⟩=>⟨L.kIn,?_⟩) C G;exact Gr F D P .nil B L O T
def As(a:Addr)(m:Key->Option Value)(ti:TE):TE:=λU H Q=>ti U H λv Z=>∃(q:Key)(u:Value)(y:V),v=kV q/\m q=some u/\RelV y u/\Q y Z
def O4(A:Gl X x)(D:X.mg x=some (.ref a))(S:X.base.MapOf (Y8 X.prog X.w) a m)(f:X.A.units+1<cLine)(F:PE X i ti)(B:QH i)(G:(x==("__debug__":Str))=false:=by decide):
  PE X (.Subscript (.Name x p) i pos) (As a m ti):=by
 intro Z s U H Q I h;refine Ro PySem.F.slot_dict_getitem.lookup B<|GD I A D ?_ G;refine thn (F Z s U H _ I h) λd L ⟨v,c,N,O,q,u,y,P,T,J,R⟩=>?_;subst P;have M:L.heap.MapOf (Y8 X.prog X.w) a m:=let⟨o,j,z,C,r⟩:=S;⟨o,j,z,N.bk _ _ C,r⟩
 have g:L.TypeIs (.ref a) "dict":=M.typeIs;exists g;exact wpAny_getItem_of (XM O) M T ⟨y,c,N.tok _,J,R⟩
end
end L2
namespace L2
open PySem
structure BA where
 t:Addr
 dx:Addr
 so:Addr
 td:Addr
 rd:Addr
 tn:Addr
def UG(A:BA):List (Str×V):=[("sorts",.ref A.so),("told",.ref A.td),("rows",.ref A.rd),("turns",.ref A.tn)]
def psD(ps:List (Str×Str)):Dat:=.tup<|ps.map λp=>.tup [.str p.1,.str p.2]
def Us(x:Dd):Dat:=.tup [psD x.1.2.1,.str x.1.2.2,x.2.dat]
structure BD(H:Hp)(C CK:Addr)(A:BA)(kv:List (Key×V))(ks:List (Str×Shp))(d:Str->Nat)(ds:List Dd):Prop where
 ins:H A.t=some (.ins C A.dx (UG A))
 so:KI H CK A.so ks d
 td:H A.td=some (.dK kv)
 ke:kv.map (·.1)=ds.map (λx=>(Sum.inr x.1.1:Key))
 va:HasL H (kv.map (·.2)) (ds.map Us)
 nd:(ds.map λx=>x.1.1).Nodup
def BI(H:Hp)(C CK t:Addr)(ks:kO)(d:kP)(ds:List Dd):Prop:=∃A Z,A.t=t/\BD H C CK A Z ks d ds
def BI.mono(b:BI H C M t J d G)(e:Same H L):BI L C M t J d G:=by
 obtain⟨A,Z,h,k⟩:=b;exact⟨A,Z,h,e _ _ k.ins,k.so.mono e,e _ _ k.td,k.ke,k.va.mono e,k.nd⟩
structure BCl(K:W.Frag)(C:Addr):Prop where
 cl:Cls K C
 so:VF K C "sorts"
 td:VF K C "told"
 rd:VF K C "rows"
 tn:VF K C "turns"
def Li(A:BA):(UG A).lookup ("sorts":Str)=some (V.ref A.so):=rfl
def FX(A:BA):(UG A).lookup ("told":Str)=some (V.ref A.td):=rfl
def AU(A:BA):(UG A).lookup ("told_of":Str)=none:=rfl
def BD.at(b:BD H C I A J E d O)(h:x∈O):∃v,Vg H A.td (.str x.1.1) (some v)/\Has H v (Us x):=by
 obtain⟨i,M⟩:=ym.mp h;have Z:(J.map (·.1))[i]?=(O.map λx=>(Sum.inr x.1.1:Key))[i]?:=by rw[b.ke]
 rw[ZH,ZH,M]at Z
 cases ek:J[i]? with
 |none=>rw[ek]at Z;cases Z
 |some q=>
  rw[ek]at Z;have B:q.1=Sum.inr x.1.1:=ZT Z
  have T:(J.map (·.1)).Nodup:=by
   rw[b.ke];have G:=b.nd;unfold List.Nodup at G |-;rw[jx]at G |-;exact G.imp λL z=>L<|Sum.inr.inj z
  obtain⟨F,R,D⟩:=b.va.get (show(J.map (·.2))[i]?=some q.2 by rw[ZH,ek];rfl);rw[ZH,M]at R;cases R;refine⟨q.2,?_,D⟩;have N:=D8 T<|ZJ ek;rw[B]at N;rw[<-N];exact Vg.k (k:=Sum.inr x.1.1) b.td
def Xv(h:Has H v (Us x)):∃a u w,v=.ref a/\H a=some (.tup [u,.str x.1.2.2,w])/\Has H u (psD x.1.2.1)/\Has H w x.2.dat:=by
 unfold Us at h;obtain⟨t,D,rfl,N,O⟩:=Yw h;obtain⟨M,I,rfl,B,G⟩:=Yd O;obtain⟨E,A,rfl,T,J⟩:=Yd G;obtain⟨L,F,rfl,R,Z⟩:=Yd J;obtain rfl:=VD Z;obtain rfl:=has_str T;exact⟨t,M,L,Y,N,B,R⟩
end L2
namespace K4
open PySem L2
section
variable{f g C CK:Addr}
def Ja(C CK:Addr):Sp:=λG H Q _=>∃(t:Addr)(J:kO)(d:kP)(L:List Dd),G=[.ref t]/\BI H C CK t J d L/\∀Z,KI H CK Z J d->Q (.ref Z) H
def Im:Yh ["self"] ["self"] (Yc MP):=Y5
def FQ(T:BCl K C)(F:Fun K "kinds" "Book.kinds" MP f J):Yf P w K M base CX0 (n+1) f J ["self"] (Ja C CK):=by
 refine F.oq Im λG A Z s H L Q E R h=>?_;obtain⟨t,O,d,B,rfl,⟨D,N,rfl,b⟩,q⟩:=h;exists _,YZ<|Ym<|Yn (pv 0) rfl;exact⟨C,_,_,_,b.ins,T.cl,T.so,Li _,q _ b.so⟩
def Uu(C CK:Addr):Sp:=λG H Q _=>∃(t:Addr)(L:kO)(d:kP)(J:List Dd),G=[.ref t]/\BI H C CK t L d J/\∀l Z,Same H Z->H l=none->Z l=some (.lst<|J.map λx=>V.str x.1.1)->Q (.ref l) Z
def Il:Yh ["self"] ["self"] (Yc MN):=Y5
def FP(B:Blt L)(T:BCl K C)(F:Fun K "names" "Book.names" MN f M):Yf P w K L base CX0 (n+1) f M ["self"] (Uu C CK):=by
 refine F.oq Il λN A Z s H O Q E D h=>?_;obtain⟨t,R,d,I,rfl,⟨S,J,rfl,b⟩,q⟩:=h;exists _,YZ<|Ym<|VY (U2 rfl) rfl B.list JU (pa1<|Yn (pv 0) rfl);refine⟨C,_,_,_,b.ins,T.cl,T.td,FX _,_,_,Y,b.td,λl G=>?_⟩;refine q l _ (Yq G _) G ?_;rw[Ye];have e:(J.map λq=>kV q.1)=(J.map (·.1)).map kV:=by rw[yj];rfl
 rw[e,b.ke,yj]
 rfl
def Ga(C CK:Addr):Sp:=λJ H Q _=>∃(t:Addr)(G:kO)(d:kP)(Z:List Dd)(x:Dd),J=[.ref t,.str x.1.1]/\BI H C CK t G d Z/\x∈Z/\∀v,Has H v (Us x)->Q v H
def Oq:Yh ["self","F"] ["self","F"] (Yc Bj):=Y5
def PJ(B:Blt L)(T:BCl K C)(F:Fun K "told_of" "Book.told_of" Bj f R):Yf P w K L base CX0 (n+1) f R ["self","F"] (Ga C CK):=by
 refine F.oq Oq λD A Z s H I Q E N h=>?_;obtain⟨t,U,d,X,x,rfl,⟨j,S,rfl,b⟩,M,q⟩:=h;have J:=V9 N;obtain⟨v,G,O⟩:=b.at M;refine⟨_,YY (Y1 (PW.pt<|UP (Jk<|JR<|G0 rfl B.isi rfl B.str Wj (pv 1))<|Jo<|Jp<|WP J (pv 1)<|Yn (pv 0) rfl) (YZ V5) Yp)
  (YZ<|Ym<|Vj J (Yn (pv 0) rfl) (pv 1) λ_ _=>rfl),?_⟩
 show let a:=_;let b:=_;Yk (VE _ b _) a _ _ _
 intros
 refine⟨_,_,_,_,Y,.str _,TH K "str",_,Y,Y0 (by simp) ?_⟩;refine⟨C,_,_,_,b.ins,T.cl,T.td,FX _,_,G,_,Y,Y0 (by simp) ?_⟩;exact⟨C,_,_,_,b.ins,T.cl,T.td,FX _,v,G,q v O⟩
end
end K4
namespace L2
open PySem
def WR(o:Option Str):V:=(o.map V.str).getD .non
def Cr{α:Type}{Z:List α}(h:Z.length=1):∃a,Z=[a]:=match Z,h with|[a],_=>⟨a,rfl⟩
def Cq{α:Type}{Z:List α}(h:Z.length=2):∃a b,Z=[a,b]:=match Z,h with|[a,b],_=>⟨a,b,rfl⟩
def Bd.word:Bd->Str
 |.tag _=>"tag"
 |.name _=>"name"
 |.pair _ _=>"pair"
 |.one _=>"one"
 |.other _=>"other"
 |.choose _ _ _=>"choose"
 |.ask _ _=>"ask"
 |.letb _ _ _ _=>"let"
def Lc{b:Bd}(h:Has H v b.dat):∃a Z,v=.ref a/\H a=some (.tup (.str b.word::Z)):=by
 obtain⟨J,e⟩:∃J,b.dat=.tup (.str b.word::J):=by cases b <;> exact⟨_,by unfold Bd.dat;rfl⟩
 rw[e]at h;obtain⟨t,Z,rfl,L,M⟩:=Yw h;obtain⟨O,G,rfl,N,_⟩:=Yd M;obtain rfl:=has_str N;exact⟨t,G,Y,L⟩
def EZ(h:Has H v (Bd.letb x k e b).dat):∃a T R,v=.ref a/\H a=some (.tup [.str "let",.str x,.str k,T,R]):=by
 unfold Bd.dat at h;obtain⟨t,I,rfl,B,D⟩:=Yw h;obtain⟨C,y,rfl,A,M⟩:=Yd D;obtain⟨U,j,rfl,F,L⟩:=Yd M;obtain⟨S,Q,rfl,E,G⟩:=Yd L;obtain⟨O,P,rfl,q,J⟩:=Yd G;obtain⟨N,X,rfl,z,Z⟩:=Yd J;obtain rfl:=VD Z;obtain rfl:=has_str A;obtain rfl:=has_str F;obtain rfl:=has_str E;exact⟨t,O,N,Y,B⟩
end L2
namespace K4
open PySem L2
section
variable{f g C CK:Addr}
def Gc(C CK:Addr):Sp:=λJ H Q _=>∃(t:Addr)(G:kO)(d:kP)(Z:List Dd)(x:Dd),J=[.ref t,.str x.1.1]/\BI H C CK t G d Z/\x∈Z/\∀v,Has H v (psD x.1.2.1)->Q v H
def Rw(C CK:Addr):Sp:=λJ H Q _=>∃(t:Addr)(G:kO)(d:kP)(Z:List Dd)(x:Dd),J=[.ref t,.str x.1.1]/\BI H C CK t G d Z/\x∈Z/\Q (.str x.1.2.2) H
def SS:Yh ["self","F"] ["self","F"] (Yc Bl):=Y5
def Oi:Yh ["self","F"] ["self","F"] (Yc Bm):=Y5
def PM(T:BCl K C)(F:Fun K "parameters" "Book.parameters" Bl f I)(m:VI K C "told_of" g)(G:Yf P w K J base CX0 n g D ["self","F"] (Ga C CK))(X:Binds K D ["self","F"] []):Yf P w K J base CX0 (n+1) f I ["self","F"] (Gc C CK):=by
 refine F.oq SS λU A Z s H k Q E R h=>?_;obtain⟨t,L,d,S,x,rfl,b,M,q⟩:=h;obtain⟨y,p,rfl,j⟩:=id b;exists _,YZ<|Ym<|Yo Yt (Y6 (pv 0) T.cl m G R X .nil Y2<|pa1<|pv 1) Ya;refine⟨_,_,j.ins,AU _,y.t,L,d,S,x,Y,b,M,λv N=>?_⟩;obtain⟨a,u,z,rfl,B,O,_⟩:=Xv N;exact⟨_,_,Z2 B,Y,q u O⟩
def Kt(T:BCl K C)(F:Fun K "kind_of" "Book.kind_of" Bm f D)(m:VI K C "told_of" g)(G:Yf P w K J base CX0 n g B ["self","F"] (Ga C CK))(U:Binds K B ["self","F"] []):Yf P w K J base CX0 (n+1) f D ["self","F"] (Rw C CK):=by
 refine F.oq Oi λS A Z s H z Q E O h=>?_;obtain⟨t,L,d,I,x,rfl,b,M,q⟩:=h;obtain⟨j,k,rfl,X⟩:=id b;exists _,YZ<|Ym<|Yo Yt (Y6 (pv 0) T.cl m G O U .nil Y2<|pa1<|pv 1) Ya;refine⟨_,_,X.ins,AU _,j.t,L,d,I,x,Y,b,M,λv N=>?_⟩;obtain⟨a,u,y,rfl,R,p,_⟩:=Xv N;exact⟨_,_,Z2 R,Y,q⟩
def Xe(C CK:Addr)(p:Bd->Prop):Sp:=λO H Q _=>∃(t a M:Addr)(v:V)(Z:kO)(c d:kP)(L:List Dd)(G:kF)(b:Bd)(J:ky),
 O=[.ref t,.ref a,v,.ref M]/\BI H C CK t Z d L/\KK 30 c d Z/\NK (Z.map (·.1)) G/\(∀x∈L,x.1.2.1.length<=3)/\Rd H a (.dK G)/\Has H v b.dat/\b.ok/\p b/\H M=some (.lst<|J.map V.str)/\J.length=b.parts.length/\(∀z∈J,z∈Z.map (·.1))/\∀N,Same H N->Q (WR<|own Z (Vv<|L.map (·.1)) G b J) N
abbrev rps:ky:=["book","around","body","found"]
def SU:Yh ["book","around","body","found"] ["book","around","body","found"] (Yc Ir):=Y5
def Om:Yh ["book","around","body","found"] ["book","around","body","found"] (Yc Bh):=Y5
def Ol:Yh ["book","around","body","found"] ["book","around","body","found"] (Yc Bg):=Y5
def SW:Yh ["book","around","body","found"] ["book","around","body","found"] (Yc Iv):=Y5
def PP(r:BCl K C)(TK:KCl K CK)(F:Fun K "kind_of_tag_body" "kind_of_tag_body" Ir f X)(B:VI K C "kinds" U)(e:Yf P w K J base CX0 n U z ["self"] (Ja C CK))(p:Binds K z ["self"] [])(T:VI K CK "kind_of_tag" S)(l:Yf P w K J base CX0 n S y ["self","tag"] (Ge CK))(k:Binds K y ["self","tag"] []):Yf P w K J base CX0 (n+1) f X rps (Xe C CK λb=>∃t,b=.tag t):=by
 refine F.oq SU λm A Z s H vs Q E N h=>?_;obtain⟨t,a,fl,v,G,c,d,j,kv,b,x,rfl,O,kk,nk,pl,ha,M,ok,⟨R,rfl⟩,hf,lz,hz,q⟩:=h;obtain⟨i,kt,rfl,u⟩:=id O;exists _,YZ<|Ym<|Y6 (Ve (pv 0) r.cl B e N p .nil Y2) TK.cl T l N k .nil Y2<|pa1<|Yo Yt (pv 2) Ya;unfold Bd.dat at M;obtain⟨bt,rfl,I⟩:=Xu M;refine⟨_,_,u.ins,Y,i.t,G,d,j,Y,O,λso L=>?_⟩;obtain⟨o,SK,rfl,D,kr⟩:=id L;exact⟨_,_,D.ins,Y,_,_,Z2 I,Y,o.t,G,d,R,Y,L,q H<|Z8 _⟩
def Ks(F:Fun K "kind_of_name_body" "kind_of_name_body" Bh f B):Yf P w K j base CX0 (n+1) f B rps (Xe C CK λb=>∃x,b=.name x):=by
 refine F.oq Om λD A G s H S Q E R h=>?_;obtain⟨t,a,r,v,z,c,d,l,J,b,I,rfl,i,m,N,U,M,L,X,⟨x,rfl⟩,u,y,p,q⟩:=h;have O:=V9 R;exists _,YZ<|Ym<|G4 O (pv 1) (Yo Yt (pv 2) Ya) ⟨rfl,rfl,rfl,rfl⟩;unfold Bd.dat at L;obtain⟨o,rfl,T⟩:=Xu L;exists .inl ⟨J,M⟩,_,_,Z2 T,Y,_,.inl ⟨J,Sum.inr x,M,Y,Y⟩;have Z:Q (WR<|(VC J<|Sum.inr x).bind Ob) H:=q H<|Z8 _
 cases e:VC J (Sum.inr x)with
 |none=>rw[e]at Z;exact Z
 |some v=>
  obtain⟨k,rfl,_⟩:=N.at e;rw[e]at Z;exact Z
def Kq(l:BCl K C)(TK:KCl K CK)(F:Fun K "kind_of_pair_body" "kind_of_pair_body" Bg f j)(D:VI K C "kinds" X)(i:Yf P w K J base CX0 n X m ["self"] (Ja C CK))(u:Binds K m ["self"] [])(B:VI K CK "kind_of_pair" U)(o:Yf P w K J base CX0 n U z ["self","one","other"] (WB CK))(p:Binds K z ["self","one","other"] []):Yf P w K J base CX0 (n+1) f j rps (Xe C CK λb=>∃e g,b=.pair e g):=by
 refine F.oq Ol λk A Z s H vs Q E M h=>?_;obtain⟨t,a,fl,v,G,c,d,y,kv,b,zs,rfl,O,kk,nk,pl,ha,hv,ok,⟨e,g,rfl⟩,N,I,hz,q⟩:=h;obtain⟨T,R,rfl⟩:=Cq I;obtain⟨A',kt,rfl,r⟩:=id O;exists _,YZ<|Ym<|Y6 (Ve (pv 0) l.cl D i M u .nil Y2) TK.cl B o M p .nil Y2<|pa2 (Yo VB (pv 3) Ya)<|Yo VB (pv 3) Ya;refine⟨_,_,r.ins,Y,A'.t,G,d,y,Y,O,λso L=>?_⟩;obtain⟨x,SK,rfl,S,kr⟩:=id L;exact⟨_,_,S.ins,Y,_,_,Z3 N,Y,_,_,Z3 N,Y,x.t,G,d,T,R,Y,L,q⟩
def PR(F:Fun K "kind_of_let_body" "kind_of_let_body" Iv f T):Yf P w K z base CX0 (n+1) f T rps (Xe C CK λb=>∃x k e g,b=.letb x k e g):=by
 refine F.oq SW λB A J s H I Q E l h=>?_;obtain⟨t,a,i,v,p,c,d,ds,m,b,D,rfl,bi,u,y,X,o,O,j,⟨x,k,e,g,rfl⟩,L,N,r,q⟩:=h;obtain⟨G,M,rfl⟩:=Cq N;refine⟨_,YY (Y1 (Yr UR (Yo VB (pv 3) Ya) (Yo Yt (pv 2) Ya)<|Yz _) (YZ<|Ym Vs) Yp)
  (YZ<|Ym<|Yo VB (pv 3) Ya),?_⟩
 obtain⟨bt,U,S,rfl,R⟩:=EZ O;have Z:Q (WR<|if G=k then some M else none) H:=q H<|Z8 _;exists _,_,Z3 L,Y,_,_,Z2 R,Y,Y,_,Y
 by_cases c1:G=k
 .rw [Zp c1]at Z
  exact Y0 (by simp[c1]) ⟨_,_,Z3 L,Y,Z⟩
 .rw [Zq c1]at Z
  exact VH (by simpa using c1) Z
def W4(C CK:Addr):Sp:=λJ H Q _=>∃(t:Addr)(Z:kO)(d:kP)(L:List Dd)(z:Str)(s:Shp)(i:Nat),J=[.ref t,.str z,.int i]/\BI H C CK t Z d L/\Va Z z=some s/\(∀G,s=.tags G->Q .non H)/\∀a b,s=.pair a b->(i=1/\Q (.str a) H\/i=2/\Q (.str b) H)
def EF:Yh ["book","kind","at","shape"] ["book","kind","at"] (Yc Bf):=Y5
def Kp(TB:BCl K C)(TK:KCl K CK)(F:Fun K "kind_of_part" "kind_of_part" Bf f p)(X:VI K C "kinds" k)(G1:Yf P w K G base CX0 n k r ["self"] (Ja C CK))(x:Binds K r ["self"] [])(U:VI K CK "shape_of" m)(G2:Yf P w K G base CX0 n m u ["self","kind"] (U5 CK))(o:Binds K u ["self","kind"] []):Yf P w K G base CX0 (n+1) f p ["book","kind","at"] (W4 C CK):=by
 refine F.oq EF λe A J s H vs Q E O h=>?_;obtain⟨t,L,d,c,z,B,i,rfl,R,y,D,I⟩:=h;obtain⟨A',kt,rfl,b'⟩:=id R;refine⟨_,YY (Yx 3 EF.nd<|Y6 (Ve (pv 0) TB.cl X G1 O x .nil Y2) TK.cl U G2 O o .nil Y2<|pa1<|pv 1)
  (YY (Y1 (Yr UR (Yo Yt (pv 3) Ya) Yy<|Yz _) (YZ<|Ym Vs) Yp)
  (YZ<|Ym<|Yo Yt (pv 3) (pv 2) λ_ _=>rfl)),?_⟩
 refine⟨_,_,b'.ins,Y,A'.t,L,d,c,Y,R,λso M=>?_⟩;obtain⟨AK,SK,rfl,j,kr⟩:=id M;refine⟨_,_,j.ins,Y,AK.t,L,d,z,_,Y,M,y,λv N=>?_⟩
 cases B with
 |tags T=>
  obtain⟨S,l,rfl,Z,hl⟩:=Xw N;exact⟨_,_,Z2 Z,Y,Y,_,Y,VH (by decide +kernel)<|D T rfl⟩
 |pair a b=>
  obtain⟨S,rfl,Z⟩:=Ug N;refine⟨_,_,Z2 Z,Y,Y,_,Y,Y0 (by decide +kernel) ?_⟩;rcases I a b rfl with⟨rfl,q⟩|⟨rfl,q⟩
  .exact ⟨_,_,Z2 Z,rfl,q⟩
  .exact ⟨_,_,Z2 Z,rfl,q⟩
def SV:Yh ["book","around","body","found"] ["book","around","body","found"] (Yc Iu):=Y5
def Ii:Yh ["book","around","body","found"] ["book","around","body","found"] (Yc MK):=Y5
def PQ(F:Fun K "kind_of_one_body" "kind_of_one_body" Iu f D)(X:Df P w K N base n "kind_of_part" ["book","kind","at"] (W4 C CK)):Yf P w K N base CX0 (n+1) f D rps (Xe C CK λb=>∃e,b=.one e):=by
 refine F.oq SV λS A J s H y Q E T h=>?_;obtain⟨t,a,x,v,G,c,d,I,r,b,j,rfl,U,l,u,k,i,o,p,⟨e,rfl⟩,B,O,R,q⟩:=h;obtain⟨z,rfl⟩:=Cr O;exists _,YZ<|Ym<|VS X T<|pa3 (pv 0) (Yo VB (pv 3) Ya) Ya;obtain⟨M,L⟩:=JM (R z<|by simp);have Z:Q (WR<|match Va G z with|some (.pair a _)=>some a|_=>none) H:=q H<|Z8 _;rw[L]at Z;exact⟨_,_,Z3 B,Y,t,G,d,I,z,M,1,Y,U,L,λm e=>by rw[e]at Z;exact Z,λa b e=>.inl ⟨Y,by rw[e]at Z;exact Z⟩⟩
def FL(F:Fun K "kind_of_other_body" "kind_of_other_body" MK f D)(X:Df P w K N base n "kind_of_part" ["book","kind","at"] (W4 C CK)):Yf P w K N base CX0 (n+1) f D rps (Xe C CK λb=>∃e,b=.other e):=by
 refine F.oq Ii λS A J s H y Q E T h=>?_;obtain⟨t,a,x,v,G,c,d,I,r,b,j,rfl,U,l,u,k,i,o,p,⟨e,rfl⟩,B,O,R,q⟩:=h;obtain⟨z,rfl⟩:=Cr O;exists _,YZ<|Ym<|VS X T<|pa3 (pv 0) (Yo VB (pv 3) Ya) Ya;obtain⟨M,L⟩:=JM (R z<|by simp);have Z:Q (WR<|match Va G z with|some (.pair _ b)=>some b|_=>none) H:=q H<|Z8 _;rw[L]at Z;exact⟨_,_,Z3 B,Y,t,G,d,I,z,M,2,Y,U,L,λm e=>by rw[e]at Z;exact Z,λa b e=>.inr ⟨Y,by rw[e]at Z;exact Z⟩⟩
end
end K4
namespace L2
open PySem
def Pq(h:Has H v (Bd.ask fn B).dat):∃a u,v=.ref a/\H a=some (.tup [.str "ask",.str fn,u])/\Has H u (.tup<|Bd.dats B):=by
 unfold Bd.dat at h;obtain⟨t,D,rfl,M,N⟩:=Yw h;obtain⟨F,S,rfl,T,G⟩:=Yd N;obtain⟨E,I,rfl,R,J⟩:=Yd G;obtain⟨L,A,rfl,O,Z⟩:=Yd J;obtain rfl:=VD Z;obtain rfl:=has_str T;obtain rfl:=has_str R;exact⟨t,L,Y,M,O⟩
def EX(h:Vv J fn=some (Z,y)):(fn,Z,y)∈J:=by
 unfold Vv at h
 cases e:J.find? (λh=>decide<|h.1=fn)with
 |none=>rw[e]at h;cases h
 |some g=>
  rw[e]at h;have m:=yp e;have q:g.1=fn:=by simpa using List.find?_some e
  have G:g.2=(Z,y):=ZT h;obtain⟨M,L⟩:=g;dsimp only at q G;subst q G;exact m
theorem Gz:∀Z J:ky,Dat.pqs (Z.map Dat.str) (J.map Dat.str)=decide (Z=J)
 |[],[]=>by unfold List.map Dat.pqs;rfl
 |[],w::J=>by unfold List.map Dat.pqs;rfl
 |z::Z,[]=>by unfold List.map Dat.pqs;rfl
 |z::Z,w::J=>by
  rw[ZV,ZV];unfold Dat.pqs;rw[Gz Z J,vJ];simp[Dat.pq]
def LT{Z:List Dd}(J:(Z.map λx=>x.1.1).Nodup)(h:x∈Z):Vv (Z.map (·.1)) x.1.1=some x.1.2:=
 LU (h:=x.1) (by rw[yj];exact J) (ZW.mpr ⟨x,h,rfl⟩)
def AR{Z:List Dd}(h:fn∉Z.map λx=>x.1.1):Vv (Z.map (·.1)) fn=none:=by
 cases e:Vv (Z.map (·.1)) fn with
 |none=>rfl
 |some p=>
  obtain⟨x,J,G⟩:=ZW.mp<|EX e;exact Zr (ZW.mpr ⟨x,J,by rw[G]⟩) h
end L2
namespace K4
open PySem L2
section
def SX:Yh ["book","around","body","found"] ["book","around","body","found"] (Yc Iw):=Y5
def K7:List.Nodup [("name":Str),"kind"]:=by decide +kernel
def PU(TB:BCl K C)(F:Fun K "kind_of_ask_body" "kind_of_ask_body" Iw f fd)(m1:VI K C "names" g)(G1:Yf P w K mg base CX0 (n+2) g d1 ["self"] (Uu C CK))(b1:Binds K d1 ["self"] [])(m2:VI K C "parameters" g2)(G2:Yf P w K mg base CX0 (n+2) g2 d2 ["self","F"] (Gc C CK))(b2:Binds K d2 ["self","F"] [])(m3:VI K C "kind_of" g3)(G3:Yf P w K mg base CX0 (n+2) g3 d3 ["self","F"] (Rw C CK))(b3:Binds K d3 ["self","F"] []):
  Yf P w K mg base CX0 (n+2+1) f fd rps (Xe C CK λb=>∃p as,b=.ask p as):=by
 refine F.oq SX λR3 A i s H O Q E m h=>?_;obtain⟨t,a,fl,v,ks,c,d,I,kv,b,o,rfl,r,kk,nk,pl,ha,hv,ok,⟨p,as,rfl⟩,hf,lz,hz,q⟩:=h;have L1:=m.mono (show 2<=n+2 by omega);refine⟨_,YY (Y1 (Yr Ju (Yo Yt (pv 2) Ya) (Ve (pv 0) TB.cl m1 G1 m b1 .nil Y2) Y) (YZ<|Ym Vs) Yp)
  (YY (Y1 (Yr (G6 L1) (JG ["name","kind"] [] (UH<|Y6 (pv 0) TB.cl m2 G2 m b2 .nil Y2<|pa1<|Yo Yt (pv 2) Ya) Mj (λcl C fp s H=>Vd (n:=2) rfl (Ys (Yl 0 K7 rfl (Or.inl rfl) (Or.inr rfl))<|Ys (Yl 1 K7 rfl (Or.inl rfl) (Or.inr rfl)) VN))
    (λcl C fp s H=>pv 1)) (pv 3)<|Yz _) (YZ<|Ym Vs) Yp)
  (YZ<|Ym<|Y6 (pv 0) TB.cl m3 G3 m b3 .nil Y2<|pa1<|Yo Yt (pv 2) Ya)),?_⟩
 show let a:=_;let b:=_;let c:=Yk (VE _ b _) a;let d:=_;Yk (VE _ d _) c _ _ _
 intros
 obtain⟨bt,ub,rfl,hb,_⟩:=Pq hv;obtain⟨A',kt,rfl,e⟩:=id r;have T:∀N,Same H N->Q (WR<|match Vv (I.map (·.1)) p with|some (L,k)=>if L.map (·.2)=o then some k else none|none=>none) N:=q;refine⟨_,_,Z2 hb,Y,_,_,e.ins,Y,A'.t,ks,d,I,Y,r,λl H1 S hl g=>?_⟩;have el:(I.map λx=>V.str x.1.1)=(I.map λx=>x.1.1).map V.str:=by rw[yj];rfl
 rw[el]at g;exists l,_,Y,.inl<|Z3 g,rfl,Jx _,_,rfl;rw[UV]
 by_cases mf:p∈I.map λx=>x.1.1
 case neg=>
  rw[AR mf]at T;exact VH (by simp only[if_true,jb,decide_eq_false_iff_not];exact mf)<|T _ S
 refine Y0 (by simp only[if_true,jb,decide_eq_false_iff_not,Classical.not_not];exact mf) ?_;obtain⟨x,X,D⟩:=ZW.mp mf;have Z:=LT e.nd X;rw[D]at Z;rw[Z]at T;obtain⟨⟨_,L,y⟩,bx⟩:=x;dsimp only at D T;subst D;have R1:L.length<=3:=pl _ X;have O1:=r.mono S;refine⟨_,_,S _ _ e.ins,Y,_,_,Z2<|S _ _ hb,rfl,A'.t,ks,d,I,_,rfl,O1,X,λv B=>?_⟩;unfold psD at B;dsimp only at B;obtain⟨pa,G,rfl,M,U⟩:=Yw B;have lp:=U.length;rw[ZA]at lp;exists ⟨_,Z2 M⟩;refine Vh G.length (Yj<|by omega) (λj O N=>Same H1 N/\O.length=j/\O=((L.map (·.2)).take j).map V.str) ⟨Z8 _,rfl,rfl⟩ (λj O N z=>z.2.1) ?_ ?_ ?_ ?_
 .intro j O N hj z
  exact⟨G,G[j],Z2<|z.1 _ _ M,by simp[hj]⟩
 .intro O N z
  exact⟨G,Z2<|z.1 _ _ M,ZG _⟩
 .intro j O N u H'' R hj z yl hR
  obtain⟨rfl,yy⟩:=yl;obtain⟨dd,Z,M2⟩:=U.get<|yy G<|Z2<|z.1 _ _ M;rw[ZH]at Z
  cases hp:L[j]? with
  |none=>rw[hp]at Z;cases Z
  |some pr=>
   rw[hp]at Z;cases Z;obtain⟨t2,rfl,J2⟩:=Xu M2;exists _,Z2<|z.1 _ _ J2,rfl;refine hR _ _ ⟨z.1,by rw[ZL,z.2.1];rfl,?_⟩;rw[z.2.2,show(L.map (·.2)).take (j+1)=(L.map (·.2)).take j++[pr.2]from take_snoc (by rw[ZH,hp];rfl),ZK]
   rfl
 .intro O N l2 z hl2
  obtain⟨z1,_,rfl⟩:=z;rw[Zg (by rw[ZA];omega)];refine up_in hl2 _ λH2 s2 g2=>?_;have J:=(S.trans z1).trans s2;exists .lst<|(L.map (·.2)).map Dat.str,.lst<|o.map Dat.str,Cp g2,Cp<|J _ _ hf,M9 _,_,rfl;unfold Dat.pq;rw[Gz]
  by_cases cz:L.map (·.2)=o
  .rw [Zp cz]at T
   refine Y0 (by simp[cz]) ?_;exact⟨_,_,J _ _ e.ins,Y,_,_,Z2<|J _ _ hb,rfl,A'.t,ks,d,I,_,rfl,r.mono J,X,T H2 J⟩
  .rw [Zq cz]at T
   exact VH (by simp[cz])<|T H2 J
end
end K4
namespace L2
open PySem PySem.Spec PyProof.Rows
def Fk(S:X.calm=true):Jt X (.builtin "any") (λL H Q=>∃(p:Addr)(Z:List Bool),L=[.ref p]/\SqL X.K H p (Z.map V.bl)/\Q (.bl<|Z.any id) H):=by
 intro N s U H L P Q I r h;obtain⟨p,Z,rfl,D,q⟩:=h;obtain⟨u,rfl,R⟩:=vals1 r;cases R;obtain⟨J,M,G,j⟩:=I.list D;have E:p<s.heap.objs.size:=let⟨o,_,e,_⟩:=G;ZP e
 have B:=M.length;rw[ZA]at B
 have T:((List.range J.toArray.size).any λi=>(Z[i]?).getD false)=Z.any id:=by
  rw[vJ,ji,ji]
  constructor
  .rintro ⟨i,_,h⟩
   cases e:Z[i]? with
   |none=>rw[e]at h;cases h
   |some b=>rw[e]at h;exact⟨b,ZJ e,h⟩
  .rintro ⟨b,hb,h⟩
   obtain⟨i,O⟩:=ym.mp hb;exact⟨i,by have:=(ZF.mp O).1;simp;omega,by rw[O];exact h⟩
 refine call_any_walk<|jI G.isList ⟨s.heap.objs.size,_,_,J.toArray.size,_,_,λi=>(Z[i]?).getD false,rfl,Walks.list (A:=X.A.in1) (I.ok.hd S) _ p (Ze E) J.toArray,⟨⟨_,ZY _ rfl,rfl,rfl⟩,G.isList.push _⟩,?_,?_⟩
 .intro i v s' Q' E' hP hQ
  obtain⟨b,e,rfl⟩:=Wm M i v (by simpa using hP);dsimp only at hQ;rw[e]at hQ;exact yq hQ
 .intro h' tk hk
  rw[T];refine⟨.bl<|Z.any id,H,I.kept λb o e=>hk b o (λF=>?_)<|ZE _ e,rfl,q⟩;have C:b=s.heap.objs.size:=by simpa using F
  rw[C]at e;exact vb _<|ZP e
end L2
namespace L2
open PySem
def Da(h:Has H v (Bd.choose e N F).dat):∃a u l Z,v=.ref a/\H a=some (.tup [.str "choose",u,.ref l])/\H l=some (.tup Z)/\HasL H Z (Bd.brs F N):=by
 unfold Bd.dat at h;obtain⟨t,A,rfl,O,R⟩:=Yw h;obtain⟨S,X,rfl,E,L⟩:=Yd R;obtain⟨M,C,rfl,P,G⟩:=Yd L;obtain⟨I,U,rfl,D,J⟩:=Yd G;obtain rfl:=VD J;obtain rfl:=has_str E;obtain⟨l,Z,rfl,B,T⟩:=Yw D;exact⟨t,M,l,Z,Y,O,B,T⟩
theorem brs_len:∀{bs:List Bd}{ts:ky},bs.length=ts.length->(Bd.brs bs ts).length=ts.length
 |[],[],_=>by simp[Bd.brs]
 |[],_::_,h=>by simp at h
 |_::_,[],h=>by simp at h
 |b::bs,t::ts,h=>by
  unfold Bd.brs;have:=brs_len (bs:=bs) (ts:=ts) (by simpa using h);simp[this]
theorem brs_get:∀{bs:List Bd}{ts:ky}{i:Nat}{d:Dat},(Bd.brs bs ts)[i]?=some d->∃t b,ts[i]?=some t/\d=.tup [.str t,Bd.dat b]
 |[],ts,i,d,h=>by unfold Bd.brs at h;simp at h
 |b::bs,[],i,d,h=>by unfold Bd.brs at h;simp at h
 |b::bs,t::ts,0,d,h=>by
  unfold Bd.brs at h;exact⟨t,b,Y,(ZT h).symm⟩
 |b::bs,t::ts,i+1,d,h=>by
  unfold Bd.brs at h;exact brs_get (bs:=bs) (ts:=ts) h
def ya{z y:Str}{r:ky}:Uq ((z::y::r).map V.str) (some 2) none=r.map V.str:=by
 have e:HT.sIx ((z::y::r).map V.str).length 0 (some 2)=2:=by
  unfold HT.sIx;simp
  try omega
 unfold Uq;rw[e];simp[HT.sIx];exact Zg (by rw[ZA];exact ZG _)
def O9(h:Va J z=some (.tags Z))(g:∀u∈r,u=y):own J L G (.choose e Z M) (z::y::r)=some y:=Zp ⟨h,g⟩
def MV(h:¬(Va J z=some (.tags Z)/\∀u∈r,u=y)):own J L G (.choose e Z M) (z::y::r)=none:=Zq h
def OB(y:Str)(r:ky):((r.map λu=>!decide (V.str u=V.str y)).any id=false)↔∀u∈r,u=y:=by
 rw[j9]
 constructor
 .intro h u Z
  have:=h _<|ZW.mpr ⟨u,Z,rfl⟩;simpa using this
 .intro h b hb
  obtain⟨u,Z,rfl⟩:=ZW.mp hb;simp[h u Z]
end L2
namespace K4
open PySem L2
section
def Fn:bootBuiltins "any"=some (.builtin "any"):=by decide +kernel
def WH:Yh ["book","around","body","found","shape","kind"] ["book","around","body","found"] (Yc Gq):=Y5
def K6:List.Nodup [("tag":Str),"branch"]:=by decide +kernel
def Ce:List.Nodup [("other":Str),"kind"]:=by decide +kernel
def B8(B:Blt X)(ma:X "any"=none)(TB:BCl K C)(TK:KCl K p)(F:Fun K "kind_of_choose_body" "kind_of_choose_body" Gq f fd)(m1:VI K C "kinds" g1)(G1:Yf P w K X base CX0 (n+2) g1 d1 ["self"] (Ja C p))(b1:Binds K d1 ["self"] [])(m2:VI K p "shape_of" g2)(G2:Yf P w K X base CX0 (n+2) g2 d2 ["self","kind"] (U5 p))(b2:Binds K d2 ["self","kind"] []):Yf P w K X base CX0 (n+2+1) f fd rps (Xe C p λb=>∃e L k,b=.choose e L k/\1<=k.length):=by
 refine F.oq WH λR5 A J2 s H Z Q E hr h=>?_;obtain⟨t,a,fl,v,ks,c,d,ds,kv,b,zs,rfl,bi,kk,nk,pl,ha,hv,ok,⟨e,L,k,rfl,b0⟩,hf,lz,hz,q⟩:=h;have M2:=hr.mono (show 2<=n+2 by omega);refine⟨_,YY (Yx 4 WH.nd<|Y6 (Ve (pv 0) TB.cl m1 G1 hr b1 .nil Y2) TK.cl m2 G2 hr b2 .nil Y2<|pa1<|Yo VB (pv 3) Ya)
  (YY (Y1 (PW.pt<|UP (Yr UR (Yo Yt (pv 4) Ya) Yy<|Yz _)<|Jo<|Yr (G6 M2) (VY JL rfl B.tuple JB (pa1<|JG ["tag","branch"] [] (UH<|Yo Yt (pv 2) Ya) Mj (λcl C fp s H=>Vd (n:=2) rfl (Ys (Yl 0 K6 rfl (Or.inl rfl) (Or.inr rfl))<|Ys (Yl 1 K6 rfl (Or.inl rfl) (Or.inr rfl)) VN)) λcl C fp s H=>pv 0)) (Yo Yt (pv 4) Ya)<|Yz _) (YZ<|Ym Vs) Yp)
  (YY (Yx 5 WH.nd (hx:=Or.inr rfl)<|Yo VB (pv 3) Ya)
  (YY (Y1 (JR<|VA (Fk rfl) rfl ma Fn (pa1<|JG ["other"] [5] (JP<|Vz Xg (pv 3) (JN Ya) JO) (Vk (i:=0)<|by decide) (λcl C fp s H=>Yl 0 Ce rfl (Or.inl rfl) (Or.inr rfl)) λcl C fp s H=>Jc UR (pv 0) (pv 1) rfl)) (YZ<|Ym Vs) Yp)
  (YZ<|Ym<|pv 5)))),?_⟩
 dsimp only[Vf,Cx.nox,Cx.wish];show let a:=_;let b:=_;let c:=Yk (VE _ b _) a;let d:=Yk _ c;let e:=_;let f:=Yk (VE _ e _) d;Yk _ f _ _ _
 intros
 obtain⟨bt,ub,bl,T,rfl,hb,N,I⟩:=Da hv;obtain⟨A',kt,rfl,b'⟩:=id bi;unfold Bd.ok at ok;obtain⟨_,lb,l7,_⟩:=ok;have lx:=I.length;rw[brs_len lb]at lx;obtain⟨z,O,rfl⟩:∃z O,zs=z::O:=match zs,lz with|z::O,_=>⟨z,O,rfl⟩
 have lr:O.length=k.length:=Nat.succ.inj lz;obtain⟨y,r,rfl⟩:∃y r,O=y::r:=match O,lr with|[],e=>by rw[<-e]at b0;exact Zr b0 (by decide)|y::r,_=>⟨y,r,rfl⟩
 rw[Zf]at lr;obtain⟨sz,M⟩:=JM (hz z<|by simp);refine⟨_,_,b'.ins,Y,A'.t,ks,d,ds,Y,bi,λso ki=>?_⟩;obtain⟨AK,SK,rfl,kd,kr⟩:=id ki;refine⟨_,_,kd.ins,Y,_,_,Z3 hf,VG (j:=0) Y,AK.t,ks,d,z,sz,Y,ki,M,λv S=>?_⟩
 cases sz with
 |pair pa pb=>
  obtain⟨ps,rfl,m⟩:=Ug S;rw[MV (λz=>by rw[M]at z;cases z.1)]at q;exact⟨_,_,Z2 m,Y,Y,_,Y,VH (by decide +kernel)<|q H<|Z8 _⟩
 |tags us=>
 obtain⟨ps,l,rfl,m,hl⟩:=Xw S;refine⟨_,_,Z2 m,Y,Y,_,Y,Y0 (by decide +kernel) ?_⟩;exists _,_,Z2 hb,Y,⟨_,Z2 N⟩;refine Vh T.length (Yj<|by omega) (λj Z G=>Same H G/\Z.length=j/\Z=(L.take j).map V.str) ⟨Z8 _,rfl,rfl⟩ (λj Z G z=>z.2.1) ?_ ?_ ?_ ?_
 .intro j Z G hj z
  exact⟨T,T[j],Z2<|z.1 _ _ N,by simp[hj]⟩
 .intro Z G z
  exact⟨T,Z2<|z.1 _ _ N,ZG _⟩
 .intro j Z G u H'' R hj z yl hR
  obtain⟨rfl,x⟩:=yl;obtain⟨dd,R3,R1⟩:=I.get<|x T<|Z2<|z.1 _ _ N;obtain⟨tg,bb,ht,rfl⟩:=brs_get R3;obtain⟨t2,R4,rfl,L1,_⟩:=LZ R1;exists _,Z2<|z.1 _ _ L1,rfl;refine hR _ _ ⟨z.1,by rw[ZL,z.2.1];rfl,?_⟩;rw[z.2.2,take_snoc ht,ZK]
  rfl
 .intro Z H1 l2 z hl2
  obtain⟨o,_,rfl⟩:=z;rw[Zg (by omega)];refine up_in hl2 (.lst<|L.map V.str) λH2 s2 g2=>?_;refine⟨l2,_,Y,.inl ⟨Z3 g2,λt3 G3=>?_⟩⟩;refine up_in G3 (.tup<|L.map V.str) λH3 s3 g3=>?_;have J:=(o.trans s2).trans s3;exists _,_,Z2<|J _ _ m,rfl,.tup<|L.map Dat.str,.tup<|us.map Dat.str,Yu g3<|U4 L,Yu (J _ _ hl)<|U4 us,?_,_,rfl
  .have:=M9 L
   unfold Dat.dep at this |-;exact this
  unfold Dat.pq;rw[Gz]
  by_cases ct:L=us
  case neg=>
   rw[MV (λz=>ct (by have o:=M.symm.trans z.1;injection o with z2;injection z2 with z3;exact z3.symm))]at q;exact VH (by simp[ct])<|q H3 J
  subst ct;refine Y0 (by simp) ?_;have U:=J _ _ hf;exists _,.str y,Z3 U,VG (j:=1) Y;refine⟨2,Y,fl,_,Y,Z3 U,λl4 O1=>?_⟩;rw[ya];refine up_in O1 (.lst<|r.map V.str) λH4 s4 g=>?_;exists ⟨_,Z3 g⟩;refine Vh r.length (Yj<|by omega) (λj Z G=>Same H4 G/\Z=((r.take j).map λu=>!decide (V.str u=V.str y)).map V.bl/\Z.length=j) ⟨Z8 _,rfl,rfl⟩ (λj Z G z=>z.2.2) ?_ ?_ ?_ ?_
  .intro j Z G hj z
   exact⟨_,.str r[j],Z3<|z.1 _ _ g,by rw[ZH,ZD hj];rfl⟩
  .intro Z G z
   exact⟨_,Z3<|z.1 _ _ g,by rw[ZA];exact ZG _⟩
  .intro j Z G u H'' R hj z yl hR
   obtain⟨rfl,x⟩:=yl;have e5:=x _<|Z3<|z.1 _ _ g;rw[ZH,ZD hj]at e5;cases ZT e5;refine⟨Y,hR _ _ ⟨z.1,?_,by rw[ZL,z.2.2];rfl⟩⟩;rw[z.2.1,take_snoc<|ZD hj,ZK,ZK]
   rfl
  .intro Z H5 l6' z hl6
   obtain⟨z5,rfl,_⟩:=z;rw[qj];refine up_in hl6 (.lst<|(r.map λu=>!decide (V.str u=V.str y)).map V.bl) λH6 s6 g6=>?_;have D:=((J.trans s4).trans z5).trans s6;exists l6',_,Y,Z3 g6,_,Y
   by_cases cu:∀u∈r,u=y
   .rw [O9 M cu]at q
    exact Y0 (by rw[(OB y r).mpr cu];simp)<|q H6 D
   .rw [MV (λz=>cu z.2)]at q
    refine VH ?_<|q H6 D
    cases ea:(r.map λu=>!decide (V.str u=V.str y)).any id with
    |true=>rfl
    |false=>exact Zr ((OB y r).mp ea) cu
end
end K4
namespace L2
open PySem
def TZ{g:TG}{O:TS}{D:Ends}(Z:kI)(Q:Z 0 U H)(S:∀i U H,i<=xs.length->Z i U H->Sq K tp H a xs)(A:∀i x U H r,xs[i]?=some x->Z i U H->H r=none->g (.ref r) U (upd H r<|.tup [.int ((i:Nat):Int),x]) fun σ2 M=>O {D with nx:=Z<|i+1,ct:=Z<|i+1,bk:=D.nx} σ2 M)(P:∀U H,Z xs.length U H->D.nx U H):
  ∃W:Nat->Nat->St->Hp->Prop,(∃m,W 0 m U H)/\∀i m U H,W i m U H->
   ((Ite K tp a).stop i H/\D.nx U H)\/((Ite K tp a).go i H/\∃N:kJ,(∀L J,N L J->∃R,R<m/\W (i+1) R L J)/\∀x J,(Ite K tp a).yld i H x J->g x U J fun σ2 M=>O {D with nx:=N,ct:=N,bk:=D.nx} σ2 M):=by
 refine⟨λi m U H=>m=xs.length-i/\i<=xs.length/\Z i U H,⟨xs.length,by simp,Zc _,Q⟩,λi m U H z=>?_⟩;obtain⟨rfl,C,p⟩:=z;have q:=S i U H C p;rcases ja i xs.length with G|X
 .refine .inr ⟨⟨xs,xs[i],q,ZD G⟩,Z<|i+1,λL J B=>⟨xs.length-(i+1),by omega,rfl,G,B⟩,λx J y=>?_⟩
  obtain⟨r,T,rfl,I,rfl,F⟩:=y;exact A i T U H r (F xs q) p I
 .have e:i=xs.length:=by omega
  exact .inl ⟨⟨xs,q,by omega⟩,by subst e;exact P U H p⟩
def Ec{g:TG}{L:TS}{D:Ends}(Z:kI)(C:Z 0 U H)(I:∀i U H,i<=xs.length->Z i U H->Sq K tp H a xs)(F:∀(B:kJ)(R:VK) i x U H r,xs[i]?=some x->Z i U H->H r=none->g (.ref r) U (upd H r<|.tup [.int ((i:Nat):Int),x]) fun σ2 G=>L {nx:=Z<|i+1,rt:=R,bk:=B,ct:=Z (i+1)} σ2 G)(S:∀U H,Z xs.length U H->D.nx U H):
  ∃W:Nat->Nat->St->Hp->Prop,(∃m,W 0 m U H)/\∀i m U H,W i m U H->
   ((Ite K tp a).stop i H/\D.nx U H)\/((Ite K tp a).go i H/\∃N:kJ,(∀O J,N O J->∃M,M<m/\W (i+1) M O J)/\∀x J,(Ite K tp a).yld i H x J->g x U J fun σ2 G=>L {D with nx:=N,ct:=N,bk:=D.nx} σ2 G):=
 TZ Z C I (λi x U H r E p A=>F _ _ i x U H r E p A) S
def Rd.same(r:Rd H a u)(e:Same H Z):Rd Z a u:=r.imp (λh=>e _ _ h) λ⟨o,h⟩=>⟨o,e _ _ h⟩
def OS(Z:kF)(b:Bd):(wth Z b).length<=Z.length+1:=by
 cases b with
 |letb x z e g=>exact NI Z _ _
 |_=>exact jP _
def WQ{o:Option Str}(h:o=none):WR o=.non:=by rw[h];rfl
end L2
namespace K4
open PySem L2
section
variable{f g C CK:Addr}
def RB(C CK:Addr)(n:Nat):Sp:=λM H Q _=>∃(t a:Addr)(v:V)(Z:kO)(c d:kP)(G:List Dd)(J:kF)(b:Bd),
 M=[.ref t,.ref a,v]/\BI H C CK t Z d G/\KK 30 c d Z/\HK (Z.map (·.1)) (Vv<|G.map (·.1))/\NK (Z.map (·.1)) J/\(∀x∈G,x.1.2.1.length<=3)/\Rd H a (.dK J)/\J.length+b.dep<=500/\Has H v b.dat/\b.ok/\b.dep<n/\n<=500/\
 ∀r p L,Same H L->L r=some (.tup [WR (kdn Z (Vv<|G.map (·.1)) n J b),p])->(kdn Z (Vv<|G.map (·.1)) n J b=none->∃l w r,p=.ref l/\L l=some (.tup<|List.map V.int w)/\w.length<=n/\wr Z (Vv<|G.map (·.1)) n J b=w::r)->Q (.ref r) L
def Tt:Yh ["book","around","body","within","found","number","part","kind","place","rule"] ["book","around","body"] (Yc sKP):=Y5
def ED(h:U[i]?=some (some v))(k:u D (U.set j<|some v) H):Yk (E5 (BF i)<|Vl j) u D U H:=by
 show II U[i]? _;rw[h];exact k
def CU(B:Blt mg)(me:mg "enumerate"=none)(TB:BCl K C)(TC:KCl K CK)(F:Fun K "kind_or_place" "kind_or_place" sKP f fd)(G:Yf P w K mg base CX0 (L+3) f fd ["book","around","body"] (RB C CK n))(bG:Binds K fd ["book","around","body"] [])(mG:mg "kind_or_place"=some (.ref f))(m1:VI K C "kinds" g1)(G1:Yf P w K mg base CX0 (L+3) g1 d1 ["self"] (Ja C CK))(b1:Binds K d1 ["self"] [])(m2:VI K CK "names" g2)(G2:Yf P w K mg base CX0 (L+3) g2 d2 ["self"] (U6 CK))(b2:Binds K d2 ["self"] [])(DP:Df P w K mg base (L+3) "parts" ["body"] Xf)(mU:mg "RULES"=some (.ref aR))(hM:base.MapOf (Y8 P w) aR mR)(hR:∀b:Bd,(∀e ts bs,b=.choose e ts bs->1<=bs.length)->∃(g:Addr)(gd:FuncData)(p:Bd->Prop),mR (Sum.inr b.word)=some (.ref g)/\Yf P w K mg base CX0 (L+3) g gd rps (Xe C CK p)/\p b/\W.keepIn K (.ref g)=true/\Binds K gd rps []):
  Yf P w K mg base CX0 (L+3+1) f fd ["book","around","body"] (RB C CK<|n+1):=by
 refine F.oq Tt λE3 A T3 s H vs Q E hr h=>?_;obtain⟨t,a,v,J,c,d,T,M,b,rfl,bi,kk,hk,nk,pl,ha,kl,hv,ok,dn,n5,q⟩:=h;have hu:=V9 hr;have DG:Df P w K mg base (L+3) "kind_or_place" ["book","around","body"] (RB C CK n):=⟨f,fd,mG,F.kp,bG,G⟩;refine⟨_,YY (Yx 3 Tt.nd<|pv 1)
  (YY (Y1 (Yr VZ (Yo Yt (pv 2) Ya) Yy<|Yz _)
   (YY (Y1 (PW.pt<|UP (Jp<|Uw hu (Yo Yt (pv 2) Ya)<|pv 1)<|Jo<|Yr Ju (Yo Yt (pv 2) Ya) (Ve (Ve (pv 0) TB.cl m1 G1 hr b1 .nil Y2) TC.cl m2 G2 hr b2 .nil Y2) rfl) (YZ<|Ym<|Yi<|pa2 Vs<|Yi VP) Yp)
   (YY (Yx 3 Tt.nd<|VY Dp rfl B.dict Uk (pa1<|pv 1))
   (YZ<|Vc hu (pv 3) (Yo Yt (pv 2) Ya) (Yo Yt (pv 2) Ya) rfl))) Yp)
  (YY (Yx 4 Tt.nd<|V8 VP)
  (YY (Jb Zv rfl (W8 rfl me (pa1<|VS DP hr<|pa1<|pv 2)) (Vd (n:=2) rfl (Ys (Yl 5 Tt.nd)<|Ys (Yl 6 Tt.nd) VN))
   (YY (Jq (VS DG hr<|pa3 (pv 0) (pv 3)<|pv 6)<|Vd (n:=2) rfl (Ys (Yl 7 Tt.nd)<|Ys (Yl 8 Tt.nd) VN))
   (YY (Y1 (Yr G7 (pv 7) Vs<|Yz _) (YZ<|Ym<|Yi<|pa2 Vs<|Y9 MY (Yi<|pa1<|pv 5)<|pv 8) Yp)
   (YZ<|VQ<|J1 Zz Z0 Z1 Vu (pv 4)<|pa1<|pv 7))))
  (YY (Yx 9 Tt.nd<|O4 rfl mU hM hu (Yo Yt (pv 2) Ya) (λ_ _=>rfl))
  (YY (Yx 7 Tt.nd<|KZ (pv 9) hr Y2<|pa4 (pv 0) (pv 1) (pv 2)<|pv 4)
  (YY (Y1 (Yr G7 (pv 7) Vs<|Yz _) (YZ<|Ym<|Yi<|pa2 Vs<|Yi VP) Yp)
  (YZ<|Ym<|Yi<|pa2 (pv 7) Vs))))))),?_⟩
 dsimp only[Vf,Cx.nox,Cx.wish];show let a:=_;let b:=_;let c:=Yk (VE _ b _) a;let d:=Yk _ c;let e:=Yk _ d;let f:=_;let g:=_;let h:=Yk (VE _ g _) f;let i:=Yk _ h;let j:=Yk (XH _ _ i) e;let k:=Yk _ j;let l:=_;let m:=Yk _ l;let n:=_;let o:=Yk (VE _ n _) m;let p:=Yk (VE _ o _) k;Yk _ p _ _ _
 intros
 obtain⟨bt,ys,rfl,hb⟩:=Lc hv;have E2:=Bd.few ok
 have R3:kdn J (Vv<|T.map (·.1)) (n+1) M b=none->[[]]=wr J (Vv<|T.map (·.1)) (n+1) M b->∀R,Same H R->∀O r0,R O=none->(upd R O<|.tup []) r0=none->Q (.ref r0) (upd (upd R O<|.tup []) r0<|.tup [.non,.ref O]):=λe T5 R D O r0 h0 h1=>by
  have s2:=Yq h0<|.tup [];have g2:upd R O (.tup []) O=some (.tup []):=Ye;refine q r0 (.ref O) _ ((D.trans s2).trans<|Yq h1 _) (by rw[WQ e];exact Ye) λ_=>⟨O,[],[],rfl,(Yq h1 _) _ _ g2,Zc _,T5.symm⟩
 refine ED Y ?_;refine Jw (λU' R=>∃wa,Same H R/\ ¬Js J M b/\Rd R wa (.dK<|wth M b)/\U'=[some (.ref t),some<|.ref a,some<|.ref bt,some<|.ref wa,none,none,none,none,none,none]) ?_ ?_
 .rintro U' R ⟨wa,D,nb,hw,rfl⟩
  have R6:=nk.wth nb;refine⟨sl 0,λfl T0=>?_⟩;refine up_in T0 _ λH2 s2 g2=>?_;refine⟨.ref bt,b,Y,(hv.mono D).mono s2,ok,λu H3 s3 T6=>?_⟩;obtain⟨pa,xs,rfl,R8,R7⟩:=Yw T6;have lx:=R7.length;rw[Z9,ZA]at lx;exists pa,true,xs,Y,Z2 R8
  let I:kI:=λi U Hi=>Same R Hi/\Hi pa=some (.tup xs)/\HasL Hi xs (Bd.dats b.parts)/\(∃zs:ky,(b.parts.take i).map (kdn J (Vv<|T.map (·.1)) n<|wth M b)=zs.map some/\Hi fl=some (.lst<|zs.map V.str))/\∃z5 z6 z7 z8,U=[some (.ref t),some<|.ref a,some<|.ref bt,some<|.ref wa,some<|.ref fl,z5,z6,z7,z8,none]
  refine TZ (tp:=true) (xs:=xs) I ⟨s2.trans s3,R8,R7,⟨[],Y,s3 _ _ g2⟩,_,_,_,_,Y⟩ (λi U Hi _ z=>Z2 z.2.1) ?_ ?_
  .rintro i x U Hi r hx ⟨si,hai,hxi,⟨zs,ez,hfi⟩,z5,z6,z7,z8,rfl⟩ hr'
   refine up_in hr' _ λHR sR gR=>?_;obtain⟨dd,J2,D0⟩:=hxi.get hx;rw[Z9,ZH]at J2
   cases hc:b.parts[i]? with
   |none=>rw[hc]at J2;cases J2
   |some c'=>
    rw[hc]at J2;cases J2;have L1:=ZJ hc;have dc:=Bd.dep_mem L1;have il:=(ZF.mp hc).1;have wl:=OS M b;have M2:=(D.trans si).trans sR
    have lz:zs.length<=i:=by
     have:=congrArg List.length ez;rw[ZA,ZA,ZN]at this;omega
    exists _,Z2 gR,Y;refine⟨t,wa,x,J,c,d,T,wth M b,c',Y,bi.mono M2,kk,hk,R6,pl,hw.same<|si.trans sR,by omega,D0.mono sR,Bd.ok_parts ok c' L1,by omega,by omega,λr2 p2 H4 s4 h4 hp=>?_⟩;exists _,Z2 h4,Y
    cases ek:kdn J (Vv<|T.map (·.1)) n (wth M b) c' with
    |none=>
     have en:kdn J (Vv<|T.map (·.1)) (n+1) M b=none:=TN<|ZW.mpr ⟨c',L1,ek⟩;obtain⟨l2,ws,wt,rfl,G3,lw,ew⟩:=hp ek;have pn:none∈b.parts.map (kdn J (Vv<|T.map (·.1)) n<|wth M b):=ZW.mpr ⟨c',L1,ek⟩;obtain⟨R4,D2⟩:=Ey (f:=wr J (Vv<|T.map (·.1)) n<|wth M b) hc ((Fv λe he=>by have:=Bd.dep_mem<|Zk he;omega).mpr (by rw[ez];simp)) ew;have T2:=(OT nb pn).trans D2;refine⟨Y,_,Y,VH (by simp[WR]) ?_⟩;refine⟨sl 1,λt1 T8=>?_⟩;refine up_in T8 _ λH5 s5 g5=>?_;refine⟨t1,l2,_,_,Y,Y,Z2 g5,Z2<|s5 _ _ G3,by simp,Zh<|Yj (by show 1+(ws.map V.int).length<=1000;rw[ZA];omega),λe0=>?_,λe0 t2 T7=>?_⟩
     .refine ⟨sl 2,λS Z=>?_⟩
      exact q S _ _ (((M2.trans s4).trans s5).trans<|Yq Z _) (by rw[WQ en];exact Ye) λ_=>⟨t1,[((i:Nat):Int)],R4,rfl,(Yq Z _) _ _ g5,by show 1<=n+1;omega,by rw[T2];cases ws with|nil=>rfl|cons _ _=>cases e0⟩
     .refine up_in T7 _ λH6 s6 g6=>?_
      refine⟨sl 2,λS Z=>?_⟩;exact q S _ _ ((((M2.trans s4).trans s5).trans s6).trans<|Yq Z _) (by rw[WQ en];exact Ye) λ_=>⟨t2,((i:Nat):Int)::ws,R4,rfl,(Yq Z _) _ _ g6,by rw[Zf];omega,T2⟩
    |some zk=>
     refine⟨Y,_,Y,Y0 (by simp[WR]) ?_⟩;have O1:=s4 _ _<|sR _ _ hfi;refine⟨.inl ⟨Y,_,Z3 O1⟩,fl,_,_,Y,Y,O1,Yj (by rw[ZA];omega),?_⟩;have T9:=s4 _ _<|sR _ _ hai;have tk:TK H4 (upd H4 fl<|.lst<|zs.map V.str++[WR (some zk)]):=λb us h=>by rw[Yg (λe=>by rw[e,O1]at h;cases h)];exact h
     refine⟨((si.trans sR).trans s4).putN T0,tk _ _ T9,GO tk _ (Bd.sts _)<|(hxi.mono sR).mono s4,⟨zs++[zk],?_,?_⟩,_,_,_,_,rfl⟩
     .rw [take_snoc hc,ZK,ZK,ez]
      show _++[kdn _ _ _ _ _]=_;rw[ek];rfl
     .rw [Ye,ZK];rfl
  .rintro U Hi ⟨si,hai,hxi,⟨zs,ez,hfi⟩,z5,z6,z7,z8,rfl⟩
   rw[Zg (by omega)]at ez;have sH:=D.trans si;have a0:atI (V.str b.word::ys) 0=some (.str b.word):=VG (j:=0) rfl
   obtain⟨gr,D1,pr,r1,r2,r3,r4,r5⟩:=hR b (λe' D3 F2 eb=>by
    subst eb;unfold Bd.ok at ok;rw[ok.2.1];exact ok.2.2.1.1)
   have lz:zs.length=b.parts.length:=by
    have:=congrArg List.length ez;rw[ZA,ZA]at this;exact this.symm
   have mz:∀z∈zs,z∈J.map (·.1):=λz hz=>by
    have m:some z∈b.parts.map (kdn J (Vv<|T.map (·.1)) n<|wth M b):=by rw[ez];exact ZW.mpr ⟨z,hz,Y⟩
    obtain⟨p,_,e⟩:=ZW.mp m;exact EV kk hk n _ p z R6 e
   have eo:=Me nb ez;exists _,_,Z2<|sH _ _ hb,a0,Sum.inr b.word,_,.ref gr,rfl,r1,rfl;refine⟨gr,D1,rps,Xe C CK pr,Y,r2,r4,r5,t,a,fl,.ref bt,J,c,d,T,M,b,zs,Y,bi.mono sH,kk,nk,pl,ha.same sH,hv.mono sH,ok,r3,hfi,lz,mz,λH5 s5=>?_⟩;rw[<-eo];have R5:=sH.trans s5
   cases ek:kdn J (Vv<|T.map (·.1)) (n+1) M b with
   |none=>exact⟨Y,_,Y,VH (by simp[WR]) ⟨sl 0,λO X=>⟨sl 2,λS Z=>R3 ek (Qu nb (by rw[ez];simp) ek) H5 R5 O S X Z⟩⟩⟩
   |some y=>
    refine⟨Y,_,Y,Y0 (by simp[WR]) ⟨sl 2,λS Z=>?_⟩⟩;exact q S _ _ (R5.trans<|Yq Z _) (by rw[ek];exact Ye) λe=>by rw[ek]at e;cases e
 .intro N key
  have a0:atI (V.str b.word::ys) 0=some (.str b.word):=VG (j:=0) rfl;exists _,_,Z2 hb,a0,Y,_,Y
  cases b with
  |letb x k e g=>
   obtain⟨F1,u1,u2,e1,R1⟩:=EZ hv;cases e1;obtain⟨A',kt,rfl,b'⟩:=id bi;refine VH (decide_eq_true Y) ?_;exists _,_,Z2 R1,Y,_,.inl ⟨M,Sum.inr x,ha,Y,Y⟩,_,Y
   by_cases kn:(VC M<|Sum.inr x).isSome=true
   .exact VH (by rw[kn]) ⟨sl 0,λO X=>⟨sl 2,λS Z=>R3 (GJ<|.inl kn) (Fw<|.inl kn) H (Z8 _) O S X Z⟩⟩
   refine Y0 (by simpa using kn) ?_;refine⟨_,_,Z2 R1,Y,_,_,b'.ins,Y,A'.t,J,d,T,Y,bi,λso ki=>?_⟩;obtain⟨AK,SK,rfl,T4,E1⟩:=id ki;refine⟨_,_,T4.ins,Y,AK.t,J,d,Y,ki,λl R D hl g1=>?_⟩;have el:(J.map λk=>V.str k.1)=(J.map (·.1)).map V.str:=by rw[yj];rfl
   rw[el]at g1;exists l,_,Y,.inl<|Z3 g1,rfl,Jx _,_,rfl;rw[UV]
   by_cases km:k∈J.map (·.1)
   case neg=>exact VH (by simp only[if_true,jb,decide_eq_false_iff_not];exact km) ⟨sl 0,λO X=>⟨sl 2,λS Z=>R3 (GJ<|.inr km) (Fw<|.inr km) R D O S X Z⟩⟩
   refine Y0 (by simp only[if_true,jb,decide_eq_false_iff_not,Classical.not_not];exact km) ?_;refine⟨a,M,Y,ha.same D,λl2 G3=>?_⟩;refine up_in G3 _ λH2 s2 g2=>?_;have T1:=s2 _ _<|D _ _ R1;refine⟨_,_,Z2 T1,Y,_,_,Z2 T1,Y,_,Jh.k (k:=Sum.inr x) g2<|Yj<|by omega,?_⟩;exact key _ _ ⟨l2,(D.trans s2).putN<|D.free G3,λz=>z.elim (λz=>kn z) λz=>z km,.inl Ye,rfl⟩
  |_=>exact Y0 (λz=>by have z1:=Zt z;injection z1 with z2;exact Zr z2 (by dsimp only[Bd.word];decide +kernel))<|key _ _ ⟨a,Z8 _,λz=>z,ha,rfl⟩
end
end K4
namespace L2
open PySem
def Uo(ks:kO)(ps:List (Str×Str)):List (List W):=ps.foldl (λrows p=>rows.flatMap λr=>(Y3 ks 3 p.2).map λu=>r++[u]) [[]]
def WN(r:List W):Dat:=.tup<|r.map W.dat
def Bs(Z:kO)(J:List (Str×Str))(p:Str×Str):Uo Z (J++[p])=(Uo Z J).flatMap λr=>(Y3 Z 3 p.2).map λu=>r++[u]:=by
 unfold Uo;rw[jy]
 rfl
theorem RT{α β:Type}(f:α->List β)(k:Nat):∀l:List α,(∀a∈l,(f a).length=k)->(l.flatMap f).length=l.length*k
 |[],_=>by simp
 |a::l,h=>by
  rw[qe,ZL,h a Za,RT f k l λb Z=>h b<|ZM _ Z,Zf,vP,qa]
theorem Ub(c:kP):∀(Z:List (Str×Str))(n:Nat),Z.foldl (λr p=>r*c p.2) n=n*V4 c Z
 |[],n=>by unfold V4;simp
 |p::Z,n=>by
  unfold V4;rw[vS,vS,Ub c Z<|n*c p.2,Ub c Z<|1*c p.2,Nat.one_mul,Nat.mul_assoc]
def Gs(h:∀p∈ps,0<c p.2)(i:Nat):V4 c (ps.take i)<=V4 c ps/\0<V4 c ps:=by
 have J:∀Z:List (Str×Str),(∀p∈Z,0<c p.2)->0<V4 c Z:=λZ=>by
  induction Z with
  |nil=>intro _;exact Nat.one_pos
  |cons q Z ih=>
   intro L;unfold V4;rw[vS,Ub,Nat.one_mul];exact Nat.mul_pos (L q Za)<|ih λp G=>L p<|ZM _ G
 refine⟨?_,J ps h⟩
 have e:V4 c ps=V4 c (ps.take i)*V4 c (ps.drop i):=by
  conv=>lhs;rw[<-jN i ps]
  unfold V4;rw[jy,Ub]
  rfl
 rw[e];exact Nat.le_mul_of_pos_right _<|J _ λp G=>h p<|jk G
def KK.c0(h:KK 30 c d Z)(J:y∈Z.map (·.1)):(Y3 Z 3 y).length=c y/\0<c y:=by
 have s:=h.small J;obtain⟨a,b,_⟩:=UL h 3 y J (by omega);exact⟨a,b⟩
def FF(h:KK 30 c d J)(Z:List (Str×Str))(L:∀p∈Z,p.2∈J.map (·.1)):(Uo J Z).length=V4 c Z:=by
 have go:∀(Z:List (Str×Str))(rows:List (List W)),(∀p∈Z,p.2∈J.map (·.1))->(Z.foldl (λrows p=>rows.flatMap λr=>(Y3 J 3 p.2).map λu=>r++[u]) rows).length=Z.foldl (λr p=>r*c p.2) rows.length:=λZ=>by
  induction Z with
  |nil=>intro rows _;rfl
  |cons p Z ih=>
   intro rows G;rw[vS,vS,ih _ λq m=>G q<|ZM _ m,RT _ (c p.2) rows λa _=>by rw[ZA];exact(h.c0<|G p Za).1]
 exact go Z [[]] L
def Bt(Z:List (Str×Str)):∀r∈Uo ks Z,r.length=Z.length:=by
 have go:∀(Z:List (Str×Str))(n:Nat)(rows:List (List W)),(∀r∈rows,r.length=n)->∀r∈Z.foldl (λrows p=>rows.flatMap λr=>(Y3 ks 3 p.2).map λu=>r++[u]) rows,r.length=n+Z.length:=λZ=>by
  induction Z with
  |nil=>intro n rows h r J;exact h r J
  |cons p Z ih=>
   intro n rows h r J
   have:=ih (n+1) _ (λr J=>by
    obtain⟨G,M,L⟩:=List.mem_flatMap.mp J;obtain⟨u,_,rfl⟩:=ZW.mp L;rw[ZL,h G M];rfl) r J
   rw[this,Zf];omega
 intro r J;have:=go Z 0 [[]] (λr J=>by rw[ZQ.mp J];rfl) r J;omega
def QB(N:Has H x (WN r))(J:H b=some (.tup [wv]))(O:Has H wv u.dat)(B:r.length<=3)(q:∀v G,Same H G->Has G v (WN<|r++[u])->Q v G):
  UO K x (.ref b) H Q\/UN K x (.ref b) H Q:=by
 unfold WN at N q;obtain⟨a,L,rfl,R,Z⟩:=Yw N;have M:=Z.length;rw[ZA]at M
 cases r with
 |nil=>
  obtain rfl:=VD Z;exact .inl ⟨a,b,[wv],Y,Y,Z2 R,Z2 J,q _ _ (Z8 _)<|Yu J<|Z5 O⟩
 |cons y r=>
  refine .inr ⟨a,b,L,[wv],Y,Y,Z2 R,Z2 J,(λz=>by subst z;cases M),Zh (Yj (by simp only[yg];omega)),(λz=>nomatch z),λ_ p T=>?_⟩;have s:=Yq T<|.tup<|L++[wv];refine q _ _ s<|Yu Ye ?_;rw[ZK];exact Z7 (Z.mono s)<|Z5<|O.mono s
def B2{J:List (Str×Str)}{i:Nat}(h:HasL H G (J.map λp=>.tup [.str p.1,.str p.2]))(L:G[i]?=some x):∃p t,J[i]?=some p/\x=.ref t/\H t=some (.tup [.str p.1,.str p.2]):=by
 obtain⟨d,Z,N⟩:=h.get L;rw[ZH]at Z
 cases e:J[i]? with
 |none=>rw[e]at Z;cases Z
 |some p=>
  rw[e]at Z;cases Z;obtain⟨t,rfl,M⟩:=Xu N;exact⟨p,t,Y,Y,M⟩
end L2
namespace K4
open PySem L2
section
variable{f g C CK:Addr}
def MA(CK:Addr):Sp:=λM H Q _=>∃(G:Addr)(J:kO)(d:kP)(Z:List (Str×Str))(v:V),M=[.ref G,v]/\KI H CK G J d/\J.length<=6/\Has H v (psD Z)/\Z.length<=3/\(∀p∈Z,p.2∈J.map (·.1))/\(Z.map (·.1)).Nodup/\(∀p∈Z,WdS p.1)/\
 ∀L,Same H L->Q (.bl true) L
def W5:Yh ["kinds","parameters","seen","name","kind"] ["kinds","parameters"] (Yc Br):=Y5
def Kz(B:Blt T)(TC:KCl K CK)(F:Fun K "are_parameters" "are_parameters" Br f fd)(hM:T "MOST_PARAMETERS"=some u)(rM:RelV (.int 3) u)(DN:Df P w K T base n "is_name" ["text"] (Ut 97))(m2:VI K CK "names" g)(G2:Yf P w K T base CX0 n g gd ["self"] (U6 CK))(b2:Binds K gd ["self"] []):Yf P w K T base CX0 (n+1) f fd ["kinds","parameters"] (MA CK):=by
 refine F.oq W5 λJ2 A j s H vs Q E m h=>?_;obtain⟨so,y,d,ps,v,rfl,ki,k6,hv,l3,pk,nd,S,q⟩:=h;have hu:=V9 m;unfold psD at hv;obtain⟨pa,xs,rfl,Z,M⟩:=Yw hv;have lx:=M.length;rw[ZA]at lx;refine⟨_,YY (Y1 (Yr G8 (VA Y7 Y B.len Zu (pa1<|pv 1)) (JF rfl hM rM)<|Yz _) (YZ V5) Yp)
  (YY (Yx 2 W5.nd V0)
  (YY (Jb Zv rfl (UH<|pv 1) (Vd (n:=2) rfl (Ys (Yl 3 W5.nd)<|Ys (Yl 4 W5.nd) VN))
   (YY (Y1 (PW.pt<|UP (Jk<|JR<|VS DN m<|pa1<|pv 3)<|UP (Jp<|Uw hu (pv 3)<|pv 2)<|Jo<|Yr Ju (pv 4) (Ve (pv 0) TC.cl m2 G2 m b2 .nil Y2) rfl) (YZ V5) Yp)
   (YZ<|Vc hu (pv 2) (pv 3) Xn rfl)))
  (YZ<|Ym Xn))),?_⟩
 dsimp only[Vf,Cx.nox,Cx.wish];show let a:=_;let b:=_;let c:=_;let d:=Yk (VE _ c _) b;let e:=Yk (XH _ _ d) a;let f:=Yk _ e;let g:=_;Yk (VE _ g _) f _ _ _
 intros
 refine⟨pa,_,Y,.inr<|Z2 Z,_,rfl,Y0 (by simp;omega) ?_⟩;intro X N;refine up_in N _ λH1 s1 g1=>?_;exists ⟨_,Z2<|s1 _ _ Z⟩
 let I:kI:=λi U J=>Same H J/\∃G z3 z4,J X=some (.dK G)/\G.map (·.1)=(ps.take i).map (λp=>(Sum.inr p.1:Key))/\U=[some (.ref so),some<|.ref pa,some<|.ref X,z3,z4]
 refine Ta (xs:=xs) I ⟨s1,[],_,_,g1,Y,Y⟩ (λi U J _ z=>Z2<|z.1 _ _ Z) ?_ ?_
 .rintro BB RR i x U J hx ⟨si,G,z3,z4,hk,ek,rfl⟩
  obtain⟨p,t,D,rfl,ht⟩:=B2 M hx;have O:=ZJ D;have i3:=(ZF.mp D).1;obtain⟨w1,w2,w3⟩:=S p O
  have nk:VC G (Sum.inr p.1)=none:=Rj (by
   rw[ek];intro z;obtain⟨q1,r,o⟩:=ZW.mp z;exact RH nd (show(ps.map (·.1))[i]?=some p.1 by rw[ZH,D];rfl) (by rw[<-j3];exact ZW.mpr ⟨q1,r,Sum.inr.inj o⟩))
  exists _,Z2<|si _ _ ht,rfl;refine⟨p.1,Y,w1,w2,w3,λH2 R=>⟨_,Y,Y0 (by simp) ?_⟩⟩;refine⟨_,(show Vg H2 X (.str p.1) none by rw[<-nk];exact Vg.k (k:=Sum.inr p.1)<|R _ _ hk),_,Y,Y0 (by simp) ?_⟩;have L:=ki.mono<|si.trans R;obtain⟨AK,SK,o,kd,kr⟩:=id L;refine⟨_,_,by rw[<-o];exact kd.ins,Y,so,y,d,Y,L,λl H3 s3 hl g3=>?_⟩;have el:(y.map λk=>V.str k.1)=(y.map (·.1)).map V.str:=by rw[yj];rfl
  rw[el]at g3;refine⟨l,_,Y,.inl<|Z3 g3,rfl,Jx _,_,rfl,Y0 ?_ ?_⟩
  .rw [UV]
   simp only[if_true,jb,decide_eq_false_iff_not,Classical.not_not];exact pk p O
  have lk:G.length<=3:=by
   have:=congrArg List.length ek;rw[ZA,ZA,ZN]at this;omega
  refine⟨_,Jh.k (k:=Sum.inr p.1) (s3 _ _<|R _ _ hk)<|Yj<|by omega,?_⟩;refine⟨((si.trans R).trans s3).putN N,_,_,_,Ye,?_,Y⟩;rw[V7 _ nk,ZK,ek,take_snoc D,ZK]
  rfl
 .rintro U J ⟨si,_⟩
  exact q J si
def XR(CK:Addr):Sp:=λM H Q _=>∃(G:Addr)(J:kO)(c d:kP)(Z:List (Str×Str))(v:V),M=[.ref G,v]/\KI H CK G J d/\KK 30 c d J/\Has H v (psD Z)/\(∀p∈Z,p.2∈J.map (·.1))/\V4 c Z<=1000/\
 ∀L,Same H L->Q (.int (V4 c Z:Nat)) L
def J0:Yh ["kinds","parameters","count","name","kind"] ["kinds","parameters"] (Yc WL):=Y5
def NP(B:Blt S)(TC:KCl K CK)(F:Fun K "row_count" "row_count" WL f fd)(o:VI K CK "worths_of" g)(G2:Yf P w K S base CX0 n g gd ["self","kind"] (Jy CK))(b2:Binds K gd ["self","kind"] []):Yf P w K S base CX0 (n+1) f fd ["kinds","parameters"] (XR CK):=by
 refine F.oq J0 λJ2 A R s H vs Q E hr h=>?_;obtain⟨T,ks,c,d,ps,v,rfl,ki,j,y,D,top,q⟩:=h;unfold psD at y;obtain⟨r,xs,rfl,G,J⟩:=Yw y;have lx:=J.length;rw[ZA]at lx;refine⟨_,YY (Yx 2 J0.nd Ya)
  (YY (Jb Zv rfl (UH<|pv 1) (Vd (n:=2) rfl (Ys (Yl 3 J0.nd)<|Ys (Yl 4 J0.nd) VN))
   (YZ<|KN (i:=2) J0.nd rfl (Or.inl rfl) (VA Y7 rfl B.len Zu (pa1<|Y6 (pv 0) TC.cl o G2 hr b2 .nil Y2<|pa1<|pv 4)) Pm))
  (YZ<|Ym<|pv 2)),?_⟩
 dsimp only[Vf,Cx.nox,Cx.wish];show let a:=_;let b:=_;let c:=Yk (XH _ _ b) a;Yk _ c _ _ _
 intros
 refine Et ?_;exists ⟨_,Z2 G⟩
 let I:kI:=λi U L=>Same H L/\∃O N,U=[some (.ref T),some<|.ref r,some<|.int (V4 c (ps.take i):Nat),O,N]
 refine Ta (xs:=xs) I ⟨Z8 _,_,_,Y⟩ (λi U L _ z=>Z2<|z.1 _ _ G) ?_ ?_
 .rintro BB RR i x U L hx ⟨si,O,N,rfl⟩
  obtain⟨p,t,M,rfl,ht⟩:=B2 J hx;have m:=D p<|ZJ M;exists _,Z2<|si _ _ ht,rfl;have Z:=ki.mono si;obtain⟨AK,SK,e1,kd,kr⟩:=id Z;refine⟨_,Y,_,_,by rw[<-e1];exact kd.ins,Y,T,ks,d,p.2,Y,Z,m,λl k H3 u hl g3 hy=>?_⟩;have X:=hy.length;obtain⟨c1,c2⟩:=j.c0 m;rw[ZA,c1]at X;have le:=(Gs (c:=c) (ps:=ps) (λp M=>(j.c0<|D p M).2) i).1;refine⟨l,_,Y,.inl<|Z3 g3,.inl ⟨by omega,by omega⟩,?_⟩;have e:((V4 c (ps.take i):Nat):Int)*((k.length:Nat):Int)=((V4 c (ps.take<|i+1):Nat):Int):=by rw[take_snoc M,Gu,X,Int.natCast_mul]
  exact⟨si.trans u,some<|.str p.1,some<|.str p.2,by rw[<-e];rfl⟩
 .rintro U L ⟨si,O,N,rfl⟩
  rw[Zg (by omega)];exact q L si
def XQ(CK:Addr):Sp:=λN H Q _=>∃(M:Addr)(J:kO)(c d:kP)(Z:List (Str×Str))(v:V),N=[.ref M,v]/\KI H CK M J d/\KK 30 c d J/\Has H v (psD Z)/\(∀p∈Z,p.2∈J.map (·.1))/\Z.length<=3/\V4 c Z<=1000/\
 ∀l L G,Same H G->H l=none->G l=some (.lst L)->HasL G L ((Uo J Z).map WN)->Q (.ref l) G
def Jz:Yh ["kinds","parameters","rows","name","kind"] ["kinds","parameters"] (Yc WJ):=Y5
def Qb:List.Nodup [("row":Str),"worth","kinds","kind"]:=by decide +kernel
def NO(B:Blt mg)(TC:KCl K CK)(F:Fun K "rows_over" "rows_over" WJ f fd)(m2:VI K CK "worths_of" g)(G2:Yf P w K mg base CX0 n g gd ["self","kind"] (Jy CK))(b2:Binds K gd ["self","kind"] []):Yf P w K mg base CX0 (n+1) f fd ["kinds","parameters"] (XQ CK):=by
 refine F.oq Jz λR8 A R3 s H vs Q E hr h=>?_;obtain⟨so,ks,c,d,ps,v,rfl,ki,kk,hv,pk,l3,top,q⟩:=h;unfold psD at hv;obtain⟨pa,xs,rfl,M2,L1⟩:=Yw hv;have lx:=L1.length;rw[ZA]at lx;refine⟨_,YY (Yx 2 Jz.nd<|V8<|pa1<|Yi VP)
  (YY (Jb Zv rfl (UH<|pv 1) (Vd (n:=2) rfl (Ys (Yl 3 Jz.nd)<|Ys (Yl 4 Jz.nd rfl (Or.inr rfl)) VN))
   (YZ (Oz (i0:=2) (wi2:=LR K<|IN CK "worths_of" (Jy CK) [] E (BF 2)<|JZ (BF 3) Rn) [0,4] Jz.nd rfl (Or.inl rfl) (JP<|pv 2)
    (λcl C fp s H=>Yl 0 Qb rfl (Or.inl rfl) (Or.inr rfl)) (λcl C fp s H=>JP<|Y6 (pv 2) TC.cl m2 G2 hr b2 .nil Y2<|pa1<|pv 3) (λcl C fp s H=>Yl 1 Qb rfl (Or.inl rfl) (Or.inr rfl))
    (λcl C fp s H=>Y9 (r:=λx y H Q=>UO K x y H Q\/UN K x y H Q) UA (pv 0)<|Yi<|pa1<|pv 1))))
  (YZ<|Ym<|pv 2)),?_⟩
 dsimp only[Vf,Cx.nox,Cx.wish];show let a:=_;let b:=_;let c:=Yk (XH _ _ b) a;Yk _ c _ _ _
 intros
 refine⟨sl 0,λt0 R4=>⟨sl 1,λl0 S=>?_⟩⟩;have s1:=Yq R4<|.tup [];have g1:upd H t0 (.tup []) t0=some (.tup []):=Ye;generalize upd H t0 (.tup [])=H1 at s1 g1 S |-;refine up_in S _ λH2 s2 g2=>?_;have J2:=s1.trans s2;exists ⟨_,Z2<|J2 _ _ M2⟩;refine Ta (xs:=xs) (λi U T=>Same H T/\∃l G z3 k,H l=none/\T l=some (.lst G)/\HasL T G ((Uo ks<|ps.take i).map WN)/\U=[some (.ref so),some<|.ref pa,some<|.ref l,z3,k]) ⟨J2,l0,_,_,_,s1.free S,g2,Z5<|Yu (s2 _ _ g1) Z6,rfl⟩ (λi U T _ z=>Z2<|z.1 _ _ M2) ?_ ?_
 .rintro BB RR i x U T hx ⟨si,l,G,z3,k,fl,hl,hy,rfl⟩
  obtain⟨p,t,O,rfl,ht⟩:=B2 L1 hx;have hk:=pk p<|ZJ O;obtain⟨c1,c2⟩:=kk.c0 hk;have i3:=(ZF.mp O).1;have lR:=FF kk (ps.take i) λp O=>pk p<|Zk O;have rl:=Bt (ks:=ks)<|ps.take i;have le:=(Gs (c:=c) (ps:=ps) (λp O=>(kk.c0<|pk p O).2)<|i+1).1;have eR:Uo ks (ps.take<|i+1)=(Uo ks<|ps.take i).flatMap λr=>(Y3 ks 3 p.2).map λu=>r++[u]:=by rw[take_snoc O,Bs]
  rw[take_snoc O,Gu,<-lR,<-c1]at le;rw[eR];have ly:=hy.length;rw[ZA]at ly;rw[ZN]at rl;generalize Uo ks (ps.take i)=R at lR rl le hy ly |-;generalize hus:Y3 ks 3 p.2=us at le |-;exists _,Z2<|si _ _ ht,rfl;exists ⟨G,Z3 hl⟩;refine Tl G.length (λJ N m=>Same T m/\N.length=J*us.length/\J<=R.length/\HasL m N (((R.take J).flatMap λr=>us.map λu=>r++[u]).map WN)) ⟨Z8 _,by simp,Zc _,by rw[vE];exact Z6⟩
   (λJ N m z=>Yj (by rw[z.2.1];have:J*us.length<=R.length*us.length:=jm _ z.2.2.1;omega)) ?_ ?_ ?_ ?_
  .intro J N m hi z
   exact⟨G,G[J],Z3<|z.1 _ _ hl,by simp[hi]⟩
  .intro N m z
   exact⟨G,Z3<|z.1 _ _ hl,ZG _⟩
  .intro J N m x H'' RR' hi z yl hR
   obtain⟨rfl,yy⟩:=yl;obtain⟨dx,M,R6⟩:=hy.get<|yy G<|Z3<|z.1 _ _ hl;rw[ZH]at M
   cases hr1:R[J]? with
   |none=>rw[hr1]at M;cases M
   |some r=>
    rw[hr1]at M;cases M;have ri:=rl r<|ZJ hr1;have G3:=ki.mono<|si.trans z.1;obtain⟨AK,SK,e1,kd,kr⟩:=id G3;refine⟨_,_,by rw[<-e1];exact kd.ins,Y,so,ks,d,p.2,Y,G3,hk,λlw D H3 e R7 gw hw=>⟨⟨D,Z3 gw⟩,?_⟩⟩;rw[hus]at hw;have G1:=hw.length;rw[ZA]at G1;have O1:=(R6.mono z.1).mono e;refine Nc D.length (λj I X=>Same H3 X/\I.length=J*us.length+j/\j<=us.length/\HasL X I (((R.take J).flatMap λr=>us.map λu=>r++[u]).map WN++ ((us.take j).map λu=>r++[u]).map WN)) ⟨Z8 _,by rw[z.2.1];rfl,Zc _,by rw[vE,vG,vG,yu];exact z.2.2.2.mono e⟩
     (λj I X Z=>Yj (by
      rw[Z.2.1];have:(J+1)*us.length<=R.length*us.length:=jm _ (by omega);rw[vP]at this;have:=Z.2.2.1;omega)) ?_ ?_ ?_ ?_
    .intro j I X hj Z
     exact⟨D,D[j],Z3<|Z.1 _ _ gw,by simp[hj]⟩
    .intro I X Z
     exact⟨D,Z3<|Z.1 _ _ gw,ZG _⟩
    .intro j I X x2 H5 T2 hj Z yl2 hT
     obtain⟨rfl,R1⟩:=yl2;obtain⟨dz,L,R5⟩:=hw.get<|R1 D<|Z3<|Z.1 _ _ gw;rw[ZH]at L
     cases hv1:us[j]? with
     |none=>rw[hv1]at L;cases L
     |some v=>
      rw[hv1]at L;cases L;refine⟨sl 1,λb hb=>?_⟩;have sb:=Yq hb<|.tup [x2];have gb:upd H5 b (.tup [x2]) b=some (.tup [x2]):=Ye;refine QB ((O1.mono Z.1).mono sb) gb ((R5.mono Z.1).mono sb) (by omega) λv' H6 s6 h6=>hT _ _ ?_;have o:=sb.trans s6;exists Z.1.trans o,by rw[ZL,Z.2.1];rfl,(ZF.mp hv1).1;rw[take_snoc hv1,ZK,ZK,<-vk];exact Z7 (Z.2.2.2.mono o)<|Z5 h6
    .intro I X Z
     refine hR _ _ ⟨z.1.trans<|e.trans Z.1,by rw[Z.2.1,G1,vP],(ZF.mp hr1).1,?_⟩;have y4:=Z.2.2.2;rw[show us.take D.length=us from Zg (by omega)]at y4;rw[take_snoc hr1,List.flatMap_append,ZK];simp only[qe,List.flatMap_nil,yu];exact y4
  .intro N m p3 z hp3
   have e:=Yq hp3<|.lst N;have k:=z.2.2.2;rw[Zg (by omega)]at k;exact⟨si.trans<|z.1.trans e,p3,N,_,_,(si.trans z.1).free hp3,Ye,k.mono e,rfl⟩
 .rintro U T ⟨si,l,G,z3,k,fl,hl,hy,rfl⟩
  rw[Zg (by omega)]at hy;exact q l G T si fl hl hy
end
end K4
namespace L2
open PySem
def Xo(H:Hp)(x:Addr):Hp:=λb=>if b=x then none else H b
structure BB(Hm H:Hp)(C CK:Addr)(A:BA)(ks:List (Str×Shp))(d:Str->Nat):Prop where
 ins:H A.t=some (.ins C A.dx (UG A))
 sm:Same Hm H
 so:KI Hm CK A.so ks d
 nd:Hm A.td=none
 nr:Hm A.rd=none
 ne:A.td≠A.rd
 n1:A.t≠A.td
 n2:A.t≠A.rd
def BB.same(b:BB J H C L A Z d)(s:Same H G):BB J G C L A Z d:=⟨s _ _ b.ins,b.sm.trans s,b.so,b.nd,b.nr,b.ne,b.n1,b.n2⟩
def BB.td(b:BB J H C G A Z d)(o:HO):BB J (upd H A.td o) C G A Z d:=⟨by rw[Yg b.n1];exact b.ins,b.sm.putN b.nd,b.so,b.nd,b.nr,b.ne,b.n1,b.n2⟩
def BB.rd(b:BB J H C G A Z d)(o:HO):BB J (upd H A.rd o) C G A Z d:=⟨by rw[Yg b.n2];exact b.ins,b.sm.putN b.nr,b.so,b.nd,b.nr,b.ne,b.n1,b.n2⟩
structure BT(H:Hp)(A:BA)(kv rv:List (Key×V))(ks:List (Str×Shp))(ds:List Dd):Prop where
 td:H A.td=some (.dK kv)
 rd:H A.rd=some (.dK rv)
 ke:kv.map (·.1)=ds.map (λx=>(Sum.inr x.1.1:Key))
 va:HasL H (kv.map (·.2)) (ds.map Us)
 ro:∀x∈ds,∃l xs,VC rv (Sum.inr x.1.1)=some (.ref l)/\H l=some (.lst xs)/\HasL H xs ((Uo ks x.1.2.1).map WN)
 ln:rv.length<=ds.length
def BT.same(b:BT H A G J L T)(s:Same H B):BT B A G J L T:=
 ⟨s _ _ b.td,s _ _ b.rd,b.ke,b.va.mono s,λx M=>let⟨l,Z,R,O,N⟩:=b.ro x M;⟨l,Z,R,s _ _ O,N.mono s⟩,b.ln⟩
theorem Mh(e:TK H L):∀(u:W){v:V},Has H v u.dat->Has L v u.dat
 |.non,_,h=>by unfold W.dat Has at h |-;exact h
 |.tag _,_,h=>by unfold W.dat Has at h |-;exact h
 |.pair a b,_,h=>by
  obtain⟨p,N,M,rfl,Z,G,J⟩:=Ng h;unfold W.dat Has;exact⟨p,_,Y,e _ _ Z,Z4 (Mh e a G)<|Z5<|Mh e b J⟩
theorem Mi{α:Type}{D:α->Dat}(e:∀u {v:V},Has H v (D u)->Has G v (D u)):∀{J:List α}{Z:kH},HasL H Z (J.map D)->HasL G Z (J.map D)
 |[],[],_=>Z6
 |[],_::_,h=>by rw[vG]at h;unfold HasL at h;exact h.elim
 |_::_,[],h=>by rw[ZV]at h;unfold HasL at h;exact h.elim
 |u::J,x::Z,h=>by
  rw[ZV]at h |-;unfold HasL at h;exact Z4 (e u h.1)<|Mi e h.2
def Ea(e:TK H R){Z:List (List W)}(h:HasL H L (Z.map WN)):HasL R L (Z.map WN):=Mi (λu v J=>by
 unfold WN Has at J |-;obtain⟨a,G,O,N,M⟩:=J;exact⟨a,G,O,e _ _ N,Mi (λu {v}=>Mh e u) M⟩) h
def M3(x:Dd):(Us x).st=true:=by
 unfold Us psD;simp[Dat.st,Dat.sts,EJ,Bd.st]
theorem GX:∀Z:List Dd,Dat.sts (Z.map Us)=true
 |[]=>by unfold List.map Dat.sts;rfl
 |x::Z=>by rw[ZV];unfold Dat.sts;rw[GX Z,M3];rfl
def Pp(h:Has H v (Uz x)):∃a u w,v=.ref a/\H a=some (.tup [.str x.1.1,u,.str x.1.2.2,w])/\Has H u (psD x.1.2.1)/\Has H w x.2.dat:=by
 unfold Uz at h;obtain⟨t,F,rfl,O,R⟩:=Yw h;obtain⟨I,X,rfl,E,L⟩:=Yd R;obtain⟨N,C,rfl,D,G⟩:=Yd L;obtain⟨A,U,rfl,B,J⟩:=Yd G;obtain⟨M,S,rfl,T,Z⟩:=Yd J;obtain rfl:=VD Z;obtain rfl:=has_str E;obtain rfl:=has_str B;exact⟨t,N,M,Y,O,D,T⟩
def yR(A:BA):(UG A).lookup ("is_head":Str)=none:=rfl
def yP(A:BA):(UG A).lookup ("rows":Str)=some (V.ref A.rd):=rfl
def EK(Z:X.calm=true)(M:PG X (.Name x1 p1) t1)(L:PG X (.Name x2 p2) t2)(G:PG X (.Name x3 p3) t3)(J:PG X (.Name x4 p4) t4):
  PG X (.Tuple [.Name x1 p1,.Name x2 p2,.Name x3 p3,.Name x4 p4] k pos) (Ni X.K 4<|Jf t1<|Jf t2<|Jf t3<|Jf t4 TY):=
 Vd (n:=4) Z (Ys M<|Ys L<|Ys G<|Ys J VN)
def BT.put(b:BT H0 A N M Q S)(P:A.td≠A.rd)(C:x.1.1∉S.map λy=>y.1.1)(R:U=upd H0 A.td (.dK<|putK N (Sum.inr x.1.1) v))(r:Has H0 v (Us x))(s:Same U Hb)(j:Hb l=some (.lst B))(w:HasL Hb B ((Uo Q x.1.2.1).map WN))(L:H4=upd Hb A.rd (.dK<|putK M (Sum.inr x.1.1)<|.ref l)):
  BT H4 A (putK N (Sum.inr x.1.1) v) (putK M (Sum.inr x.1.1)<|.ref l) Q (S++[x]):=by
 have X:VC N (Sum.inr x.1.1)=none:=Rj (by
  rw[b.ke];intro z;obtain⟨t,I,i⟩:=ZW.mp z;exact C<|ZW.mpr ⟨t,I,Sum.inr.inj i⟩)
 have F:U A.td=some (.dK<|putK N (Sum.inr x.1.1) v):=by rw[R];exact Ye
 have Z:Hb A.rd=some (.dK M):=s _ _ (by rw[R,Yg (Zs P)];exact b.rd);have D:TK H0 U:=by rw[R];exact N9 b.td λq z=>nomatch z
 have G:TK Hb H4:=by rw[L];exact N9 Z λq z=>nomatch z
 have E:TK H0 H4:=λb J h=>G _ _<|s _ _<|D _ _ h
 have p:∀b J,H0 b=some (.lst J)->H4 b=some (.lst J):=λc J h=>by
  have k:c≠A.td:=JW h b.td (by intro z;cases z);have O:Hb c=some (.lst J):=s _ _ (by rw[R,Yg k];exact h);have g:c≠A.rd:=JW O Z (by intro z;cases z);rw[L,Yg g];exact O
 have d:H4 l=some (.lst B):=by
  rw[L,Yg (JW j Z (by intro z;cases z))];exact j
 exists by rw[L,Yg P];exact s _ _ F,by rw[L];exact Ye,by rw[V7 _ X,ZK,b.ke,ZK];rfl,?_,λy u=>?_
 .rw [V7 _ X,ZK,ZK]
  exact Z7 (GO E _ (GX S) b.va)<|Z5<|DZ E _ (M3 x) r
 .rw [Vy]
  rcases ZX.mp u with m|m
  .have ny:¬(Sum.inr y.1.1:Key)=Sum.inr x.1.1:=λz=>C<|ZW.mpr ⟨y,m,Sum.inr.inj z⟩
   rw[Zq ny];obtain⟨f,T,o,O,e⟩:=b.ro y m;exact⟨f,T,o,p _ _ O,Ea E e⟩
  .cases ZQ.mp m
   rw[Zp rfl];exact⟨l,B,Y,d,Ea G w⟩
 .have:=NI M (Sum.inr x.1.1)<|.ref l
  have:=b.ln;rw[ZL,yg];omega
end L2
namespace K4
open PySem L2
section
variable{f g C CK:Addr}
def R9(C CK:Addr):Sp:=λM H Q _=>∃(A:BA)(G:kF)(J:kO)(d:kP)(y k:Str)(Z:List (Str×Str))(v:V),M=[.ref A.t,.str y,v,.str k]/\H A.t=some (.ins C A.dx<|UG A)/\H A.td=some (.dK G)/\KI H CK A.so J d/\J.length<=6/\VC G (Sum.inr y)=none/\WdS y/\
 Has H v (psD Z)/\Z.length<=3/\(∀p∈Z,p.2∈J.map (·.1))/\(Z.map (·.1)).Nodup/\(∀p∈Z,WdS p.1)/\k∈J.map (·.1)/\∀L,Same H L->Q (.bl true) L
def Ou:Yh ["self","name","parameters","kind"] ["self","name","parameters","kind"] (Yc Bo):=Y5
def Ky(G:BCl K C)(TC:KCl K CK)(F:Fun K "is_head" "Book.is_head" Bo f fd)(DN:Df P w K T base n "is_name" ["text"] (Ut 97))(DA:Df P w K T base n "are_parameters" ["kinds","parameters"] (MA CK))(r:VI K CK "names" g)(G2:Yf P w K T base CX0 n g gd ["self"] (U6 CK))(b2:Binds K gd ["self"] []):Yf P w K T base CX0 (n+1) f fd ["self","name","parameters","kind"] (R9 C CK):=by
 refine F.oq Ou λJ2 A R s H vs Q E N h=>?_;obtain⟨D,kv,L,d,y,k,m,v,rfl,B,ht,I,i,c,⟨j,X,U⟩,a,b,p,u,O,hk,q⟩:=h;have x:=V9 N;refine⟨_,YY (Y1 (PW.pt<|UP (Jk<|JR<|VS DN N<|pa1<|pv 1)<|Jo<|Jp<|Uw x (pv 1)<|Yn (pv 0) rfl) (YZ V5) Yp)
  (YZ<|Ym<|WO (VS DA N<|pa2 (Yn (pv 0) rfl)<|pv 2)<|XW<|Jc U9 (pv 3) (Ve (Yn (pv 0) rfl) TC.cl r G2 N b2 .nil Y2) rfl),?_⟩
 dsimp only[Vf,Cx.nox,Cx.wish];refine⟨y,Y,j,X,U,λH1 J=>⟨_,Y,Y0 (by simp) ?_⟩⟩;refine⟨C,_,_,_,J _ _ B,G.cl,G.td,FX _,_,(show Vg H1 D.td (.str y) none by rw[<-c];exact Vg.k (k:=Sum.inr y)<|J _ _ ht),_,Y,Y0 (by simp) ?_⟩;refine⟨C,_,_,_,J _ _ B,G.cl,G.so,Li _,D.so,L,d,m,v,Y,I.mono J,i,a.mono J,b,p,u,O,λH2 t=>⟨true,Y,VH Y ?_⟩⟩;have Z:=J.trans t;have M:=I.mono Z;obtain⟨AK,SK,e1,o,kr⟩:=id M;refine⟨C,_,_,_,Z _ _ B,G.cl,G.so,Li _,_,_,by rw[<-e1];exact o.ins,Y,D.so,L,d,Y,M,λl H3 z hl S=>?_⟩;have el:(L.map λk=>V.str k.1)=(L.map (·.1)).map V.str:=by rw[yj];rfl
 rw[el]at S;exists l,_,Y,.inl<|Z3 S,rfl,Jx _;rw[UV];have e:decide (k∈L.map (·.1))=true:=decide_eq_true hk;dsimp only[rI0,rI,UU];rw[e];exact q H3<|Z.trans z
end
section
variable{f g C CK:Addr}
def Ic(C CK:Addr):Sp:=λO H Q _=>∃(G:Hp)(A:BA)(N:Addr)(M:kH)(Z:kO)(c d:kP)(J:List Dd),O=[.ref A.t,.ref N]/\BB G H C CK A Z d/\BT H A [] [] Z []/\KK 30 c d Z/\Z.length<=6/\G N=some (.lst M)/\HasL G M (J.map Uz)/\0<J.length/\J.length<=8/\
 Wds 97 (J.map λx=>x.1.1)/\(∀x∈J,Fq (Z.map (·.1)) c 50 x.1)/\∀L T R,BB G L C CK A Z d->BT L A T R Z J->Q .non L
def Xi:Yh ["self","definitions","in_all","number","name","parameters","kind","body","count"] ["self","definitions"] (Yc Bk):=Y5
def Kw(B:Blt T)(me:T "enumerate"=none)(R:BCl K C)(F:Fun K "take_heads" "Book.take_heads" Bk f fd)(h1:T "MOST_DEFINITIONS"=some u1)(r1:RelV (.int 8) u1)(h2:T "MOST_ROWS"=some u2)(r2:RelV (.int 200) u2)(h3:T "MOST_ROWS_IN_ALL"=some u3)(r3:RelV (.int 400) u3)(mH:VI K C "is_head" g)(GH:Yf P w K T base CX0 n g gd ["self","name","parameters","kind"] (R9 C CK))(bH:Binds K gd ["self","name","parameters","kind"] [])(DC:Df P w K T base n "row_count" ["kinds","parameters"] (XR CK))(DO:Df P w K T base n "rows_over" ["kinds","parameters"] (XQ CK)):Yf P w K T base CX0 (n+1) f fd ["self","definitions"] (Ic C CK):=by
 refine F.oq Xi λT8 A R5 s H vs Q E hr h=>?_;obtain⟨Hm,D,dl,zs,o,c,d,ds,rfl,bb,bt,kk,k6,X,J2,d0,d8,wd,ho,q⟩:=h;have hu:=V9 hr;have lz:=J2.length;rw[ZA]at lz;refine⟨_,YY (Y1 (Yr VZ (VA Y7 Y B.len Zu (pa1<|pv 1)) Ya<|Yz _) (YZ V5) Yp)
  (YY (Yx 2 Xi.nd Ya)
  (YZ (Jb Zv rfl (W8 rfl me (pa1<|pv 1)) (Vd (n:=2) rfl (Ys (Yl 3 Xi.nd)<|Ys (EK rfl (Yl 4 Xi.nd) (Yl 5 Xi.nd) (Yl 6 Xi.nd) (Yl 7 Xi.nd)) VN))
   (YY (Y1 (PW.pt<|UP (Yr QX (pv 3) (JF rfl h1 r1)<|Yz _)<|Jo<|Jk<|JR<|Y6 (pv 0) R.cl mH GH hr bH .nil Y2<|pa3 (pv 4) (pv 5)<|pv 6) (YZ V5) Yp)
   (YY (Yx 8 Xi.nd<|VS DC hr<|pa2 (Yn (pv 0) rfl)<|pv 5)
   (YY (KN (i:=2) Xi.nd rfl (Or.inl rfl) (pv 8) Pn)
   (YY (Y1 (PW.pt<|UP (Yr G8 (pv 8) (JF rfl h2 r2)<|Yz _)<|Jo<|Yr G8 (pv 2) (JF rfl h3 r3)<|Yz _) (YZ V5) Yp)
   (YY (Vc hu (Yn (pv 0) rfl) (pv 4) (Yi<|pa3 (pv 5) (pv 6)<|pv 7) rfl)
   (YZ<|Vc hu (Yn (pv 0) rfl) (pv 4) (VS DO hr<|pa2 (Yn (pv 0) rfl)<|pv 5) rfl))))))))),?_⟩
 dsimp only[Vf,Cx.nox,Cx.wish];show let a:=_;let b:=Yk _ a;let c:=_;let d:=Yk (VE _ c _) b;let e:=Yk _ d;let f:=Yk _ e;let g:=_;let h:=Yk (VE _ g _) f;let i:=XH _ _ h;let j:=Yk _ i;let k:=_;Yk (VE _ k _) j _ _ _
 intros
 refine⟨dl,_,Y,.inl<|Z3<|bb.sm _ _ X,rfl,_,rfl,Y0 (λz=>by have z1:=Zt z;injection z1 with z2;omega) ?_⟩;refine Et ?_;exists dl,false,zs,Y,Z3<|bb.sm _ _ X
 let I:kI:=λi U t=>BB Hm t C CK D o d/\∃(M v:kF)(n:Nat)(z3 z4 z5 z6 z7 z8:kL),BT t D M v o (ds.take i)/\n<=50*i/\U=[some (.ref D.t),some<|.ref dl,some<|.int (n:Nat),z3,z4,z5,z6,z7,z8]
 refine Ec (tp:=false) (xs:=zs) I
  ⟨bb,[],[],0,_,_,_,_,_,_,bt,ZG _,rfl⟩ (λi U t _ z=>Z3<|z.1.sm _ _ X) ?_ ?_
 .rintro BB' RR i x U t r hx ⟨bbi,M,v,n',z3,z4,z5,z6,z7,z8,bti,n40,rfl⟩ hr'
  obtain⟨dd,G,T3⟩:=J2.get hx;rw[ZH]at G
  cases hc:ds[i]? with
  |none=>rw[hc]at G;cases G
  |some Z=>
   rw[hc]at G;cases G;have i8:=(ZF.mp hc).1;have hm:=ZJ hc;obtain⟨p3,pk,hk,R4,R3,T7⟩:=ho Z hm;refine up_in hr' _ λHR sR gR=>?_;have J:=bbi.same sR;have G3:=bti.same sR;obtain⟨ta,u,wv,rfl,T1,G1,R7⟩:=Pp<|T3.mono J.sm
   have nx:Z.1.1∉(ds.take i).map λy=>y.1.1:=by
    rw[j3];exact RH wd.nd (show(ds.map λy:Dd=>y.1.1)[i]?=some Z.1.1 by rw[ZH,hc];rfl)
   have nk:VC M (Sum.inr Z.1.1)=none:=Rj (by
    rw[bti.ke];intro z;obtain⟨q1,T2,e1⟩:=ZW.mp z;exact nx<|ZW.mpr ⟨q1,T2,Sum.inr.inj e1⟩)
   have lk:M.length<=8:=by
    have:=congrArg List.length bti.ke;rw[ZA,ZA,ZN]at this;omega
   have lr:=bti.ln;rw[ZN]at lr;refine⟨_,Z2 gR,Y,⟨_,Z2 T1,Y,?_⟩⟩;refine⟨_,Y,Y0 (by simp;omega) ?_⟩;refine⟨_,_,J.ins,yR _,D,M,o,d,Z.1.1,Z.1.2.2,Z.1.2.1,u,Y,J.ins,G3.td,J.so.mono J.sm,k6,nk,wd.wdS<|ZW.mpr ⟨Z,hm,rfl⟩,G1,p3,pk,R4,R3,hk,λH1 s1=>⟨_,rfl,Y0 (by simp) ?_⟩⟩;have O:=J.same s1;have T5:=G3.same s1;have S:=G1.mono s1;refine⟨C,_,_,_,O.ins,R.cl,R.so,Li _,D.so,o,c,d,Z.1.2.1,u,Y,O.so.mono O.sm,kk,S,pk,by omega,λH2 p=>?_⟩;have T6:=O.same p;have T4:=T5.same p;exists _,Y;refine⟨_,Y,Y0 (by simp;omega) ?_⟩;refine⟨_,Y,Y0 (by simp;omega) ?_⟩;refine⟨sl 3,λtt T0=>?_⟩;refine up_in T0 _ λH3 m g3=>?_;have M2:=T6.same m;have N:=T4.same m;have R8:Has H3 (.ref tt) (Us Z):=Yu g3<|Z4 ((S.mono p).mono m)<|Z4 Y4<|Z5<|((R7.mono s1).mono p).mono m;refine⟨C,_,_,_,M2.ins,R.cl,R.td,FX _,_,Jh.k (k:=Sum.inr Z.1.1) N.td<|Yj<|by omega,?_⟩;have L:=M2.td<|.dK<|putK M (Sum.inr Z.1.1)<|.ref tt;obtain⟨H4,e4⟩:∃H4,H4=upd H3 D.td (.dK<|putK M (Sum.inr Z.1.1)<|.ref tt):=⟨_,rfl⟩;have O1:TK H3 H4:=by rw[e4];exact N9 N.td λys z=>nomatch z
   have R1:H4 D.rd=some (.dK v):=by rw[e4,Yg (Zs bb.ne)];exact N.rd
   rw[<-e4]at L;dsimp only[rI0,rI,UU];rw[<-e4];refine⟨C,_,_,_,L.ins,R.cl,R.so,Li _,D.so,o,c,d,Z.1.2.1,u,Y,L.so.mono L.sm,kk,DZ O1 _ (by unfold psD;unfold Dat.st;exact EJ _)<|(S.mono p).mono m,pk,p3,by omega,λl xs H5 s5 fl hl R6=>?_⟩;have L1:=L.same s5;refine⟨C,_,_,_,L1.ins,R.cl,R.rd,yP _,_,Jh.k (k:=Sum.inr Z.1.1) (s5 _ _ R1)<|Yj<|by omega,?_⟩;have G2:=N.put bb.ne nx e4 R8 s5 hl R6 rfl;rw[<-take_snoc hc]at G2;exact⟨L1.rd _,_,_,n'+V4 c Z.1.2.1,_,_,_,_,_,_,G2,by omega,Y⟩
 .rintro U t ⟨bbi,M,v,n',z3,z4,z5,z6,z7,z8,bti,n40,rfl⟩
  rw[Zg (by omega)]at bti;exact q t M v bbi bti
end
end K4
namespace L2
open PySem
def BD.mono(k:BD H C M A Z J d G)(e:Same H L):BD L C M A Z J d G:=⟨e _ _ k.ins,k.so.mono e,e _ _ k.td,k.ke,k.va.mono e,k.nd⟩
def B4(n:b≠x)(h:H b=some o):Xo H x b=some o:=by unfold Xo;rw[Zq n];exact h
def KI.out(k:KI H R t L d)(N:H x=some (.ins C O [])):KI (Xo H x) R t L d:=by
 obtain⟨A,S,rfl,Z,M⟩:=k;have go:∀{b:Addr}{o:HO},H b=some o->o≠.ins C O []->Xo H x b=some o:=λ{b o} h n=>B4 (JW h N n) h;have G:TL H (Xo H x):=⟨λb J h=>go h (by intro z;cases z),λb J h=>go h (by intro z;cases z)⟩;refine⟨A,S,Y,⟨go Z.ins λz=>?_,go Z.sh (λz=>by cases z),go Z.wo (λz=>by cases z),go Z.he (λz=>by cases z),go Z.pd (λz=>by cases z),go Z.tk (λz=>by cases z),go Z.pk (λz=>by cases z),Z.nd⟩,M.tl G⟩;injection z with _ _ z;unfold Wc at z;cases z
end L2
namespace K4
open PySem L2
section
variable{f g C CK N fI:Addr}
structure ye(x:Dd):Prop where
 ok:x.2.ok
 dep:x.2.dep<=12
 size:x.2.size<=100
def Jm:Yh ["self","number","name","parameters","kind","body","found","place"] ["self"] (Yc MQ):=Y5
def C3(A:BA):(UG A).lookup ("names":Str)=none:=rfl
def Ot:Yh ["self","kinds","definitions"] ["self","kinds","definitions"] (Yc Bn):=Y5
def yO(A:BA):(UG A).lookup ("take_heads":Str)=none:=rfl
def yS(A:BA):(UG A).lookup ("check_bodies":Str)=none:=rfl
end
end K4
namespace L2
open PySem
def Pj{K:W.Frag}(X:K.In h)(L:K.lookup a=some ⟨.type "dict",none,.dict Z n,#[]⟩)(M:W.KeysLit w.params Z.toList):h.MapOf (Y8 P w) a λk=>findBy V1 Z k:=by
 have keys:KeysOf (Y8 P w) Z:=λd N=>by
  have⟨x,t,J,G⟩:=W.KeysLit.all M d (by simpa using N);refine⟨Sum.inr x,?_,G⟩;show V1 (Sum.inr x) d.key=true;rw[J,Wb]
 exact⟨_,Z,n,X a _ L,⟨Y,Y,Y⟩,Y,keys,λk=>Y⟩
def Ux(Z:K.lookup a=some ⟨.type "dict",none,.dict J n,#[]⟩)(e:W.nsIn K a x=some (some v)):findBy V1 J (Sum.inr x)=some v:=by
 have q:=W.find_K Z e;exact q
end L2
namespace K4
open PySem L2
section
variable{f g C CK:Addr}
abbrev wps:ky:=["book","around","body"]
def RA(P:Program)(w:World)(K:W.Frag)(mg:Str->Option Value)(base:Heap)(C CK:Addr)(mR:Key->Option Value)(x:Str)(p:Bd->Prop):Prop:=∃g Z,mR (Sum.inr x)=some (.ref g)/\Yf P w K mg base CX0 3 g Z rps (Xe C CK p)/\W.keepIn K (.ref g)=true/\Binds K Z rps []
def RA.at(r:RA P w K J base C CK G x p)(L:Nat)(e:b.word=x)(h:p b):∃(g:Addr)(Z:FuncData)(p:Bd->Prop),G (Sum.inr b.word)=some (.ref g)/\Yf P w K J base CX0 (L+3) g Z rps (Xe C CK p)/\p b/\W.keepIn K (.ref g)=true/\Binds K Z rps []:=by
 obtain⟨g,Z,R,O,N,M⟩:=r;exact⟨g,Z,p,by rw[e];exact R,O.mono<|by omega,h,N,M⟩
theorem I0(L:Nat)(S:RA P w K Z base C CK J "tag" λb=>∃t,b=.tag t)(I:RA P w K Z base C CK J "name" λb=>∃x,b=.name x)(A:RA P w K Z base C CK J "pair" λb=>∃e g,b=.pair e g)(F:RA P w K Z base C CK J "one" λb=>∃e,b=.one e)(E:RA P w K Z base C CK J "other" λb=>∃e,b=.other e)(D:RA P w K Z base C CK J "choose" λb=>∃e M G,b=.choose e M G/\1<=G.length)(B:RA P w K Z base C CK J "ask" λb=>∃N O,b=.ask N O)(T:RA P w K Z base C CK J "let" λb=>∃x k e g,b=.letb x k e g):
  ∀b:Bd,(∀e M G,b=.choose e M G->1<=G.length)->∃(g:Addr)(R:FuncData)(p:Bd->Prop),J (Sum.inr b.word)=some (.ref g)/\Yf P w K Z base CX0 (L+3) g R rps (Xe C CK p)/\p b/\W.keepIn K (.ref g)=true/\Binds K R rps []
 |.tag t,_=>S.at L rfl ⟨t,rfl⟩
 |.name x,_=>I.at L rfl ⟨x,rfl⟩
 |.pair e g,_=>A.at L rfl ⟨e,g,rfl⟩
 |.one e,_=>F.at L rfl ⟨e,rfl⟩
 |.other e,_=>E.at L rfl ⟨e,rfl⟩
 |.choose e M G,h=>D.at L rfl ⟨e,M,G,rfl,h e M G rfl⟩
 |.ask N O,_=>B.at L rfl ⟨N,O,rfl⟩
 |.letb x k e g,_=>T.at L rfl ⟨x,k,e,g,rfl⟩
theorem Qi(B:Blt Z)(J:Z "enumerate"=none)(y:BCl K C)(j:KCl K CK)(F:Fun K "kind_or_place" "kind_or_place" sKP f A)(S:Binds K A wps [])(M:Z "kind_or_place"=some (.ref f))(O:VI K C "kinds" u)(q:Yf P w K Z base CX0 3 u r ["self"] (Ja C CK))(X:Binds K r ["self"] [])(N:VI K CK "names" d)(z:Yf P w K Z base CX0 3 d v ["self"] (U6 CK))(U:Binds K v ["self"] [])(t:Df P w K Z base 3 "parts" ["body"] Xf)(G:Z "RULES"=some (.ref l))(T:base.MapOf (Y8 P w) l k)(R:∀(L:Nat)(b:Bd),(∀e m I,b=.choose e m I->1<=I.length)->∃(g:Addr)(D:FuncData)(p:Bd->Prop),k (Sum.inr b.word)=some (.ref g)/\Yf P w K Z base CX0 (L+3) g D rps (Xe C CK p)/\p b/\W.keepIn K (.ref g)=true/\Binds K D rps []):
  ∀n,Yf P w K Z base CX0 (n+3) f A wps<|RB C CK n
 |0=>.none λo H Q E h=>by
  obtain⟨_,_,_,_,_,_,_,_,_,_,_,_,_,_,_,_,_,_,_,c,_⟩:=h;exact Zw _ c
 |n+1=>(CU (L:=n) B J y j F (Qi B J y j F S M O q X N z U t G T R n) S M O (q.mono<|by omega) X N (z.mono<|by omega) U (t.up<|by omega) G T<|R n).mono<|by omega
end
end K4
namespace L2
open PySem PySem.Spec PyProof.Rows
theorem Mx:∀{J:List String}{Z:kq},Vals (J.map V.ty) Z->Z=J.map Value.type
 |[],_,r=>by cases r;rfl
 |_::_,_,r=>by
  cases r with
  |cons h t=>
   have e:_=Value.type _:=h;rw[e,Mx t];rfl
def QV(K:W.Frag):List V->Hp->VK->Prop:=λG H Q=>∃(x:V)(d:Dat)(Z:Addr)(J:List String)(b:Bool),G=[x,.ref Z]/\Has H x d/\H Z=some (.tup<|J.map V.ty)/\
 W.kitAny K (.type<|tyD d) (J.map Value.type)=some b/\Q (.bl b) H
def Fi:Jt X (.builtin "isinstance") (QV X.K):=by
 intro M s U H c v Q I r h;obtain⟨x,d,D,p,b,rfl,Z,j,e,q⟩:=h;obtain⟨u,f,rfl,G,O⟩:=vals2 r;cases O;have J:∀E,EP X M U Q (.bool b) {s with toks:=E}:=λE=>⟨.bl b,H,I.tok _,rfl,q⟩;obtain⟨_,P,A,o,L,h2,m,n,F⟩:=(show VL X.prog X.w H s.heap D (.tup<|p.map V.ty)from I.hok D _ j);rw[Mx A]at F;obtain⟨l,w,C,S⟩:=o;cases m;cases F;have ty:=Nf (K:=X.K) Z
 cases d with
 |non=>unfold Has at Z;subst Z;cases(show u=Value.none from G);exact qi W.kitx_none I.kIn True.intro L e (λz=>nomatch z) J
 |bl y=>unfold Has at Z;subst Z;cases(show u=Value.bool y from G);exact qi W.kitx_bool I.kIn True.intro L e (λz=>nomatch z) J
 |int i=>unfold Has at Z;subst Z;obtain⟨t,R⟩:=(show ∃t,u=Value.int i t from G);cases R;exact qi W.kitx_int I.kIn True.intro L e (λz=>nomatch z) J
 |str y=>unfold Has at Z;subst Z;obtain⟨t,R⟩:=(show ∃t,u=Value.str y t from G);cases R;exact qi W.kitx_str I.kIn True.intro L e (λz=>nomatch z) J
 |tup k=>
  unfold Has at Z;obtain⟨a,N,rfl,T,_⟩:=Z;cases(show u=Value.ref a from G);obtain⟨_,_,_,o,B,_,g,_⟩:=(show VL X.prog X.w H s.heap a (.tup N)from I.hok a _ T);exact qi W.kitx_tuple I.kIn ⟨o,B,g⟩ L e (λz=>nomatch z) J
 |lst k=>
  unfold Has at Z;obtain⟨a,N,rfl,T,_⟩:=Z;cases(show u=Value.ref a from G);obtain⟨_,_,n,_,B⟩:=(show VL X.prog X.w H s.heap a (.lst N)from I.hok a _ T);exact qi W.kitx_list I.kIn ⟨_,B,Y⟩ L e (λz=>nomatch z) J
def AF(K:W.Frag)(d:Dat):W.kitAny K (.type<|tyD d) (["tuple","list"].map Value.type)=some (isD "tuple" d || isD "list" d):=by
 cases d <;> kernel_rfl
end L2
namespace L2
open PySem
structure Pen(K:W.Frag)(sa:Addr)(H:Hp)(p:Addr):Prop where
 ex:JJ H p
def Fun.oi{K:W.Frag}{st:Stmt}(F:Fun K x qual st f T)(S:Yh N O (Yc st))(J:∀(L:Value)(A:Around)(Z:List Env)(s:Shared)(H:Hp)(G:kH)(Q:VK)(E:XK),Vo k (A.deeper<|PyProof.Rows.envOfC qual (Yc st) s.heap.objs.size f L)->M G H Q E->
   ∃t,PSs (Vf CX0 P w K R base N qual (Yc st) f L A Z s H E).nox (Vm st) t/\t {nx:=λ_ B=>Q .non B,rt:=Q} (start N G) H)(len:∀G H Q E,M G H Q E->G.length=O.length:=by intro G H Q E h;cases h;rfl):Yf P w K R base CX0 (k+1) f T O M:=F.ok S len J
def Pen.tup(h:Pen K sa H p)(e:H r=some (.tup J)):r≠p:=λz=>by
 obtain⟨x,b,c,d,Z⟩:=h.ex;rw[<-z,e]at Z;cases Z
mutual
def Dat.ni:Dat->Bool
 |.int _=>false
 |.tup ds=>Dat.nis ds
 |.lst ds=>Dat.nis ds
 |_=>true
def Dat.nis:List Dat->Bool
 |[]=>true
 |d::ds=>d.ni && Dat.nis ds
end
theorem EM:∀{Z:kM},(∀d∈Z,d.ni=true)->Dat.nis Z=true
 |[],_=>by unfold Dat.nis;rfl
 |d::Z,h=>by unfold Dat.nis;rw[h d Za,EM λe J=>h e (ZM _ J)];rfl
def Pf{α:Type}{f:α->Dat}(h:∀a,(f a).ni=true)(l:List α):Dat.nis (l.map f)=true:=EM λd Z=>by
 obtain⟨a,_,rfl⟩:=ZW.mp Z;exact h a
mutual
theorem Dat.ni_of:∀{d:Dat},d.st=true->d.ni=true
 |.str _,_=>by unfold Dat.ni;rfl
 |.tup ds,t=>by
  unfold Dat.st at t;unfold Dat.ni;exact Dat.nis_of t
 |.non,_=>by unfold Dat.ni;rfl
 |.bl _,_=>by unfold Dat.ni;rfl
 |.int _,t=>by unfold Dat.st at t;cases t
 |.lst _,t=>by unfold Dat.st at t;cases t
theorem Dat.nis_of:∀{Z:kM},Dat.sts Z=true->Dat.nis Z=true
 |[],_=>by unfold Dat.nis;rfl
 |d::Z,t=>by
  unfold Dat.sts at t;have J:=vw.mp t;unfold Dat.nis;rw[Dat.ni_of J.1,Dat.nis_of J.2];rfl
end
mutual
theorem La{K:W.Frag}{H O:Hp}(s:SameB p H O)(J:Pen K sa H p):∀(d:Dat){v:V},d.ni=true->Has H v d->Has O v d
 |.non,_,_,h=>by unfold Has at h |-;exact h
 |.bl _,_,_,h=>by unfold Has at h |-;exact h
 |.int _,_,t,_=>by unfold Dat.ni at t;cases t
 |.str _,_,_,h=>by unfold Has at h |-;exact h
 |.tup ds,_,t,h=>by
  unfold Has at h |-;obtain⟨a,L,M,Z,G⟩:=h;unfold Dat.ni at t;exact⟨a,L,M,s _ _ (J.tup Z) Z,Xx s J ds t G⟩
 |.lst ds,_,t,h=>by
  unfold Has at h |-;obtain⟨a,L,M,Z,G⟩:=h;unfold Dat.ni at t;refine⟨a,L,M,s _ _ (λz=>?_) Z,Xx s J ds t G⟩;obtain⟨x,b,c,d,e⟩:=J.ex;rw[z,e]at Z;cases Z;obtain⟨T,N,R⟩:=G.get (i:=0) rfl;have:T=.int x:=Has.inj _ _ R (by unfold Has;rfl);subst this
  match ds,N,t with
  |_::_,N,t=>
   cases N;unfold Dat.nis Dat.ni at t;cases t
theorem Xx{K:W.Frag}{H M:Hp}(s:SameB p H M)(L:Pen K sa H p):∀(Z:kM){J:kH},Dat.nis Z=true->HasL H J Z->HasL M J Z
 |[],[],_,h=>Z6
 |[],_::_,_,h=>by unfold HasL at h;exact h.elim
 |_::_,[],_,h=>by unfold HasL at h;exact h.elim
 |d::Z,x::J,t,h=>by
  unfold HasL at h;unfold Dat.nis at t;have G:=vw.mp t;exact Z4 (La s L d G.1 h.1)<|Xx s L Z G.2 h.2
end
def Pen.lst(L:Pen K sa H p)(h:H a=some (.lst G))(g:HasL H G J)(t:Dat.nis J=true):a≠p:=λz=>by
 obtain⟨x,b,c,d,e⟩:=L.ex;rw[z,e]at h;cases h;obtain⟨N,Z,M⟩:=g.get (i:=0) rfl;have:N=.int x:=Has.inj _ _ M (by unfold Has;rfl);subst this
 match J,Z,t with
 |_::_,Z,t=>
  cases Z;unfold Dat.nis Dat.ni at t;cases t
def MC(h:n<=10000):n<sizeLine:=jq h<|by decide
structure Itx(J:It)(H:Hp)(xs:List V):Prop where
 go:∀i,i<xs.length->J.go i H
 stop:J.stop xs.length H
 yld:∀i x H',J.yld i H x H'->H'=H/\xs[i]?=some x
def itl(h:SqL K H a Z):Itx (Itl K a) H Z:=⟨λi J=>⟨Z,Z[i],h,ZD J⟩,⟨Z,h,ZG _⟩,λi x G y=>⟨y.1,y.2 Z h⟩⟩
def itt(h:SqT K H a Z):Itx (Itt K a) H Z:=⟨λi J=>⟨Z,Z[i],h,ZD J⟩,⟨Z,h,ZG _⟩,λi x G y=>⟨y.1,y.2 Z h⟩⟩
def getD{α:Type}{J:List α}{D:α->Dat}{H:Hp}{Z:kH}{i:Nat}{x:V}(h:HasL H Z (J.map D))(e:Z[i]?=some x):∃u,J[i]?=some u/\Has H x (D u):=by
 obtain⟨d,G,M⟩:=h.get e;rw[ZH]at G;obtain⟨u,L,rfl⟩:=Zj.mp G;exact⟨u,L,M⟩
def Nq{α:Type}{us:List α}{D E:α->Dat}(L:Itx J H M)(O:HasL H M (us.map D))(C:us.length<=10000)(I:∀u x (R:V->Hp->Prop),u∈us->Has H x (D u)->(∀v,Has H v (E u)->R v H)->g x s0 H λB U=>te B U R)(S:∀Z p G,H p=none->Same H G->G p=some (.lst Z)->HasL G Z (us.map E)->Q (.ref p) G):Tq J g te s0 Q H:=by
 have N:=O.length;rw[ZA]at N;refine Vh M.length (MC<|by omega) (λi Z G=>G=H/\Z.length=i/\HasL H Z ((us.take i).map E)) ⟨rfl,rfl,Z6⟩ (λi Z G z=>z.2.1) ?_ ?_ ?_ ?_
 .rintro i Z G hi ⟨rfl,_⟩
  exact L.go i hi
 .rintro Z G ⟨rfl,_⟩
  exact L.stop
 .rintro i Z G x H'' R hi ⟨rfl,z2,z3⟩ yl rT
  obtain⟨rfl,y⟩:=L.yld i x H'' yl;obtain⟨u,T,A⟩:=getD O y;refine I u x R (ZJ T) A λv F=>rT _ _ ⟨Y,by rw[ZL,z2];rfl,?_⟩;rw[take_snoc T,ZK];exact Z7 z3<|Z5 F
 .rintro Z G p ⟨rfl,z2,z3⟩ hp
  rw[Zg (jF N.symm)]at z3;exact S Z p _ hp (Yq hp _) Ye<|z3.mono<|Yq hp _
def U0{α:Type}{us:List α}{D F:α->Dat}(O:∀Z,Same H Z->Itx J Z T)(A:HasL H T (us.map D))(j:us.length<=10000)(U:∀u x N (R:V->Hp->Prop),u∈us->Same H N->Has N x (D u)->(∀v M,Same N M->Has M v (F u)->R v M)->g x s0 N λL P=>te L P R)(C:∀G q Z,H q=none->Same H Z->Z q=some (.lst G)->HasL Z G (us.map F)->Q (.ref q) Z):Tq J g te s0 Q H:=by
 have E:=A.length;rw[ZA]at E;refine Vh T.length (MC<|by omega) (λi G Z=>Same H Z/\G.length=i/\HasL Z G ((us.take i).map F)) ⟨Z8 _,rfl,Z6⟩ (λi G Z z=>z.2.1) ?_ ?_ ?_ ?_
 .rintro i G Z hi ⟨s,_⟩
  exact(O Z s).go i hi
 .rintro G Z ⟨s,_⟩
  exact(O Z s).stop
 .rintro i G Z x H'' R hi ⟨s,z2,z3⟩ yl rT
  obtain⟨rfl,y⟩:=(O Z s).yld i x H'' yl;obtain⟨u,I,S⟩:=getD A y;refine U u x _ R (ZJ I) s (S.mono s) λv M B X=>rT _ _ ⟨s.trans B,by rw[ZL,z2];rfl,?_⟩;rw[take_snoc I,ZK];exact Z7 (z3.mono B)<|Z5 X
 .rintro G Z q ⟨s,z2,z3⟩ hq
  rw[Zg (jF E.symm)]at z3;have L:=Yq hq<|.lst G;exact C G q _ (s.free hq) (s.trans L) Ye<|z3.mono L
def XG{K:W.Frag}{Q:VK}(O:Has H x (JD Z))(L:Has H y (JD J))(n:J≠[])(l:Z.length+J.length<=1000)(q:∀u G,Same H G->Has G u (JD<|Z++ J)->Q u G):UO K x y H Q\/UN K x y H Q:=by
 obtain⟨a,rfl,N⟩:=UC O;obtain⟨b,rfl,M⟩:=UC L
 cases Z with
 |nil=>exact .inl ⟨a,b,_,Y,Y,Z2 N,Z2 M,q _ H (Z8 _) L⟩
 |cons w Z=>
  refine .inr ⟨a,b,_,_,Y,Y,Z2 N,Z2 M,(by simp),?_,(λz=>Zr (List.map_eq_nil_iff.mp z) n),λ_ p R=>?_⟩
  .rw [ZA,ZA];exact Zh<|Yj l
  .exact q _ _ (Yq R _) (JC<|by rw[Ye,ZK])
def XA(h:H a=some (.tup [.int k])):Has H (.ref a) (JD [k]):=JC h
end L2
namespace K4
open PySem L2
end K4
namespace L2
open PySem
end L2
namespace K4
open PySem L2
end K4
namespace L2
open PySem
def CC(G:PI X tg l t1)(J:PI X tg l t2):PI X tg l (λU H R=>t1 U H R\/t2 U H R):=by
 intro Z s U H R I h;rcases h with h|h
 .exact G Z s U H R I h
 .exact J Z s U H R I h
mutual
def Dat.nt:Dat->Bool
 |.bl _=>false
 |.tup ds=>Dat.nts ds
 |.lst ds=>Dat.nts ds
 |_=>true
def Dat.nts:List Dat->Bool
 |[]=>true
 |d::ds=>d.nt && Dat.nts ds
end
theorem Mb:∀Z:kM,Dat.nts Z=(Z.map Dat.nt).all id
 |[]=>by unfold Dat.nts;rfl
 |d::Z=>by unfold Dat.nts;rw[Mb Z];rfl
def Dat.sm:Nat->Dat->Prop
 |0,_=>False
 |n+1,.tup ds=>ds.length<=1000/\∀d∈ds,Dat.sm n d
 |n+1,.lst ds=>ds.length<=1000/\∀d∈ds,Dat.sm n d
 |_+1,_=>True
theorem Du:∀{bs:List Bool}{Z:kH},HasL H Z (bs.map Dat.bl)->Z=bs.map V.bl
 |[],[],_=>rfl
 |[],_::_,h=>by unfold HasL at h;exact h.elim
 |_::_,[],h=>by rw[ZV]at h;unfold HasL at h;exact h.elim
 |b::bs,x::xs,h=>by
  rw[ZV]at h;unfold HasL at h;obtain⟨J,G⟩:=h;unfold Has at J;rw[J,Du G];rfl
end L2
namespace K4
open PySem L2
section
def JU:bootBuiltins "list"=some (.type "list"):=by decide +kernel
def zf:Yh ["thing"] ["thing"] (Yc XC):=Y5
def AA:List.Nodup [("one":Str)]:=by decide +kernel
inductive SNT(n:Nat)(H:Hp)(Q:VK):List V->Prop
 |mk (x:V) (d:Dat) (hx:Has H x d) (sm:d.sm n) (q:∀H',Same H H'->Q (.bl d.nt) H'):SNT n H Q [x]
def E7(n:Nat):Sp:=λZ H Q _=>SNT n H Q Z
def CP(B:Blt U)(F:Fun K "_law_no_truths" "_law_no_truths" XC f X)(G:Yf P w K U base CX0 L f X ["thing"] (E7 n))(bG:Binds K X ["thing"] [])(mG:U "_law_no_truths"=some (.ref f)):Yf P w K U base CX0 (L+1) f X ["thing"] (E7<|n+1):=by
 have DG:Df P w K U base L "_law_no_truths" ["thing"] (E7 n):=⟨f,X,mG,F.kp,bG,G⟩;refine F.oi zf λJ2 A y s H vs Q E hr h=>?_;obtain⟨x,d,hx,I,q⟩:=h;refine⟨_,YY (Y1 (JR<|VA (r:=QV K) Fi rfl B.isi RY (pa2 (pv 0)<|Yi<|pa2 (MU (v:=.ty "tuple") rfl B.tuple JB rfl)<|MU (v:=.ty "list") rfl B.list JU rfl)) (YZ<|Ym<|VA (To rfl) rfl B.all Wl (pa1<|JG ["one"] [] (CC (UH<|pv 0)<|JP<|pv 0) (Vk (i:=0)<|by decide) (λcl C l s H=>Yl 0 AA rfl (Or.inl rfl) (Or.inr rfl)) λcl C l s H=>VS DG hr<|pa1<|pv 0)) Yp)
  (YZ<|Ym<|Si<|G0 rfl B.isi rfl B.bool Dt (pv 0)),?_⟩
 dsimp only[Vf,Cx.nox,Cx.wish];show let T0:=_;let T1:=_;Yk (VE _ T1 _) T0 _ _ _
 intros
 refine⟨sl 2,λt0 t=>?_⟩;refine up_in t _ λH0 S g0=>?_;have Z:=hx.mono S;exists x,d,t0,["tuple","list"],_,Y,Z,g0,AF K d,_,Y;have flat:∀b:Bool,d.nt=!b->isD "bool" d=b->Q (.bl !(isD "bool" d)) H0:=λb e1 e2=>by rw[e2,<-e1];exact q _ S
 cases d with
 |non=>exact Y0 (by simp[isD,tyD]) ⟨_,_,_,_,Y,TR (K:=K) Z,TJ K _ (by simp),_,Y,flat false (by unfold Dat.nt;rfl) Y⟩
 |bl b=>exact Y0 (by simp[isD,tyD]) ⟨_,_,_,_,Y,TR (K:=K) Z,TJ K _ (by simp),_,Y,flat true (by unfold Dat.nt;rfl) Y⟩
 |int i=>exact Y0 (by simp[isD,tyD]) ⟨_,_,_,_,Y,TR (K:=K) Z,TJ K _ (by simp),_,Y,flat false (by unfold Dat.nt;rfl) Y⟩
 |str z=>exact Y0 (by simp[isD,tyD]) ⟨_,_,_,_,Y,TR (K:=K) Z,TJ K _ (by simp),_,Y,flat false (by unfold Dat.nt;rfl) Y⟩
 |tup N=>
  obtain⟨a,xs,rfl,T,k⟩:=Yw Z;unfold Dat.sm at I;refine VH (by simp[isD,tyD])<|.inl ⟨⟨_,Z2 T⟩,?_⟩;refine U0 (us:=N) (D:=id) (F:=λd=>.bl d.nt) (λH' s=>itt<|Z2<|s _ _ T) (by rw[List.map_id];exact k) (by omega) (λu x o R g O J c=>?_) λvs p o l O m M=>?_
  .exact ⟨x,u,J,I.2 u g,λH2 j=>c _ _ j (by unfold Has;rfl)⟩
  .have e:=Du (bs:=N.map Dat.nt) (by rw[yj];exact M)
   refine⟨p,N.map Dat.nt,Y,Z3 (by rw[m,e]),?_⟩;rw[<-Mb];exact q _<|S.trans O
 |lst N=>
  obtain⟨a,xs,rfl,T,k⟩:=Po Z;unfold Dat.sm at I;refine VH (by simp[isD,tyD])<|.inr ⟨⟨_,Z3 T⟩,?_⟩;refine U0 (us:=N) (D:=id) (F:=λd=>.bl d.nt) (λH' s=>itl<|Z3<|s _ _ T) (by rw[List.map_id];exact k) (by omega) (λu x o R g O J c=>?_) λvs p o l O m M=>?_
  .exact ⟨x,u,J,I.2 u g,λH2 j=>c _ _ j (by unfold Has;rfl)⟩
  .have e:=Du (bs:=N.map Dat.nt) (by rw[yj];exact M)
   refine⟨p,N.map Dat.nt,Y,Z3 (by rw[m,e]),?_⟩;rw[<-Mb];exact q _<|S.trans O
theorem QZ(B:Blt Z)(F:Fun K "_law_no_truths" "_law_no_truths" XC f G)(L:Binds K G ["thing"] [])(J:Z "_law_no_truths"=some (.ref f)):∀n:Nat,Yf P w K Z base CX0 (n+1) f G ["thing"]<|E7 n
 |0=>.none λN H Q E h=>by
  obtain⟨x,d,O,M,q⟩:=h;exact M
 |n+1=>CP B F (QZ B F L J n) L J
end
end K4
namespace L2
open PySem
mutual
def Dat.tn:Dat->Bool
 |.str _=>true
 |.non=>true
 |.tup ds=>Dat.tns ds
 |_=>false
def Dat.tns:List Dat->Bool
 |[]=>true
 |d::ds=>d.tn && Dat.tns ds
end
mutual
theorem Dat.ni_tn:∀{d:Dat},d.tn=true->d.ni=true
 |.str _,_=>by unfold Dat.ni;rfl
 |.non,_=>by unfold Dat.ni;rfl
 |.tup ds,t=>by
  unfold Dat.tn at t;unfold Dat.ni;exact Dat.nis_tn t
 |.bl _,t=>by unfold Dat.tn at t;cases t
 |.int _,t=>by unfold Dat.tn at t;cases t
 |.lst _,t=>by unfold Dat.tn at t;cases t
theorem Dat.nis_tn:∀{Z:kM},Dat.tns Z=true->Dat.nis Z=true
 |[],_=>by unfold Dat.nis;rfl
 |d::Z,t=>by
  unfold Dat.tns at t;have J:=vw.mp t;unfold Dat.nis;rw[Dat.ni_tn J.1,Dat.nis_tn J.2];rfl
end
theorem W.tn:∀w:W,w.dat.tn=true
 |.non=>by unfold W.dat Dat.tn;rfl
 |.tag t=>by unfold W.dat Dat.tn;rfl
 |.pair a b=>by unfold W.dat;simp[Dat.tn,Dat.tns,W.tn a,W.tn b]
end L2
namespace K4
open PySem L2
end K4
namespace L2
open PySem
end L2
namespace K4
open PySem L2
end K4
namespace L2
open PySem
end L2
namespace K4
open PySem L2
end K4
namespace L2
open PySem
def okW(ks:kO):W->Str->Prop
 |.non,_=>True
 |.tag x,y=>∃ts,Va ks y=some (.tags ts)/\x∈ts
 |.pair u v,y=>∃a b,Va ks y=some (.pair a b)/\okW ks u a/\okW ks v b
end L2
namespace K4
open PySem L2
section
variable{CK:Addr}
def AX(A:KA6):(Wc A).lookup ("is_worth":Str)=none:=rfl
abbrev iwp:ky:=["self","kind","thing"]
def QT:Yh ["self","kind","thing","shape"] iwp (Yc Xj):=Y5
inductive zF(CK:Addr)(n:Nat)(H:Hp)(Q:VK):List V->Prop
 |mk (t:Addr) (y:Str) (v:V) (ks:List (Str×Shp)) (d:Str->Nat) (wo:W) (ki:KI H CK t ks d) (hv:Has H v wo.dat) (ok:okW ks wo y) (dn:wo.dep<n) (q:Q (.bl true) H):zF CK n H Q [.ref t,.str y,v]
def NC(CK:Addr)(n:Nat):Sp:=λZ H Q _=>zF CK n H Q Z
def Sw(B:Blt r)(T:KCl K CK)(F:Fun K "is_worth" "Kinds.is_worth" Xj f g)(G:Yf P w K r base CX0 L f g iwp (NC CK n))(bG:Binds K g iwp [])(l:VI K CK "is_worth" f):Yf P w K r base CX0 (L+1) f g iwp (NC CK<|n+1):=by
 refine F.oi QT λJ2 A R s H vs Q E C h=>?_;obtain⟨t,y,v,o,d,wo,ki,N,O,dn,q⟩:=h;have hu:=V9 C;refine⟨_,YY (Y1 (Yr G7 (pv 2) Vs<|Yz _) (YZ<|Ym<|Xn) Yp)
  (YY (Yx 3 QT.nd<|Vj hu (Yn (pv 0) rfl) (pv 1) λ_ _=>rfl)
  (YY (Y1 (Yr VZ (Yo Yt (pv 3)<|Ya) Yy<|Yz _) (YZ<|Ym<|WO (G0 rfl B.isi rfl B.str Wj (pv 2))<|XW<|Jc U9 (pv 2) (Yo Yt (pv 3)<|Ya) rfl) Yp)
  (YY (Y1 (PW.pt<|UP (Jk<|JR<|G0 rfl B.isi rfl B.tuple JB (pv 2))<|Jo<|Yr UR (VA Y7 rfl B.len Zu (pa1<|pv 2)) Ya<|Yz _) (YZ<|Ym<|Xn) Yp)
  (YZ<|Ym<|WO (Y6 (pv 0) T.cl l G C bG .nil Y2<|pa2 (Yo Yt (pv 3)<|Ya)<|Yo Yt (pv 2)<|Ya)<|XW<|Y6 (pv 0) T.cl l G C bG .nil Y2<|pa2 (Yo Yt (pv 3)<|Ya)<|Yo Yt (pv 2)<|Ya)))),?_⟩
 dsimp only[Vf,Cx.nox,Cx.wish];show let T0:=_;let T1:=_;let T2:=Yk (VE _ T1 _) T0;let T3:=_;let T4:=Yk (VE _ T3 _) T2;let T5:=Yk _ T4;let T6:=_;Yk (VE _ T6 _) T5 _ _ _
 intros
 have M:=ki;obtain⟨A',S,rfl,Z,i⟩:=ki
 cases wo with
 |non=>
  have e:v=.non:=by unfold W.dat Has at N;exact N
  subst e;exact⟨Y,_,Y,VH Y q⟩
 |tag x=>
  have e:v=.str x:=has_str N;subst e;unfold okW at O;obtain⟨ts,U,hm⟩:=O;refine⟨Y,_,Y,Y0 (by simp) ?_⟩;obtain⟨v0,m,z⟩:=WE Z i U;obtain⟨b,c,rfl,J,I⟩:=Xw z;exists CK,_,_,_,Z.ins,T.cl,T.sh,Mn _,_,m;refine⟨_,.str "tags",Z2 J,VG (j:=0) Y,Y,_,Y,VH (by decide +kernel) ?_⟩;refine⟨_,_,_,_,Y,.str x,TH K "str",_,Y,VH Y ?_⟩;exists _,.ref c,Z2 J,VG (j:=1) Y,c,_,Y,.inr<|Z2 I,rfl,Jx _;rw[UV x ts,decide_eq_true hm];exact q
 |pair u k=>
  have D:=N;obtain⟨p,x1,x2,rfl,X,h1,h2⟩:=Ng N;unfold okW at O;obtain⟨a,b,U,o1,o2⟩:=O;have da:u.dep<n:=by unfold W.dep at dn;omega
  have db:k.dep<n:=by unfold W.dep at dn;omega
  refine⟨Y,_,Y,Y0 (by simp) ?_⟩;obtain⟨v0,m,z⟩:=WE Z i U;obtain⟨b',rfl,J⟩:=Ug z;exists CK,_,_,_,Z.ins,T.cl,T.sh,Mn _,_,m;refine⟨_,.str "pair",Z2 J,VG (j:=0) Y,Y,_,Y,Y0 (by decide +kernel) ?_⟩;refine⟨_,_,_,_,Y,TR (K:=K) D,TJ K _ (by simp),_,Y,Y0 (by simp[isD,tyD,W.dat]) ?_⟩;refine⟨p,_,Y,.inr<|Z2 X,rfl,_,rfl,Y0 (by simp) ?_⟩;exists _,_,Z.ins,AX _,_,_,Z2 J,VG (j:=1) Y,_,_,Z2 X,VG (j:=0) Y;refine⟨_,a,x1,o,d,u,M,h1,o1,da,_,Y,VH Y ?_⟩;exists _,_,Z.ins,AX _,_,_,Z2 J,VG (j:=2) Y,_,_,Z2 X,VG (j:=1) Y;exact⟨_,b,x2,o,d,k,M,h2,o2,db,q⟩
theorem LN(B:Blt L)(T:KCl K CK)(F:Fun K "is_worth" "Kinds.is_worth" Xj f J)(G:Binds K J iwp [])(Z:VI K CK "is_worth" f):∀n:Nat,Yf P w K L base CX0 (n+1) f J iwp<|NC CK n
 |0=>.none λO H Q E h=>by
  obtain⟨t,y,v,D,d,N,A,I,R,M,q⟩:=h;exact Zr M<|by omega
 |n+1=>Sw B T F (LN B T F G Z n) G Z
end
end K4
namespace L2
open PySem
def Fe{K:W.Frag}(T:∀Z,Same H Z->Sq K t1 Z a L)(O:∀Z,Same H Z->Sq K t2 Z b G)(X:L.length=n)(C:G.length=n)(P:n<=100)(A:∀(i:Nat) x y r N (R:V->Hp->Prop),L[i]?=some x->G[i]?=some y->Same H N->N r=some (.tup [x,y])->R (.bl true) N->g (.ref r) s0 N λM U=>te M U R)(S:∀p Z,H p=none->Same H Z->Z p=some (.lst<|(List.replicate n true).map V.bl)->Q (.ref p) Z):Tq (Itz K t1 a t2 b) g te s0 Q H:=by
 refine Vh n (MC<|by omega) (λi J Z=>Same H Z/\J.length=i/\J=(List.replicate i true).map V.bl) ⟨Z8 _,rfl,rfl⟩ (λi J Z z=>z.2.1) ?_ ?_ ?_ ?_
 .rintro i J Z hi ⟨s,_⟩
  exact⟨L,G,L[i]'(by omega),G[i]'(by omega),T Z s,O Z s,ZD _,ZD _⟩
 .rintro J Z ⟨s,_⟩
  exact⟨L,G,T Z s,O Z s,.inr<|by omega⟩
 .rintro i J Z x H'' R hi ⟨s,z2,z3⟩ yl rT
  obtain⟨r,D,B,rfl,I,rfl,F,E⟩:=yl;have M:=Yq I<|.tup [D,B];refine A i D B r _ R (F L<|T Z s) (E G<|O Z s) (s.trans M) Ye<|rT _ _ ⟨s.trans M,by rw[ZL,z2];rfl,?_⟩;rw[z3,List.replicate_succ',ZK];rfl
 .rintro J Z p ⟨s,z2,z3⟩ hp
  have M:=Yq hp<|.lst J;exact S p _ (s.free hp) (s.trans M)<|by rw[Ye,z3]
def Pr{K:W.Frag}:∀x U H (Q Z:kJ),(∀a b,Q a b->Z a b)->Ni K 2 (Jf (Vl i)<|Jf (Vl j) TY) x U H Q->Ni K 2 (Jf (Vl i)<|Jf (Vl j) TY) x U H Z:=λx U H Q Z h q=>by
 match x,q with
 |.ref a,q=>
  obtain⟨J,L,G,q⟩:=q;exists J,L,G
  match J,G,q with
  |[u,v],_,q=>exact h _ _ q
def C1{K:W.Frag}:GK 3 (Ni K 2<|Jf (Ni K 2<|Jf (Vl 0)<|Jf (Vl 1) TY)<|Jf (Vl 2) TY):=
 Dc (XE (Dc (XE (Vk (i:=0)<|by decide) (XE (Vk (i:=1)<|by decide) De (λ_ _ _ _ _ h z=>h _ _ z) (λx _ _ _ _ h z=>by
  match x,z with
  |[],z=>exact h _ _ z)) (λ_ _ _ _ _ h z=>h _ _ z) (λx _ _ _ _ h z=>by
  match x,z with
  |[v],z=>exact h _ _ z))) (XE (Vk (i:=2)<|by decide) De (λ_ _ _ _ _ h z=>h _ _ z) (λx _ _ _ _ h z=>by
  match x,z with
  |[],z=>exact h _ _ z)) Pr (λx _ _ _ _ h z=>by
  match x,z with
  |[v],z=>exact h _ _ z))
end L2
namespace K4
open PySem L2
section
variable{C CK:Addr}
def Oo:Yh ["self","F"] ["self","F"] (Yc Bp):=Y5
inductive OH(C CK:Addr)(H:Hp)(Q:VK):List V->Prop
 |mk (t:Addr) (ks:List (Str×Shp)) (d:Str->Nat) (ds:List Dd) (x:Dd) (b:BI H C CK t ks d ds) (hx:x∈ds) (q:∀v,Has H v x.2.dat->Q v H):OH C CK H Q [.ref t,.str x.1.1]
def Rz(C CK:Addr):Sp:=λZ H Q _=>OH C CK H Q Z
def Kx(T:BCl K C)(F:Fun K "body_of" "Book.body_of" Bp f S)(m:VI K C "told_of" g)(G:Yf P w K L base CX0 n g I ["self","F"] (Ga C CK))(j:Binds K I ["self","F"] []):Yf P w K L base CX0 (n+1) f S ["self","F"] (Rz C CK):=by
 refine F.oi Oo λX A Z s H k Q E B h=>?_;obtain⟨t,M,d,U,x,b,N,q⟩:=h;obtain⟨z,p,rfl,y⟩:=id b;exists _,YZ<|Ym<|Yo Yt (Y6 (pv 0) T.cl m G B j .nil Y2<|pa1<|pv 1) Ya;refine⟨_,_,y.ins,AU _,z.t,M,d,U,x,Y,b,N,λv R=>?_⟩;obtain⟨a,u,J,rfl,D,_,O⟩:=Xv R;exact⟨_,_,Z2 D,Y,q J O⟩
def zd:Yh ["kinds","parameters","worths"] ["kinds","parameters","worths"] (Yc XT):=Y5
def DF:List.Nodup [("name":Str),"kind","worth","kinds"]:=by decide +kernel
inductive SRO(CK:Addr)(H:Hp)(Q:VK):List V->Prop
 |mk (so a b:Addr) (us xs:List V) (ks:List (Str×Shp)) (d:Str->Nat) (ps:List (Str×Str)) (wos:List W) (ki:KI H CK so ks d) (ha:H a=some (.tup us)) (hu:HasL H us (ps.map λp=>.tup [.str p.1,.str p.2])) (hb:H b=some (.tup xs)) (hx:HasL H xs (wos.map W.dat))
  (ln:wos.length=ps.length) (l3:ps.length<=3) (ok:∀(i:Nat)(p:Str×Str)(u:W),ps[i]?=some p->wos[i]?=some u->okW ks u p.2/\u.dep<3) (q:∀H',Same H H'->Q (.bl true) H'):SRO CK H Q [.ref so,.ref a,.ref b]
def SE(CK:Addr):Sp:=λZ H Q _=>SRO CK H Q Z
def CL(B:Blt k)(T:KCl K CK)(F:Fun K "is_row_over" "is_row_over" XT f fd)(m:VI K CK "is_worth" g)(G:Yf P w K k base CX0 n g gd iwp (NC CK 3))(bG:Binds K gd iwp []):Yf P w K k base CX0 (n+1) f fd ["kinds","parameters","worths"] (SE CK):=by
 refine F.oi zd λG1 A J s H vs Q E hr h=>?_;obtain⟨so,a,b,us,xs,ks,d,z,J2,u,X,l,U,v,ln,l3,ok,q⟩:=h;refine⟨_,YY (Y1 (Yr UR (VA Y7 Y B.len Zu (pa1<|pv 2)) (VA Y7 rfl B.len Zu (pa1<|pv 1))<|Yz _) (YZ<|Ym<|Xn) Yp)
  (YZ<|Ym<|VA (To rfl) rfl B.all Wl (pa1<|JG ["name","kind","worth"] [0] (Se rfl B.zip (pa2 (pv 1)<|pv 2)) C1 (λcl C o s H=>Vd (n:=2) rfl (Ys (Vd (n:=2) rfl (Ys (Yl 0 DF rfl (Or.inl rfl) (Or.inr rfl))<|Ys (Yl 1 DF rfl (Or.inl rfl) (Or.inr rfl)) VN))<|Ys (Yl 2 DF rfl (Or.inl rfl) (Or.inr rfl)) VN)) λcl C o s H=>Y6 (pv 3) T.cl m G hr bG .nil Y2<|pa2 (pv 1)<|pv 2)),?_⟩
 dsimp only[Vf,Cx.nox,Cx.wish];show let T0:=_;let T1:=_;Yk (VE _ T1 _) T0 _ _ _
 intros
 have L:=l.length;have c:=v.length;rw[ZA]at L c;refine⟨b,_,Y,.inr<|Z2 U,a,_,rfl,.inr<|Z2 X,rfl,_,rfl,Y0 (by simp[L,c,ln]) ?_⟩;exists a,b,true,true,us,xs,Y,Z2 X,Z2 U;refine Fe (n:=z.length) (λH' s=>Z2<|s _ _ X) (λH' s=>Z2<|s _ _ U) L (by omega) (by omega) (λi x y r H1 R hi hj Z N hR=>?_) λp H' o Z hp=>?_
 .obtain ⟨pr,hpr,hd1⟩:=getD l hi
  obtain⟨j,M,I⟩:=getD v hj;obtain⟨t,ys,rfl,ht,hl⟩:=Yw hd1;obtain⟨x1,r1,rfl,e1,D⟩:=Yd hl;obtain⟨x2,r2,rfl,e2,O⟩:=Yd D;obtain rfl:=VD O;obtain rfl:=has_str e1;obtain rfl:=has_str e2;obtain⟨o1,o2⟩:=ok i pr j hpr M;obtain⟨A',S,eA,kd,kr⟩:=id<|u.mono Z;subst eA;exists _,Z2 N,Y,_,Z2<|Z _ _ ht,rfl;exact⟨_,_,kd.ins,AX _,_,pr.2,y,ks,d,j,u.mono Z,I.mono Z,o1,o2,hR⟩
 .refine ⟨p,_,rfl,Z3 hp,?_⟩
  have e:(List.replicate z.length true).all id=true:=by simp
  rw[e];exact q _ Z
end
section
variable{C CK:Addr}
abbrev bfw:ky:=["book","F","worths"]
def yQ(A:BA):(UG A).lookup ("kinds":Str)=none:=rfl
def C2(A:BA):(UG A).lookup ("parameters":Str)=none:=rfl
def zh:Yh bfw bfw (Yc WM):=Y5
def zo:Yh bfw bfw (Yc Ua):=Y5
def zn:Yh ["most","highest"] ["most","highest"] (Yc XU):=Y5
inductive SIA(C CK:Addr)(r:V)(H:Hp)(Q:VK):List V->Prop
 |mk (t b:Addr) (xs:List V) (ks:List (Str×Shp)) (d:Str->Nat) (ds:List Dd) (x:Dd) (wos:List W) (bi:BI H C CK t ks d ds) (hx:x∈ds) (hb:H b=some (.tup xs)) (hw:HasL H xs (wos.map W.dat))
  (ln:wos.length=x.1.2.1.length) (l3:x.1.2.1.length<=3) (ok:∀(i:Nat)(p:Str×Str)(u:W),x.1.2.1[i]?=some p->wos[i]?=some u->okW ks u p.2/\u.dep<3) (q:∀H',Same H H'->Q r H'):SIA C CK r H Q [.ref t,.str x.1.1,.ref b]
def E8(C CK:Addr)(r:V):Sp:=λZ H Q _=>SIA C CK r H Q Z
def CV(D:BCl K C)(F:Fun K "is_asking" "is_asking" WM f fd)(c:VI K C "names" g1)(G1:Yf P w K L base CX0 n g1 d1 ["self"] (Uu C CK))(b1:Binds K d1 ["self"] [])(p:VI K C "kinds" g2)(G2:Yf P w K L base CX0 n g2 d2 ["self"] (Ja C CK))(b2:Binds K d2 ["self"] [])(k:VI K C "parameters" g3)(G3:Yf P w K L base CX0 n g3 d3 ["self","F"] (Gc C CK))(b3:Binds K d3 ["self","F"] [])(DR:Df P w K L base n "is_row_over" ["kinds","parameters","worths"] (SE CK)):Yf P w K L base CX0 (n+1) f fd bfw (E8 C CK<|.bl true):=by
 refine F.oi zh λJ2 A R s H vs Q E N h=>?_;obtain⟨t,b,j,M,d,J,x,O,T,S,hb,o,u,r,g,q⟩:=h;exists _,YZ<|Ym<|WO (Jc U9 (pv 1) (Ve (pv 0) D.cl c G1 N b1 .nil Y2) rfl)<|XW<|VS DR N<|pa3 (Ve (pv 0) D.cl p G2 N b2 .nil Y2) (Y6 (pv 0) D.cl k G3 N b3 .nil Y2<|pa1<|pv 1)<|pv 2;dsimp only[Vf,Cx.nox,Cx.wish];obtain⟨I,kv,rfl,B⟩:=id T;refine⟨_,_,B.ins,C3 _,I.t,M,d,J,Y,T,λl H1 Z fl X=>?_⟩;have el:(J.map λx=>V.str x.1.1)=(J.map λx=>x.1.1).map V.str:=by rw[yj];rfl
 rw[el]at X;exists l,_,Y,.inl<|Z3 X,rfl,Jx _;rw[UV,decide_eq_true (ZW.mpr ⟨x,S,rfl⟩)];refine⟨_,Y,VH Y ?_⟩;have G:=T.mono Z;refine⟨_,_,Z _ _ B.ins,yQ _,I.t,M,d,J,Y,G,λz e=>?_⟩;refine⟨_,_,Z _ _ B.ins,C2 _,I.t,M,d,J,x,Y,G,S,λv U=>?_⟩;unfold psD at U;obtain⟨a,y,rfl,ha,i⟩:=Yw U;exact⟨z,a,b,y,j,M,d,x.1.2.1,O,e,ha,i,Z _ _ hb,o.mono Z,u,r,g,λH2 m=>q _<|Z.trans m⟩
def Ca(F:Fun K "check_asking" "check_asking" Ua f U)(m:Df P w K N base n "is_asking" bfw (E8 C CK<|.bl true)):Yf P w K N base CX0 (n+1) f U bfw (E8 C CK .non):=by
 refine F.oi zo λj A J s H g Q E I h=>?_;obtain⟨t,b,G,T,d,X,x,Z,y,B,S,D,O,R,M,q⟩:=h;exists _,YZ<|Y1 (Jk<|JR<|VS m I<|pa3 (pv 0) (pv 1)<|pv 2) (YZ<|V5) Yp;show let z:=_;VE _ z _ _ _ _
 intros
 exact⟨t,b,G,T,d,X,x,Z,y,B,S,D,O,R,M,λk L=>⟨_,Y,Y0 (by simp)<|q _ L⟩⟩
inductive SCM(H:Hp)(Q:VK):List V->Prop
 |mk (a b:Int) (h1:1<=a) (h2:a<=b) (q:Q .non H):SCM H Q [.int a,.int b]
def SL:Sp:=λZ H Q _=>SCM H Q Z
def CZ(F:Fun K "check_most" "check_most" XU f L):Yf P w K R base CX0 (n+1) f L ["most","highest"] SL:=by
 refine F.oi zn λM A Z s H O Q E T h=>?_;obtain⟨a,b,G,J,q⟩:=h;exists _,YZ<|Y1 (Jk<|Gy Xp Xp Ya (pv 0)<|pv 1) (YZ<|V5) Yp;show let N:=_;VE _ N _ _ _ _
 intros
 exact⟨_,Y,VH (decide_eq_true G) ⟨_,Y,Y0 (by simp[J]) q⟩⟩
end
end K4
namespace L2
open PySem
structure GA where
 t:Addr
 dx:Addr
 bk:Addr
 gv:Addr
 bs:Addr
 nu:Addr
 st:Addr
def TU(A:GA):List (Str×V):=[("book",.ref A.bk),("given",.ref A.gv),("births",.ref A.bs),("numbers",.ref A.nu),("starts",.ref A.st)]
structure GCl(K:W.Frag)(C:Addr):Prop where
 cl:Cls K C
 bk:VF K C "book"
 gv:VF K C "given"
 bs:VF K C "births"
 nu:VF K C "numbers"
 st:VF K C "starts"
end L2
namespace K4
open PySem L2
section
def U8:Yh ["body","place","part","number"] ["body","place"] (Yc Gn):=Y5
inductive Ew(H:Hp)(Q:VK):List V->Prop
 |mk (v:V) (a:Addr) (b c:Bd) (ws:List Int) (hv:Has H v b.dat) (ok:b.ok) (ha:H a=some (.tup (ws.map V.int))) (hc:b.at ws=some c) (q:∀u H',Same H H'->Has H' u c.dat->Q u H'):Ew H Q [v,.ref a]
def Jv:Sp:=λZ H Q _=>Ew H Q Z
def B7(F:Fun K "part_at" "part_at" Gn f l)(DP:Df P w K j base n "parts" ["body"] Xf):Yf P w K j base CX0 (n+1) f l ["body","place"] Jv:=by
 refine F.oi U8 λJ2 A L s H vs Q E g h=>?_;obtain⟨v,a,b,c,R,t,X,B,k,q⟩:=h;refine⟨_,YY (Yx 2 U8.nd<|pv 0) (YY (Jb Zv rfl (UH<|pv 1) (Yl 3 U8.nd)
  (YZ<|Yx 2 U8.nd<|Yo Yt (VS DP g<|pa1<|pv 2) (pv 3) λ_ _=>rfl))
  (YZ<|Ym<|pv 2)),?_⟩
 dsimp only[Vf,Cx.nox,Cx.wish];show let T0:=_;let T1:=_;let T2:=Yk (XH _ _ T1) T0;Yk _ T2 _ _ _
 intros
 refine ED Y ?_;exists ⟨_,Z2 B⟩
 let I:kI:=λi U J=>Same H J/\∃u z Z,U=[some v,some<|.ref a,some u,z]/\Has J u (Bd.dat Z)/\Z.ok/\Z.at (R.drop i)=some c
 refine Ta (xs:=R.map V.int) I ⟨Z8 _,v,none,b,Y,t,X,k⟩ (λi U J _ z=>Z2<|z.1 _ _ B) ?_ ?_
 .rintro BB RR i x U J hx ⟨sj,u,z,Z,rfl,hu,okb,e⟩
  obtain⟨m,r,rfl,e1,o,hm⟩:=Fb hx;rw[e1]at e;unfold Bd.at at e
  by_cases hm0:0<=m
  case neg=>rw[Zq hm0]at e;cases e
  rw[Zp hm0]at e
  cases hp:Z.parts[m.toNat]? with
  |none=>rw[hp]at e;cases e
  |some S=>
   rw[hp]at e;refine⟨u,Z,Y,hu,okb,λu2 H2 C p=>?_⟩;obtain⟨p2,xs,rfl,N,O⟩:=Yw p;rw[Z9]at O;have y:=O.length;rw[ZA]at y;have hi:=(ZF.mp hp).1;have G:m.toNat<xs.length:=by omega
   obtain⟨d,T,M⟩:=getD O<|ZD G;rw[hp]at T;cases T;have D:=VG<|ZD G;rw[show((m.toNat:Nat):Int)=m by omega]at D;exact⟨_,xs[m.toNat],Z2 N,D,sj.trans C,_,_,S,Y,M,Bd.ok_parts okb S<|ZJ hp,by rw[o];exact e⟩
 .rintro U J ⟨sj,u,z,Z,rfl,hu,okb,e⟩
  rw[ZA,List.drop_length]at e;unfold Bd.at at e;cases e;exact q u J sj hu
end
end K4
namespace L2
open PySem PySem.Spec PyProof.Rows
def ZI(h:Heap)(z TI TO:Addr)(f0 f1:Value):Prop:=h.get? z=some {cls:=.type "zip",dict:=none,data:=.fields #[f0,f1,.bool false,.ref TI,.ref TO],slots:= #[]}
section
variable{prog:Program}{w:World}{A:Around}{E:kh}{s:Shared}
def N2{α:Type}{a:Addr}{o:Obj}{m:Option Obj->Sem α}{Q:α->Shared->Prop}(h:s.heap.get? a=some o)(q:wpAny (model prog w) A (m<|some o) Q E s):wpAny (model prog w) A (loadIfAlive a >>=m) Q E s:=by
 intro Γ p Z;show Sem.wp _ Γ (Sem.loadIfAlive a λx=>m x) _ _ p s;rw[Sem.wp_loadIfAlive,h];exact q Γ p Z
def OQ{z TI TO G Z q F T:Addr}{d X:Bool}{k:Nat}{p C:kE}{x y S:Value}{f:Obj}{Q:Option Value->Shared->Prop}(D:ZipApart z TI TO G Z q F)(L:ZI s.heap z TI TO (rawInt T) S)(h:s.heap.get? T=some f)(i:S=.bool false\/S=.bool true)(t:IsPair s.heap TI (.ref G) (.ref Z))(one:SI d s.heap G q k p)(two:SI X s.heap Z F k C)(l:p[k]?=some x)(r:C[k]?=some y)(n:∀g,ZI g z TI TO (rawInt T) (.bool true)->SJ d g G q (k+1)->SJ X g Z F (k+1)->IsPair g s.heap.objs.size x y->g.objs.size=s.heap.objs.size+1->(∀c o,c≠z->c≠G->c≠Z->s.heap.get? c=some o->g.get? c=some o)->Q (some<|.ref s.heap.objs.size) {s with heap:=g}):
  wpAny (model prog w) A (pyNext<|.ref z) Q E s:=by
 have R:s.TypeIs (.ref z) "zip":=⟨_,L,rfl⟩;simp only[pyNext];refine Zl<|jp<|wpAny_callSpecial?_slot (name:=Str.ofString "__next__") R vA<|y0 vA R jR ?_<|jL _;refine Zl (m:=field (.ref z) 2)<|Zo L rfl (x:=.bool false) rfl (Zl (m:=field (.ref z) 3)<|Zo L rfl (x:=.ref TI) rfl (Zl<|vd t rfl ?_));refine Zl (m:=Builtin.SmallTypes.ownedTupleIsFree<|.ref z)<|Zl (m:=field (.ref z) 0)<|Zo L rfl (x:=rawInt T) rfl ?_;simp only[rawInt];refine N2 (o:=f) (by simpa using h) ?_;rw[Zq (by simp)];refine Zl (m:=field (.ref z) 1) (Zo L Y (x:=S) Y ?_)
 suffices main:∀J,ZI J z TI TO (rawInt T) (.bool true)->Heap.SameBut z s.heap J->wpAny (model prog w) A.in1 _ _ _ {s with heap:=J} by
  rcases i with rfl|rfl
  .rw [Zp (by rfl)]
   refine Zl<|yo L (by simp) λJ U O=>Zm ?_;rw[Zq (by simp)];exact main J U O
  .rw [Zq (by decide)]
   refine Zm ?_;rw[Zq (by simp)];exact main s.heap L ⟨Y,λ_ _=>Y⟩
 intro J U O;rw[<-js];simp only[vT,jS];have v:=one.but O.extBut D.i1z D.l1z;have u:=two.but O.extBut D.i2z D.l2z;refine Zl<|Zl<|Zl<|wpAny_holding (?_:wpAny _ _ (Builtin.SmallTypes.nextOf (.ref G) >>=_) _ _ _);refine Zl<|U7 (s:={s with heap:=J}) v D.l1i1 l λI a2 N=>Zm<|Zm ?_;replace N:Heap.SameBut G J I:=N;have j:SI X I Z F k C:=u.but N.extBut D.i12.symm D.l2i1;refine Zl<|Zl<|wpAny_holding (?_:wpAny _ _ (Builtin.SmallTypes.nextOf (.ref Z) >>=_) _ _ _);refine Zl<|U7 (s:={s with heap:=I}) j D.l2i2 r λB a M=>Zm<|Zm<|Zm ?_;replace M:Heap.SameBut Z I B:=M;refine Zl<|wpAny_newTuple (hsz:=by show 2<=sizeLine;decide)<|Zm ⟨_,rfl,Zm ?_⟩;have P:B.objs.size=s.heap.objs.size:=by rw[M.1,N.1,O.1]
 show Q (some<|.ref B.objs.size) _;have b:=n<|B.push {cls:=.type "tuple",data:=.seq #[x,y]};rw[P];refine b (ZE _<|M.extBut _ _ D.i2z.symm<|N.extBut _ _ D.i1z.symm U) ?_ ?_ ?_ (by rw[vg,P]) ?_
 .exact (a2.sj.to λo e=>M.extBut _ _ D.i12 e).to λo e=>ZE _ e
 .exact a.sj.to λo e=>ZE _ e
 .have:=ZY B (o:={cls:=.type "tuple",data:=.seq #[x,y]}) rfl
  rw[P]at this;exact this
 .intro c o c1 c2 c3 e
  exact ZE _<|M.extBut _ _ c3<|N.extBut _ _ c2<|O.extBut _ _ c1 e
def Qt{z TI TO G R S X T:Addr}{U v:Bool}{k:Nat}{F:kE}{N:Value}{I:Obj}{Q:Option Value->Shared->Prop}(y:A.handled=none)(D:ZipApart z TI TO G R S X)(Z:ZI s.heap z TI TO (rawInt T) N)(p:s.heap.get? T=some I)(q:N=.bool false\/N=.bool true)(O:IsPair s.heap TI (.ref G) (.ref R))(one:SI U s.heap G S k F)(P:F[k]?=none)(d:∀g,(∀c o,c≠z->c≠G->c≠R->s.heap.get? c=some o->g.get? c=some o)->Q none {s with heap:=g}):wpAny (model prog w) A (pyNext<|.ref z) Q E s:=by
 have L:s.TypeIs (.ref z) "zip":=⟨_,Z,rfl⟩;simp only[pyNext];refine Zl<|jp<|wpAny_callSpecial?_slot (name:=Str.ofString "__next__") L vA<|y0 vA L jR ?_<|jL _;refine Zl (m:=field (.ref z) 2)<|Zo Z rfl (x:=.bool false) rfl (Zl (m:=field (.ref z) 3)<|Zo Z rfl (x:=.ref TI) rfl (Zl<|vd O rfl ?_));refine Zl (m:=Builtin.SmallTypes.ownedTupleIsFree<|.ref z)<|Zl (m:=field (.ref z) 0)<|Zo Z rfl (x:=rawInt T) rfl ?_;simp only[rawInt];refine N2 (o:=I) (by simpa using p) ?_;rw[Zq (by simp)];refine Zl (m:=field (.ref z) 1) (Zo Z Y (x:=N) Y ?_)
 suffices main:∀J,ZI J z TI TO (rawInt T) (.bool true)->Heap.SameBut z s.heap J->wpAny (model prog w) A.in1 _ _ _ {s with heap:=J} by
  rcases q with rfl|rfl
  .rw [Zp (by rfl)]
   refine Zl<|yo Z (by simp) λJ B M=>Zm ?_;rw[Zq (by simp)];exact main J B M
  .rw [Zq (by decide)]
   refine Zm ?_;rw[Zq (by simp)];exact main s.heap Z ⟨Y,λ_ _=>Y⟩
 intro J B M;rw[<-js];simp only[vT,jS];have C:=one.but M.extBut D.i1z D.l1z;refine Zl<|Zl<|Zl<|wpAny_holding (?_:wpAny _ _ (Builtin.SmallTypes.nextOf (.ref G) >>=_) _ _ _);refine Zl<|ME (s:={s with heap:=J}) y C P λr e f ⟨o,j,t⟩=>?_;refine Zl<|jo (T:="StopIteration") (b:=true) ⟨o,j,t⟩ isSubtype_stop<|Zm<|d _ ?_;intro c o c1 u l e;exact f _ _ u<|M.extBut _ _ c1 e
end
def ZC(h:Heap)(z TI TO:Addr)(t1:Bool)(i1 l1:Addr)(t2:Bool)(i2 l2:Addr)(i:Nat):Prop:=
 IsPair h TI (.ref i1) (.ref i2)/\SJ t1 h i1 l1 i/\SJ t2 h i2 l2 i/\((IsZip h z TI TO .none/\∃a b,IsPair h TO a b) \/ ∃(T:Addr)(Z:Value)(J:Obj),ZI h z TI TO (rawInt T) Z/\h.get? T=some J/\T ∉ [z,TO,i1,i2]/\(Z=.bool false\/Z=.bool true))
def Wk.keep2{Z:Bool}{h G:Heap}{l:Addr}{J:kE}(z:Wk Z h l J)(k:∀o,h.get? l=some o->G.get? l=some o):Wk Z G l J:=by
 cases Z with
 |false=>exact let⟨o,e,r⟩:=z;⟨o,k _ e,r⟩
 |true=>exact let⟨o,e,r⟩:=z;⟨o,k _ e,r⟩
section
variable{prog:Program}{w:World}{A:Around}{E:kh}{R:Result->Shared->Prop}
def P5{z TI TO L G f c d:Addr}{t1 t2:Bool}{xs ys:kq}{vs:List (Key×Value)}(hh:A.handled=none)(D:ZipApart z TI TO L G f c)(T1:xs.length=ys.length)(hn:xs.length<=sizeLine)(hv:vs.length=xs.length)(nd:(vs.map (·.1)).Nodup)(R6:∀i (h1:i<xs.length) (h2:i<ys.length),∃k,vs[i]?=some (k,ys[i])/\(Y8 prog w).is k xs[i]=true)(hS:d ∉ [z,TO,L,G,TI,f,c])(F:Value):
  ∀(k i:Nat)(s:Shared)(j:Int)(t:Tok),xs.length-i=k->i<=xs.length->ZC s.heap z TI TO t1 L f t2 G c i->Wk t1 s.heap f xs.toArray->Wk t2 s.heap c ys.toArray->
  s.heap.DictOf (Y8 prog w) d (vs.take i)->TO<s.heap.objs.size->
  (∀h' tk,h'.DictOf (Y8 prog w) d vs->(∀b o,b ∉ [z,TO,L,G,d]->s.heap.get? b=some o->h'.get? b=some o)->R (.ok<|.ret F) {s with heap:=h',toks:=tk})->
  codeAny (model prog w) A (.builtin "dict.update.loop" ⟨[.ref d,.ref z,.int j t,F],[]⟩) R s:=by
 have nS:d≠z/\d≠TO/\d≠L/\d≠G/\d≠TI/\d≠f/\d≠c:=by simpa using hS
 obtain⟨n,S,n1,n2,R5,R4,R3⟩:=nS;intro k
 induction k with
 |zero=>
  intro i s j t hk hi zc y l hd L1 hR;have e:i=xs.length:=by omega
  subst e;refine j0 Xy ?_;rw[Around.under_plainId Jn _];obtain⟨M,u,j2,zz⟩:=zc;rw[<-hv,qj]at hd
  have M2:∀g,(∀b o,b ∉ [z,TO,L,G]->s.heap.get? b=some o->g.get? b=some o)->R (.ok<|.ret F) {s with heap:=g}:=λg J=>by
   obtain⟨o,es,ep,v,rest⟩:=hd
   exact hR g s.toks ⟨o,es,ep,J d o (by simp[n,S,n1,n2]) v,rest⟩ λb o O e=>J b o (λhm=>O (by
    have X:b=z\/b=TO\/b=L\/b=G:=by simpa using hm
    simp only[Zd,jh,or_false];rcases X with q|q|q|q
    .exact .inl q
    .exact .inr (.inl q)
    .exact .inr (.inr<|.inl q)
    .exact .inr (.inr<|.inr<|.inl q))) e
  refine Zl (m:=pyNext<|.ref z) ?_;rcases zz with⟨B,v⟩|⟨T,f1,oT,B,r,_,hf⟩
  .refine Fs hh D ⟨B,M,v,u.si y,j2.si l⟩ (.inl<|by simp) λg J=>Zl<|Zm<|Zm<|M2 g λb o O e=>?_
   have Z:b≠z/\b≠TO/\b≠L/\b≠G:=by simpa using O
   exact J b o Z.1 Z.2.1 Z.2.2.1 Z.2.2.2 e
  .refine Qt (v:=t2) hh D B r hf M (u.si y) (by simp) λg J=>Zl<|Zm<|Zm<|M2 g λb o O e=>?_
   have Z:b≠z/\b≠TO/\b≠L/\b≠G:=by simpa using O
   exact J b o Z.1 Z.2.2.1 Z.2.2.2 e
 |succ k ih=>
  intro i s j t hk hi zc y l hd L1 hR;have P:i<xs.length:=by omega
  have G2:i<ys.length:=by omega
  have hx:xs.toArray[i]?=some xs[i]:=by simp[P]
  have hy:ys.toArray[i]?=some ys[i]:=by simp
  obtain⟨T2,ev,G3⟩:=R6 i P G2;refine j0 Xy ?_;rw[Around.under_plainId Jn _];obtain⟨M,u,j2,zz⟩:=zc;refine Zl (m:=pyNext<|.ref z) ?_
  suffices step:∀g,ZC g z TI TO t1 L f t2 G c (i+1)->IsPair g s.heap.objs.size xs[i] ys[i]->g.objs.size=s.heap.objs.size+1->(∀b o,b≠z->b≠TO->b≠L->b≠G->s.heap.get? b=some o->g.get? b=some o)->wpAny (model prog w) A.in1 _ _ _ {s with heap:=g} by
   have lz:∀{o:Obj}{b:Addr},s.heap.get? b=some o->b<s.heap.objs.size:=λe=>ZP e;have J2:L<s.heap.objs.size:=let⟨_,e,_⟩:=u.obj;lz e
   have x:G<s.heap.objs.size:=let⟨_,e,_⟩:=j2.obj;lz e
   rcases zz with⟨B,a,b,v⟩|⟨T,f1,oT,B,r,nT,hf⟩
   .refine D4 D ⟨B,M,⟨a,b,v⟩,u.si y,j2.si l⟩ hx hy λg zs U h J=>step g ⟨zs.its,zs.one.sj,zs.two.sj,.inr ⟨s.heap.objs.size,.bool false,_,zs.zip,U,?_,.inl rfl⟩⟩ U h J
    have I:=lz B;have p:=lz v;intro hm;have X:s.heap.objs.size=z\/s.heap.objs.size=TO\/s.heap.objs.size=L\/s.heap.objs.size=G:=by simpa using hm
    rcases X with e|e|e|e <;> rw[e]at I p J2 x <;> first|exact Zr I (vb _)|exact Zr p (vb _)|exact Zr J2 (vb _)|exact Zr x<|vb _
   .have nT':T≠z/\T≠TO/\T≠L/\T≠G:=by simpa using nT
    exact OQ D B r hf M (u.si y) (j2.si l) hx hy λg z' a1 a2 U h J=>step g ⟨J _ _ D.TIz D.TIi1 D.TIi2 M,a1,a2,.inr ⟨T,.bool true,oT,z',J _ _ nT'.1 nT'.2.2.1 nT'.2.2.2 r,nT,.inr Y⟩⟩ U h λb o b1 _ b3 b4 e=>J b o b1 b3 b4 e
  intro g O1 U h J
  have T0:g.DictOf (Y8 prog w) d (vs.take i):=by
   obtain⟨o1,es,ep,C,rest⟩:=hd;exact⟨o1,es,ep,J d o1 n S n1 n2 C,rest⟩
  have r:({s with heap:=g}:Shared).TypeIs (.ref s.heap.objs.size) "tuple":=⟨_,U,rfl⟩
  have ld:d<s.heap.objs.size:=by
   obtain⟨o1,es,ep,C,rest⟩:=hd;exact ZP C
  refine Zl<|wpAny_holding<|Zl<|wpAny_tryCatch ?_;simp only[Builtin.Dict.pairItems];refine Zl (m:=typeOf<|.ref s.heap.objs.size)<|jX r ?_;rw[Zp (by decide)];refine Zl<|vd U rfl (Zm ?_);show wpAny _ A.in1 (holding [xs[i],ys[i]]<|dictSet d xs[i] ys[i]) _ _ _;refine wpAny_holding<|wpAny_dictSet_pairs (hsz:=by rw[ZN];omega) G3 T0 λh2 Q G1=>?_;rw[RU vs nd ev]at Q;have N:∀b o,b≠d->g.get? b=some o->h2.get? b=some o:=λb o O e=>(G1.2 b O).trans e;refine Zm ⟨plainId_quiet Jn _,ih (i+1) _ (j+1) 0 (by omega) P ?_ ?_ ?_ Q ?_ λh3 R1 R8 R7=>?_⟩
  .obtain ⟨a1,a2,a3,a4⟩:=O1
   exists N _ _ (Zs R5) a1,a2.to λo e=>N _ _ (Zs n1) e,a3.to λo e=>N _ _ (Zs n2) e;rcases a4 with⟨I,a,b,p⟩|⟨T,f1,oT,I,p,q3,q4⟩
   .exact .inl ⟨N _ _ (Zs n) I,a,b,N _ _ (Zs S) p⟩
   .by_cases eT:T=d
    .obtain ⟨o2,es2,ep2,ho2,_⟩:=Q
     exact .inr ⟨T,f1,o2,N _ _ (Zs n) I,by rw[eT];exact ho2,q3,q4⟩
    .exact .inr ⟨T,f1,oT,N _ _ (Zs n) I,N _ _ eT p,q3,q4⟩
  .exact y.keep2 λo e=>N _ _ (Zs R4)<|J _ _ D.l1z D.l1TO D.l1i1 D.l1i2 e
  .exact l.keep2 λo e=>N _ _ (Zs R3)<|J _ _ D.l2z D.l2TO D.l2i1 D.l2i2 e
  .have e2:h2.objs.size=g.objs.size:=G1.1
   show TO<h2.objs.size;rw[e2,h];exact Nat.lt_succ_of_lt L1
  .refine hR h3 R1 R8 λb o O e=>R7 b o O ?_
   have Z:b≠z/\b≠TO/\b≠L/\b≠G/\b≠d:=by simpa using O
   exact N _ _ Z.2.2.2.2<|J b o Z.1 Z.2.1 Z.2.2.1 Z.2.2.2.1 e
end
def P4:typeLookup (.type "zip") (Str.ofString "keys")=pure none:=am_miss_of_fast<|by decide +kernel
def P3:typeLookup (.type "zip") (Str.ofString "__getattr__")=pure none:=am_miss_of_fast<|by decide +kernel
def Lr:entryFor table "zip.__getattribute__"=some Builtin.«object.__getattribute__»:=
 entryFor_alias (id':="object.__getattribute__") (by kernel_rfl) (by decide +kernel) (by decide +kernel) (by kernel_rfl)
def Lq(a:Addr)(D:kE)(sl:Array (Option Value))(name:Str)(u:Tok)(L:typeLookup (.type "zip") name=pure none)(Z:(["__module__","__name__","__qualname__","__doc__","__annotations__"]:ky).contains name=false)(G:name.length+100<=sizeLine:=by size_fits):
  Meets (Builtin.«object.__getattribute__» ⟨[.ref a,.str name u],[]⟩) (λA R s=>s.heap.get? a=some {cls:=.type "zip",dict:=none,data:=.fields D,slots:=sl}/\raisesAttr (.ref a) name A R s):=
 Meets.of_wp λM w A R s J=>by
  obtain⟨B,g,d,N,O⟩:=s;obtain⟨T,J⟩:=J;have E:(⟨B,g,d,N,O⟩:Shared).TypeIs (.ref a) "zip":=⟨_,T,rfl⟩;unfold Builtin.«object.__getattribute__»
  repeat (any_goals (first|assumption|wp_step))
  simp only[Z,vH,if_false]
  repeat (any_goals (first|assumption|wp_step))
  exact wpAny_raiseAttrError J.1 J.2<|attrMsg_fits (by decide +kernel) G
def P6{R:kE}{M:Array (Option Value)}(N:s.heap.get? a=some {cls:=.type "zip",dict:=none,data:=.fields R,slots:=M})(S:A.handled=none)(h:∀G L,(∀b o,s.heap.get? b=some o->G.get? b=some o)->Q none {s with heap:=G,toks:=L}):
  wpAny (model prog w) A (getAttr? (.ref a)<|Str.ofString "keys") Q E s:=by
 obtain⟨U,C,X,L,B⟩:=s;have Z:=F.slot_zip_getattribute;have I:=Z.lookup;have P:=Z.bind<|.ref a;have D:=P3;have j:=sub_AttributeError;have O:∀n,(Shared.mk U C X n B).TypeIs (.ref a) "zip":=λn=>⟨_,N,rfl⟩;simp only[getAttr?,getAttrBy?,getAttrBy]
 repeat (any_goals (first|assumption|exact O _|((with_reducible show wpAny _ _ (call (Value.builtin "zip.__getattribute__") _ _) _ _ _);refine jC F.slot_zip_getattribute (O _) Lr (F.args_zip_getattribute_2 _ _) (Lq a R M (Str.ofString "keys") _ P4 (by decide +kernel)<|by size_fits) ⟨N,S,λG T e J=>?_⟩)|wp_step))
 have there:=J.there;obtain⟨_,_,y⟩:=there;refine(?_:wpAny _ _ (getattributeRaised _ _ _ _ _ _ _) _ _ _);simp only[getattributeRaised]
 repeat any_goals first|assumption|wp_step
 exact h _ _ J.keeps
theorem Qh:∀{Z:kF}{G:kq},Vals (Z.map (·.2)) G->∃J,KV Z J/\J.map (·.2)=G/\J.map (·.1)=Z.map (·.1)
 |[],_,r=>by cases r;exact⟨[],.nil,Y,Y⟩
 |kv::Z,_,r=>by
  cases r with
  | @cons _ u _ G h t=>
   obtain⟨J,N,M,L⟩:=Qh t;exact⟨(kv.1,u)::J,.cons ⟨Y,h⟩ N,by rw[ZV,M],by rw[ZV,ZV,L]⟩
def Tu{z TI TO R O j P:Addr}{t1 t2:Bool}{xs ys:kq}{vs:List (Key×Value)}{kvs:kF}{g:Heap}(I:Inv X E U H s)(hc:X.calm=true)(D:ZipApart z TI TO R O j P)(S:xs.length=ys.length)(hn:xs.length<=1000)(hv:vs.length=xs.length)(nd:(vs.map (·.1)).Nodup)(x:∀i (y:i<xs.length) (h2:i<ys.length),∃k,vs[i]?=some (k,ys[i])/\(Y8 X.prog X.w).is k xs[i]=true)(B:KV kvs vs)(kp:∀b o,s.heap.get? b=some o->g.get? b=some o)(m:s.heap.objs.size<=g.objs.size)(L:∀b∈ [z,TO,R,O],s.heap.objs.size<=b)(Z:ZR g z TI TO t1 R j t2 O P 0)(w1:Wk t1 g j xs.toArray)(w2:Wk t2 g P ys.toArray)(q:∀l,H l=none->Q (.ref l) (upd H l<|.dK kvs)):
  wpAny (model X.prog X.w) X.A (call (.type "dict") [.ref z]) (EP X E U Q) X.xe {s with heap:=g}:=by
 refine callType_codes (Q₁:=λob t=>ob=.ref g.objs.size/\t={s with heap:=g.push {cls:=.type "dict",data:=.dict #[]}}) F.kt_called_dict (F.kt_typeCall_dict_1 _) F.entry_dict_init (kt_code_dict_new _ ⟨Y,Y⟩) λob t ht=>?_;obtain⟨rfl,rfl⟩:=ht;have J:(g.push {cls:=.type "dict",data:=.dict #[]}).DictOf (Y8 X.prog X.w) g.objs.size []:=Heap.DictOf.new g;have r:∀b o,g.get? b=some o->(g.push {cls:=.type "dict",data:=.dict #[]}).get? b=some o:=λb o e=>ZE _ e;refine And.intro J.typeIs<|And.intro (F.args_dict_init_2 _ _) ?_;delta Builtin.«dict.__init__» Builtin.Dict.selfAndRest;refine Zl<|Zl<|wpAny_notOrdered_dict J.typeIs<|Zm (?_:wpAny _ _ (Builtin.Dict.updateFrom "dict.__init__" g.objs.size (.ref z) [] .none) _ _ _);delta Builtin.Dict.updateFrom;have p:Shared.TypeIs {s with heap:=g.push {cls:=.type "dict",data:=.dict #[]}} (.ref z) "zip":=⟨_,r _ _ Z.zip,rfl⟩;refine Zl<|jX p ?_;rw[Zp (by decide)];refine Zl<|P6 (s:={s with heap:=g.push {cls:=.type "dict",data:=.dict #[]}}) (r _ _ Z.zip) (I.ok.hd hc) λy T C=>?_;simp only[Option.isNone_none,if_true];refine Zl<|jf ?_;have G:∀b o,g.get? b=some o->y.get? b=some o:=λb o e=>C b o<|r b o e;refine Zl<|wpAny_pyIter_zip (s:={s with heap:=y,toks:=T}) (G _ _ Z.zip) ?_;have lz:z<g.objs.size:=ZP Z.zip;have w:TI<g.objs.size:=ZP Z.its;have v:TO<g.objs.size:=let⟨_,_,e⟩:=Z.out;ZP e
 have u:R<g.objs.size:=let⟨_,e,_⟩:=Z.one.obj;ZP e
 have f:O<g.objs.size:=let⟨_,e,_⟩:=Z.two.obj;ZP e
 have d:=w1.lt;have c:=w2.lt;have M:∀{b:Addr},b<g.objs.size->g.objs.size≠b:=λh=>vt h;refine Zm ⟨plainId_quiet Jn _,P5 (A:=X.A.in1) (t1:=t1) (t2:=t2) (xs:=xs) (ys:=ys) (vs:=vs) (I.ok.hd hc) D S (Zh<|Yj hn) hv nd x ?_ .none xs.length 0 {s with heap:=y,toks:=T} 0 0 rfl (Zc _) ⟨G _ _ Z.its,Z.one.to λo e=>G _ _ e,Z.two.to λo e=>G _ _ e,.inl ⟨G _ _ Z.zip,let⟨a,b,e⟩:=Z.out;⟨a,b,G _ _ e⟩⟩⟩ (w1.keep2 λo e=>G _ _ e) (w2.keep2 λo e=>G _ _ e) ?_ ?_ λh' tk G2 J2=>?_⟩
 .intro n
  have N:g.objs.size=z\/g.objs.size=TO\/g.objs.size=R\/g.objs.size=O\/g.objs.size=TI\/g.objs.size=j\/g.objs.size=P:=by simpa using n
  rcases N with e|e|e|e|e|e|e
  .exact M lz e
  .exact M v e
  .exact M u e
  .exact M f e
  .exact M w e
  .exact M d e
  .exact M c e
 .rw [vE]
  obtain⟨o,es,ep,ho,rest⟩:=J;exact⟨o,es,ep,C _ _ ho,rest⟩
 .obtain ⟨_,_,e⟩:=Z.out
  exact ZP<|G _ _ e
 .have lk:kvs.length<=sizeLine:=by
   have:=B.length;exact Zh<|Yj<|by omega
  refine⟨Y,.ref g.objs.size,_,I.laid (a:=g.objs.size) (o:=.dK kvs) (λb o e=>?_) m<|Wd lk (beq_eq_false_iff_ne.mpr<|Zs<|Ze<|Zx I.big m) B G2,rfl,q _<|I.hok.fresh m⟩;have hb:=ZP e;refine J2 b o (λn=>?_)<|G b o<|kp b o e;have N:b=z\/b=TO\/b=R\/b=O\/b=g.objs.size:=by simpa using n
  have G1:s.heap.objs.size<=b:=by
   rcases N with e|e|e|e|e
   .exact L b (by rw[e];simp)
   .exact L b (by rw[e];simp)
   .exact L b (by rw[e];simp)
   .exact L b (by rw[e];simp)
   .rw [e];exact m
  exact Zr hb<|Nat.not_lt_of_le G1
def tDZ(K:W.Frag)(ta:TA):TE:=λU H Q=>ta U H λG J=>∃(a b:Addr)(M L:Bool)(Z:kF),G=[.ref a,.ref b]/\Sq K M J a (Z.map λN=>kV N.1)/\Sq K L J b (Z.map (·.2))/\Z.length<=1000/\(Z.map (·.1)).Nodup/\
 ∀l,J l=none->Q (.ref l) (upd J l<|.dK Z)
def O5{X:Cx}{a b:Expr}{x:TA}{p E t Z:Pos}(hc:X.calm=true)(hg:Gl X "dict")(hm:X.mg "dict"=none)(r:Gl X "zip")(w:X.mg "zip"=none)(ha:PA X [a,b] x)(hs:starEach [a,b] X.env=[(false,eval a X.env),(false,eval b X.env)]:=by rfl)(T:starEach [b] X.env=[(false,eval b X.env)]:=by rfl)(B:starEach [Expr.Call (.Name "zip" E) [a,b] [] Z] X.env=[(false,eval (Expr.Call (.Name "zip" E) [a,b] [] Z) X.env)]:=by rfl):
  PE X (.Call (.Name "dict" p) [.Call (.Name "zip" E) [a,b] [] Z] [] t) (tDZ X.K x):=by
 intro O s U H Q I h;refine Call_<|Ue I hg hm Uk<|yz ?_ B rfl;rw[B];refine(?_:wpAny _ _ (spliced ((false,eval (Expr.Call (.Name "zip" E) [a,b] [] Z) X.env)::[])) _ _ s);refine Calls.spliced_cons (Call_<|Ue I r w RX<|yz (thn (ha Z O s U H _ I h) λus L ⟨vs,H1,n,r1,y⟩=>?_) (by rw[hs,T]) (by rw[T];rfl));obtain⟨l1,l2,t1,t2,kvs,e,y,q2,c,nd,q⟩:=y;subst e;obtain⟨u,w',rfl,P,C⟩:=vals2 r1;cases P;cases C;obtain⟨R,N,A⟩:=n.sq y;obtain⟨J,M,F⟩:=n.sq q2;have n1:=A.lt;have n2:=F.lt;have k:=N.length;have m:=M.length;rw[ZA]at k m;obtain⟨G,j,e2,l⟩:=Qh M;have lw:G.length=kvs.length:=by rw[<-ZA (f:=(·.1)) (as:=G),l,ZA]
 refine Nw A F λg S d=>Calls.spliced_nil ?_;have D:=zap _ _ _ n1 n2;have gz:L.heap.objs.size<=g.objs.size:=Zh<|jq (vf _ _)<|ZP S.zip;refine Tu (xs:=R) (ys:=J) (vs:=G) (kvs:=kvs) n hc D (by omega) (by omega) (by omega) (by rw[l];exact nd) (λi h1 h2=>?_) j d gz (λb hb=>?_) S (A.keep2 λo e=>d _ _ e) (F.keep2 λo e=>d _ _ e) q
 .have ik:i<kvs.length:=by omega
  have v:i<G.length:=by omega
  have e3:G[i].2=J[i]:=by
   have:(G.map (·.2))[i]?=J[i]?:=by rw[e2]
   rw[ZH,ZD v,ZD h2]at this;exact ZT this
  have e4:G[i].1=kvs[i].1:=by
   have:(G.map (·.1))[i]?=(kvs.map (·.1))[i]?:=by rw[l]
   rw[ZH,ZH,ZD v,ZD ik]at this;exact ZT this
  refine⟨G[i].1,by rw[ZD v,<-e3],?_⟩;obtain⟨u,hu,P⟩:=N.get (show(kvs.map λkv=>kV kv.1)[i]?=some (kV kvs[i].1) by rw[ZH,ZD ik];rfl);rw[ZD h1]at hu;cases hu;rw[e4];exact XM P
 .have z:b=L.heap.objs.size+4\/b=L.heap.objs.size+3\/b=L.heap.objs.size\/b=L.heap.objs.size+1:=by simpa using hb
  rcases z with z|z|z|z <;> rw[z] <;> first|exact ZG _|exact vf _ _
end L2
namespace L2
open PySem
def nmD(ns:ky)(vs:kH):kF:=(ns.zip vs).map λx=>(Sum.inr x.1,x.2)
theorem NR:∀{ns:ky}{vs:kH},ns.length=vs.length->(nmD ns vs).map (λL=>kV L.1)=ns.map V.str/\(nmD ns vs).map (·.2)=vs/\(nmD ns vs).map (·.1)=ns.map Sum.inr
 |[],[],_=>⟨rfl,rfl,rfl⟩
 |[],_::_,h=>by simp at h
 |_::_,[],h=>by simp at h
 |n::ns,v::vs,h=>by
  obtain⟨G,J,Z⟩:=NR (ns:=ns) (vs:=vs) (by simpa using h);unfold nmD at G J Z |-;exists ?_,?_
  .rw [vW,ZV,ZV,G];rfl
  .rw [vW,ZV,ZV,J]
  .rw [vW,ZV,ZV,Z];rfl
end L2
namespace K4
open PySem L2
section
variable{C CK:Addr}
def K8:List.Nodup [("name":Str),"kind"]:=by decide +kernel
def Az:Yh ["book","f","things","names"] ["book","f","things"] (Yc Bb):=Y5
inductive SNd(C CK:Addr)(H:Hp)(Q:VK):List V->Prop
 |mk (t tl:Addr) (us:List V) (ks:List (Str×Shp)) (d:Str->Nat) (ds:List Dd) (x:Dd) (bi:BI H C CK t ks d ds) (hx:x∈ds) (ht:H tl=some (.lst us)) (ln:us.length=x.1.2.1.length) (l3:x.1.2.1.length<=3) (nd:(x.1.2.1.map (·.1)).Nodup)
  (q:∀l H',Same H H'->H l=none->H' l=some (.dK (nmD (x.1.2.1.map (·.1)) us))->Q (.ref l) H'):SNd C CK H Q [.ref t,.str x.1.1,.ref tl]
def IV(C CK:Addr):Sp:=λZ H Q _=>SNd C CK H Q Z
def CQ(B:Blt S)(TB:BCl K C)(F:Fun K "named" "named" Bb f fd)(m:VI K C "parameters" g)(G:Yf P w K S base CX0 n g gd ["self","F"] (Gc C CK))(bG:Binds K gd ["self","F"] []):Yf P w K S base CX0 (n+1) f fd ["book","f","things"] (IV C CK):=by
 refine F.oi Az λJ2 A M s H vs Q E hr h=>?_;obtain⟨t,k,us,o,d,ds,x,z,hx,ht,ln,l3,c,q⟩:=h;refine⟨_,YY (MT (i0:=3) ["name","kind"] [] Az.nd Y (Or.inl Y) (UH<|Y6 (pv 0) TB.cl m G hr bG .nil Y2<|pa1<|pv 1) Mj (λcl C j s H=>Vd (n:=2) rfl (Ys (Yl 0 K8 rfl (Or.inl rfl) (Or.inr rfl))<|Ys (Yl 1 K8 rfl (Or.inl rfl) (Or.inr rfl)) VN)) (λcl C j s H=>pv 0))
  (YZ<|Ym<|O5 rfl rfl B.dict rfl B.zip (pa2 (pv 3)<|pv 2)),?_⟩
 dsimp only[Vf,Cx.nox,Cx.wish];show let T0:=_;Yk _ T0 _ _ _
 intros
 obtain⟨A',kv,rfl,b'⟩:=id z;refine⟨_,_,b'.ins,C2 _,A'.t,o,d,ds,x,Y,z,hx,λv U=>?_⟩;unfold psD at U;obtain⟨a,xs,rfl,X,hu⟩:=Yw U;exists ⟨_,Z2 X⟩;refine Nq (us:=x.1.2.1) (D:=λp=>.tup [.str p.1,.str p.2]) (E:=λp=>.str p.1) (itt<|Z2 X) hu (by omega) (λu y R hm i hR=>?_) λvs p H1 j L hp N=>?_
 .obtain ⟨t,ys,rfl,h2,Z⟩:=Yw i
  obtain⟨x1,r1,rfl,I,T⟩:=Yd Z;obtain⟨x2,r2,rfl,J,O⟩:=Yd T;obtain rfl:=VD O;obtain rfl:=has_str I;obtain rfl:=has_str J;exact⟨_,Z2 h2,Y,hR _ Y4⟩
 have e:=X9 (by rw[yj];exact N:HasL H1 vs ((x.1.2.1.map (·.1)).map Dat.str));subst e;obtain⟨I,J,e3⟩:=NR (ns:=x.1.2.1.map (·.1)) (vs:=us) (by rw[ZA];omega);have r:(nmD (x.1.2.1.map (·.1)) us).length=us.length:=by rw[<-ZA (f:=(·.2)),J]
 refine⟨p,k,false,false,nmD (x.1.2.1.map (·.1)) us,Y,?_,?_,by omega,?_,λl Z=>?_⟩
 .rw [I];exact Z3 hp
 .rw [J];exact Z3<|L _ _ ht
 .rw [e3]
  exact c.map (f:=Sum.inr) λa b h e=>h<|Sum.inr.inj e
 .exact q l _ (L.trans<|Yq Z _) (L.free Z) Ye
end
end K4
namespace L2
open PySem
@[elab_as_elim] theorem fld_in {motive:Hp->Prop}(x:Addr) (o:HO) (k:∀H',SameB x H H'->H' x=some o->motive H'):motive (upd H x o):=k _ (λb u n h=>by rw[Yg n];exact h) Ye
def Uc(J:Z x=none)(s:Same Z H)(b:SameB x H G):Same Z G:=λa o h=>b a o (Yb h J)<|s a o h
mutual
def Dat.ti:Dat->Bool
 |.tup ds=>Dat.tis ds
 |.lst _=>false
 |_=>true
def Dat.tis:List Dat->Bool
 |[]=>true
 |d::ds=>d.ti && Dat.tis ds
end
mutual
theorem VO{H Z:Hp}(b:TK H Z):∀(d:Dat){v:V},d.ti=true->Has H v d->Has Z v d
 |.str _,_,_,h=>by unfold Has at h |-;exact h
 |.non,_,_,h=>by unfold Has at h |-;exact h
 |.tup ds,_,t,h=>by
  unfold Has at h |-;obtain⟨a,J,M,L,G⟩:=h;unfold Dat.ti at t;exact⟨a,J,M,b _ _ L,JQ b ds t G⟩
 |.bl _,_,_,h=>by unfold Has at h |-;exact h
 |.int _,_,_,h=>by unfold Has at h |-;exact h
 |.lst _,_,t,_=>by unfold Dat.ti at t;cases t
theorem JQ{H L:Hp}(b:TK H L):∀(Z:kM){J:kH},Dat.tis Z=true->HasL H J Z->HasL L J Z
 |[],[],_,h=>Z6
 |[],_::_,_,h=>by unfold HasL at h;exact h.elim
 |_::_,[],_,h=>by unfold HasL at h;exact h.elim
 |d::Z,x::J,t,h=>by
  unfold HasL at h;unfold Dat.tis at t;have G:=vw.mp t;exact Z4 (VO b d G.1 h.1)<|JQ b Z G.2 h.2
end
theorem W0:∀{Z:kM},(∀d∈Z,d.ti=true)->Dat.tis Z=true
 |[],_=>by unfold Dat.tis;rfl
 |d::Z,h=>by unfold Dat.tis;rw[h d Za,W0 λe J=>h e (ZM _ J)];rfl
def X7(Z:kB):(JD Z).ti=true:=by
 unfold JD Dat.ti;exact W0 λd J=>by obtain⟨k,_,rfl⟩:=ZW.mp J;unfold Dat.ti;rfl
end L2
namespace K4
open PySem L2
section
variable{C CK CG:Addr}
def zi:Yh ["self","book","F","worths"] ["self","book","F","worths"] (Yc Lj):=Y5
def yG:List.Nodup [("i":Str)]:=by decide +kernel
end
end K4
namespace L2
open PySem PySem.Spec PyProof.Rows
def yW(K:W.Frag)(ta:TE)(f:Str):TG:=λv U H Q=>ta U H λx G=>∃a C J Z,x=.ref a/\G a=some (.ins C J Z)/\Cls K C/\VF K C f/\Z.length<1000/\Q U (upd G a<|.ins C J<|VR f v Z)
def By(L:PE X o ta):PG X (.Attribute o f pos) (yW X.K ta f):=by
 intro Z s U H v u Q I r h;rw[assign_Attribute];refine Zl<|wpAny_holding<|thn (L Z s U H _ I h) λG B ⟨x,F,R,J,a,C,E,D,M,N,c,n,l,q⟩=>?_;subst M;obtain rfl:G=Value.ref a:=J;refine Zl<|vF<|Zl<|wpAny_holding<|XS R N c n l r λT O=>?_;exact wpAny_release ⟨U,_,O,q⟩
structure OCl(K:W.Frag)(C:Addr):Prop where
 cl:Cls K C
 gr:VF K C "ground"
 nu:VF K C "number"
 f:VF K C "f"
 pl:VF K C "place"
 kn:VF K C "known"
 bd:VF K C "body"
 wt:VF K C "waiting"
mutual
theorem Bd.ti:∀b:Bd,b.dat.ti=true
 |.tag t=>by simp[Bd.dat,Dat.ti,Dat.tis]
 |.name x=>by simp[Bd.dat,Dat.ti,Dat.tis]
 |.pair a b=>by simp[Bd.dat,Dat.ti,Dat.tis,Bd.ti a,Bd.ti b]
 |.one e=>by simp[Bd.dat,Dat.ti,Dat.tis,Bd.ti e]
 |.other e=>by simp[Bd.dat,Dat.ti,Dat.tis,Bd.ti e]
 |.choose e Z J=>by simp[Bd.dat,Dat.ti,Dat.tis,Bd.ti e,Bd.tib J Z]
 |.ask f G=>by simp[Bd.dat,Dat.ti,Dat.tis,Bd.tis G]
 |.letb x k e b=>by simp[Bd.dat,Dat.ti,Dat.tis,Bd.ti e,Bd.ti b]
theorem Bd.tis:∀Z:List Bd,Dat.tis (Bd.dats Z)=true
 |[]=>by simp[Bd.dats,Dat.tis]
 |b::Z=>by simp[Bd.dats,Dat.tis,Bd.ti b,Bd.tis Z]
theorem Bd.tib:∀(Z:List Bd)(J:ky),Dat.tis (Bd.brs Z J)=true
 |[],J=>by unfold Bd.brs;simp[Dat.tis]
 |b::Z,[]=>by simp[Bd.brs,Dat.tis,Dat.ti,Bd.ti b,Bd.tib Z []]
 |b::Z,t::J=>by simp[Bd.brs,Dat.tis,Dat.ti,Bd.ti b,Bd.tib Z J]
end
end L2
namespace K4
open PySem L2
section
variable{C CK CG CO:Addr}
def ze:Yh ["self","ground","number"] ["self","ground","number"] (Yc K2):=Y5
def yT(A:BA):(UG A).lookup ("body_of":Str)=none:=rfl
end
end K4
namespace L2
open PySem
def JT(s:SameB l H J)(Z:H l=some (.lst G)):TK H J:=λb L h=>s _ _ (λz=>by rw[z,Z]at h;cases h) h
end L2
namespace K4
open PySem L2
section
variable{C CK CG CO:Addr}
def zj:Yh ["self","thing"] ["self","thing"] (Yc XZ):=Y5
end
section
variable{C CK CG CO:Addr}
def A2:Yh ["self","place","known","body"] ["self","place","known"] (Yc WW):=Y5
def at0{v:V}{r:kH}:atI (v::r) 0=some v:=VG (j:=0) rfl
def at1{u v:V}{r:kH}:atI (u::v::r) 1=some v:=VG (j:=1) rfl
def at2{u v z:V}{r:kH}:atI (u::v::z::r) 2=some z:=VG (j:=2) rfl
def Rp{a b:Str}(h:a≠b):¬decide (V.str a=V.str b)=true:=λz=>h (by have:=Zt z;injection this)
end
end K4
namespace L2
open PySem
theorem L9:∀{bs:List Bd}{ts:ky}{k:Nat}{d:Dat},(Bd.brs bs ts)[k]?=some d->∃t b,ts[k]?=some t/\d=.tup [.str t,Bd.dat b]
 |[],_,k,d,h=>by unfold Bd.brs at h;simp at h
 |_::_,[],k,d,h=>by unfold Bd.brs at h;simp at h
 |b::bs,t::ts,0,d,h=>by unfold Bd.brs at h;cases h;exact⟨t,b,Y,Y⟩
 |b::bs,t::ts,k+1,d,h=>by unfold Bd.brs at h;exact L9 (bs:=bs) (ts:=ts) h
end L2
namespace K4
open PySem L2
section
variable{C CK CG CO:Addr}
def BU:Yh ["self","head","body","place","known","number","tag","branch"] ["self","head"] (Yc WV):=Y5
def tagD(t:Str):Dat:=.tup [.str "tag",.str t]
end
section
variable{C CK CG CO:Addr}
def EG:Yh ["self","state"] ["self","state"] (Yc K3):=Y5
def A4:Yh ["self"] ["self"] (Yc DB):=Y5
end
end K4
namespace L2
open PySem
theorem Bd.at_snoc:∀(Z:kB){b c e:Bd}{k:Int},b.at Z=some c->0<=k->c.parts[k.toNat]?=some e->b.at (Z++[k])=some e
 |[],b,c,e,k,h,hk,hp=>by
  unfold Bd.at at h;cases h;rw[List.nil_append];unfold Bd.at;rw[Zp hk,hp];show Bd.at e []=some e;unfold Bd.at
  rfl
 |i::r,b,c,e,k,h,hk,hp=>by
  rw[List.cons_append];unfold Bd.at at h |-
  by_cases h0:0<=i
  .rw [Zp h0]at h |-
   cases hb:b.parts[i.toNat]? with
   |none=>rw[hb]at h;cases h
   |some J=>
    rw[hb]at h;exact Bd.at_snoc r h hk hp
  .rw [Zq h0]at h;cases h
end L2
namespace L2
open PySem PySem.Spec PyProof.Rows
abbrev X5:=Option Key
def XJ:X5->Value->Prop
 |some k,v=>V1 k v=true
 |none,v=>v=.none
def LY(w:World):X5->Int
 |some k=>Cs w k
 |none=>4238894112
def DK:Nat->Type
 |0=>X5
 |n+1=>Sum X5<|List<|DK n
def DK.dec:(n:Nat)->DecidableEq (DK n)
 |0=>inferInstanceAs<|DecidableEq<|Option Key
 |n+1=>have:=DK.dec n;inferInstanceAs (DecidableEq<|Sum X5<|List<|DK n)
instance (n:Nat):DecidableEq (DK n):=DK.dec n
def isQ(h:Heap):(n:Nat)->DK n->Value->Prop
 |0,k,v=>XJ k v
 |_+1,.inl k,v=>XJ k v
 |n+1,.inr ks,v=>∃(a:Addr)(o:Obj)(items:kE)(m:Nat),v=.ref a/\h.get? a=some o/\o.cls=.type "tuple" /\o.data=.seq items m/\Paired (isQ h n) ks items.toList
def Xt(w:World):(n:Nat)->DK n->Int
 |0,k=>LY w k
 |_+1,.inl k=>LY w k
 |n+1,.inr ks=>reduceHash<|Builtin.Tuple.tupleHashOf<|ks.map<|Xt w n
def Te:(n:Nat)->DK n->Nat
 |0,_=>1
 |_+1,.inl _=>1
 |n+1,.inr ks=>(ks.map<|Te n).sum+1
section
variable{prog:Program}{w:World}
def LW{A:Around}{E:kh}{s:Shared}{Q:Int->Shared->Prop}(h:Q 4238894112 {s with toks:=s.toks+1}):wpAny (model prog w) A (pyHash .none) Q E s:=by
 have Z:s.TypeIs .none "NoneType":=typeIs_none s;unfold pyHash
 first|unfold pyHashByItsType|skip
 have J:[Value.none].any Value.onHeap=false:=rfl;refine Zl ?_;rw[cRoomFor,Zq (by rw[J];exact Zi)];refine Zm ?_;refine Zl<|jc Z PySem.F.slot_NoneType_hash.lookup ?_;show wpAny _ _ (if(some (Value.builtin "NoneType.__hash__")==some Value.none)=true then _ else _) Q E s;rw[Zq (by rw[beq_builtin_none];exact Zi)];refine Zl<|jc Z PySem.F.slot_NoneType_hash.lookup ?_;show wpAny _ _ (callSpecialIfBoundUnlessNone? .none "__hash__" _ >>=_) Q E s;refine Zl (wpAny_callSpecialIfBoundUnlessNone?_slot Z PySem.F.slot_NoneType_hash
  (y0 PySem.F.slot_NoneType_hash Z PySem.F.entry_NoneType_hash
   (show wpAny _ _ (do ret (<-mkInt 4238894112)) _ _ s from wpAny_ret_mkInt ?_) (PySem.F.args_NoneType_hash_1 _)))
 show wpAny _ _ (if(decide (-(2:Int) ^ 63<=4238894112) && decide ((4238894112:Int)<2 ^ 63))=true then _ else _) Q E _;rw[Zp (by decide)];exact Zm h
theorem JH:∀{k:X5}{v:Value},XJ k v->(∃i t,k=some (Sum.inl i)/\v=Value.int i t)\/(∃x t,k=some (Sum.inr x)/\v=Value.str x t)\/(k=none/\v=Value.none)
 |some k,v,h=>by
  rcases VM (show V1 k v=true from h)with⟨i,t,rfl,rfl⟩|⟨x,t,rfl,rfl⟩
  .exact .inl ⟨i,t,rfl,rfl⟩
  .exact .inr (.inl ⟨x,t,rfl,rfl⟩)
 |none,v,h=>.inr<|.inr ⟨rfl,h⟩
def Nd{A:Around}{E:kh}{s:Shared}{k:X5}{v:Value}{Q:Int->Shared->Prop}(Z:XJ k v)(h:Q (LY w k) {s with toks:=s.toks+1}):wpAny (model prog w) A (pyHash v) Q E s:=by
 cases k with
 |none=>cases(show v=Value.none from Z);exact LW h
 |some k=>exact(Y8 prog w).pyHash (show V1 k v=true from Z) h
def Lp{A:Around}{E:kh}{s:Shared}{a b:X5}{u v:Value}{Q:Bool->Shared->Prop}(J:XJ a u)(Z:XJ b v)(h:Q (decide<|a=b) s):wpAny (model prog w) A (eqBool u v) Q E s:=by
 cases a with
 |none=>
  cases(show u=Value.none from J)
  cases b with
  |none=>
   cases(show v=Value.none from Z);rw[decide_eq_true rfl]at h;exact SeqAt.EqAt.same _ _ _ _ _ h
  |some b=>
   rw[Zy (λz=>nomatch z)]at h;rcases JH Z with⟨i,t,_,rfl⟩|⟨x,t,_,rfl⟩|⟨e,_⟩
   .exact SeqAt.EqAt.none_int i t _ _ _ _ h
   .exact SeqAt.EqAt.none_str x t _ _ _ _ h
   .cases e
 |some a=>
  cases b with
  |none=>
   cases(show v=Value.none from Z);rw[Zy (λz=>nomatch z)]at h;rcases JH J with⟨i,t,_,rfl⟩|⟨x,t,_,rfl⟩|⟨e,_⟩
   .exact SeqAt.EqAt.int_none i t _ _ _ _ h
   .exact SeqAt.EqAt.str_none x t _ _ _ _ h
   .cases e
  |some b=>
   refine(Y8 prog w).eqBool (show V1 a u=true from J) (show V1 b v=true from Z) ?_;have:decide (a=b)=decide (some a=some b):=by simp
   rw[this];exact h
def EU{a b:X5}{v:Value}(G:XJ a v)(J:XJ b v):a=b:=by
 rcases JH G with⟨i,t,rfl,rfl⟩|⟨x,t,rfl,rfl⟩|⟨rfl,rfl⟩ <;> rcases JH J with⟨j,u,rfl,e⟩|⟨y,u,rfl,e⟩|⟨rfl,e⟩
 .injection e with Z _;rw[Z]
 .exact nomatch e
 .exact nomatch e
 .exact nomatch e
 .injection e with Z _;rw[Z]
 .exact nomatch e
 .exact nomatch e
 .exact nomatch e
 .rfl
def ET{k:X5}{a:Addr}(h:XJ k (.ref a)):False:=by
 rcases JH h with⟨i,t,_,e⟩|⟨x,t,_,e⟩|⟨_,e⟩ <;> exact nomatch e
theorem Mf{h:Heap}:∀{n:Nat}{x y:DK n}{v:Value},isQ h n x v->isQ h n y v->x=y
 |0,_,_,_,hx,hy=>EU hx hy
 |_+1,.inl _,.inl _,_,hx,hy=>congrArg Sum.inl<|EU hx hy
 |_+1,.inl _,.inr _,_,hx,⟨a,_,_,_,e,_⟩=>by subst e;exact(ET hx).elim
 |_+1,.inr _,.inl _,_,⟨a,_,_,_,e,_⟩,hy=>by subst e;exact(ET hy).elim
 |n+1,.inr xs,.inr ys,v,⟨a,o,it,m,e,ho,_,hd,hp⟩,⟨a',o',it',m',e',ho',_,hd',hp'⟩=>by
  subst e;cases e';rw[ho]at ho';cases ho';rw[hd]at hd';injection hd' with G _;subst G;refine congrArg Sum.inr ?_;generalize it.toList=vs at hp hp';clear hd ho
  induction hp generalizing ys with
  |nil=>cases hp';rfl
  |cons r t ih=>
   cases hp' with
   |cons J Z=>rw[Mf r J,ih _ Z]
theorem RO{h M:Heap}{d:Addr}{o:Obj}{N:Array DictEntry}{O:Nat}(Z:h.get? d=some o)(L:o.data=.dict N O)(G:Heap.SameBut d h M):∀{n:Nat}{k:DK n}{v:Value},isQ h n k v->isQ M n k v
 |0,_,_,hx=>hx
 |_+1,.inl _,_,hx=>hx
 |n+1,.inr ks,v,⟨a,oa,it,m,e,ha,hc,hda,hp⟩=>by
  have J:a≠d:=by
   rintro rfl;rw[ha]at Z;cases Z;rw[L]at hda;exact nomatch hda
  exact⟨a,oa,it,m,e,(G.2 a J).trans ha,hc,hda,Paired.mapP hp λ_ _ z=>RO Z L G z⟩
theorem LX:∀{n:Nat}{k:DK n}{A:Around}{E:kh}{s:Shared}{v:Value}{Q:Int->Shared->Prop},A.units+n<=cLine->isQ s.heap n k v->Q (Xt w n k) {s with toks:=s.toks+Te n k}->wpAny (model prog w) A (pyHash v) Q E s
 |0,_,_,_,_,_,_,_,hk,h=>Nd hk h
 |_+1,.inl _,_,_,_,_,_,_,hk,h=>Nd hk h
 |n+1,.inr ks,A,E,s,v,Q,hu,⟨a,o,items,m,e,ho,hc,hd,hi⟩,h=>by
  subst e;have G:s.TypeIs (.ref a) "tuple":=⟨o,ho,hc⟩;unfold pyHash
  first|unfold pyHashByItsType|skip
  first|refine Zl (wpAny_cRoomFor_or (.inr<|by omega) ?_)|skip
  refine Zl<|jc G PySem.F.slot_tuple_hash.lookup ?_;show wpAny _ _ (if(some (Value.builtin "tuple.__hash__")==some Value.none)=true then _ else _) Q E s;rw[Zq (by rw[beq_builtin_none];exact Zi)];refine Zl<|jc G PySem.F.slot_tuple_hash.lookup ?_;show wpAny _ _ (callSpecialIfBoundUnlessNone? (.ref a) "__hash__" _ >>=_) Q E s;refine Zl<|wpAny_callSpecialIfBoundUnlessNone?_slot G PySem.F.slot_tuple_hash<|y0 PySem.F.slot_tuple_hash G PySem.F.entry_tuple_hash ?_<|PySem.F.args_tuple_hash_1 _;show wpAny _ _ (Builtin.Tuple.tupleItemsOf (.ref a) >>=_) _ _ s;refine Zl<|wpAny_tupleItemsOf ho hd ?_;refine Zl ?_;rw[<-js];refine wpAny_forIn_list _
   (λrest (b:Array Int) L=>∃done left,ks=done++ left/\Paired (isQ s.heap n) left rest/\b.toList=done.map (Xt w n)/\L={s with toks:=s.toks+(done.map<|Te n).sum})
   _ ?_ ?_ _ _ ⟨[],ks,rfl,hi,rfl,rfl⟩
  .rintro x rest b L ⟨done,left,rfl,hl,hb,rfl⟩
   cases hl with
   | @cons k _ Z _ M J=>
    refine Zl (LX (n:=n) (k:=k) (by show A.units+1+n<=cLine;omega) M ?_)
    first
     |exact Zm ⟨done++[k],Z,by simp,J,by simp[hb],by simp[j5]⟩
     |exact Zl<|Zm<|Zm ⟨done++[k],Z,by simp,J,by simp[hb],by simp[j5]⟩
  .rintro b L ⟨done,left,rfl,hl,hb,rfl⟩
   cases hl;rw[yu]at h;show wpAny _ _ (retInt<|Builtin.Tuple.tupleHashOf b.toList) _ _ _;rw[hb];refine wpAny_ret_mkInt ?_;show wpAny _ _ (if(decide (-(2:Int) ^ 63<=Builtin.Tuple.tupleHashOf (done.map<|Xt w n)) && decide (Builtin.Tuple.tupleHashOf (done.map<|Xt w n)<2 ^ 63))=true then _ else _) Q E _;replace h:Q (reduceHash<|Builtin.Tuple.tupleHashOf<|done.map<|Xt w n) {s with toks:=s.toks+((done.map<|Te n).sum+1)}:=h;unfold reduceHash at h
   by_cases hr:(decide (-(2:Int) ^ 63<=Builtin.Tuple.tupleHashOf (done.map<|Xt w n)) && decide (Builtin.Tuple.tupleHashOf (done.map<|Xt w n)<2 ^ 63))=true
   .rw [Zp hr]
    rw[Zp hr]at h;exact Zm<|by simpa[j5]using h
   .rw [Zq hr]
    rw[Zq hr]at h;exact Zl<|jf<|Zm<|by simpa[j5]using h
theorem EH:∀{n m:Nat}{k:DK n}{A:Around}{E:kh}{s:Shared}{v:Value}{Q:Bool->Shared->Prop},n<=m->isQ s.heap n k v->Q true s->wpAny (model prog w) A (eqIsQuiet m v) Q E s
 |0,m,_,_,_,_,v,_,_,hk,h=>by
  rw[eqIsQuiet_byValue m (by rcases JH hk with⟨i,t,_,rfl⟩|⟨x,t,_,rfl⟩|⟨_,rfl⟩ <;> rfl)];exact Zm h
 |_+1,m,.inl _,_,_,_,v,_,_,hk,h=>by
  rw[eqIsQuiet_byValue m (by rcases JH hk with⟨i,t,_,rfl⟩|⟨x,t,_,rfl⟩|⟨_,rfl⟩ <;> rfl)];exact Zm h
 |n+1,0,.inr _,_,_,_,_,_,hm,_,_=>Zr hm<|Nat.not_succ_le_zero _
 |n+1,m+1,.inr ks,A,E,s,v,Q,hm,⟨a,o,items,c,e,ho,hc,hd,hi⟩,h=>by
  subst e;have L:s.TypeIs (.ref a) "tuple":=⟨o,ho,hc⟩;unfold eqIsQuiet;refine Zl<|jc L PySem.F.slot_tuple_eq.lookup ?_;show wpAny _ _ (isInstance (.ref a) (.type "tuple") >>=_) _ _ s;refine Zl<|jo L isSubtype_tuple_tuple ?_;simp only[j6,vH,if_false];refine Zl<|vd ho hd ?_;refine Zl ?_;show wpAny _ _ (forIn items _ _) _ _ s;rw[<-js];refine wpAny_forIn_list _ (λrest r Z=>r.1=none/\Z=s/\∃left,Paired (isQ s.heap n) left rest) _ ?_ ?_ _ _ ⟨Y,Y,ks,hi⟩
  .rintro v rest r Z ⟨hr,rfl,left,hl⟩
   cases hl with
   | @cons k _ J _ M G=>
    refine Zl<|EH (n:=n) (m:=m) (k:=k) (Nat.le_of_succ_le_succ hm) M ?_;simp only[j6,vH,if_false];exact Zm ⟨Y,Y,J,G⟩
  .rintro ⟨r1,r2⟩ Z ⟨hr,rfl,_⟩
   simp only at hr;subst hr;exact Zm h
theorem C6:∀{n:Nat}{x y:DK n}{A:Around}{E:kh}{s:Shared}{u v:Value}{Q:Bool->Shared->Prop}{r:Bool},A.units+n<=cLine->isQ s.heap n x u->isQ s.heap n y v->(r=true↔x=y)->Q r s->wpAny (model prog w) A (eqBool u v) Q E s
 |0,x,y,_,_,_,_,_,_,r,_,hx,hy,Z,h=>by
  have P:∀(x y:X5),(r=true↔x=y)->decide (x=y)=r:=λx y Z=>by
   cases r with
   |true=>exact decide_eq_true<|Z.mp rfl
   |false=>exact Zy λz=>Zi<|Z.mpr z
  refine Lp hx hy ?_;rw[P x y Z];exact h
 |n+1,.inl x,.inl y,_,_,_,_,_,_,r,_,hx,hy,Z,h=>by
  refine Lp hx hy ?_
  have e:decide (x=y)=r:=by
   cases r with
   |true=>exact decide_eq_true<|Sum.inl.inj<|Z.mp rfl
   |false=>exact Zy λz=>Zi<|Z.mpr<|congrArg Sum.inl z
  rw[e];exact h
 |n+1,.inl x,.inr ys,A,E,s,u,v,Q,r,hu,hx,⟨a,o,it,m,e,ho,hc,hd,_⟩,Z,h=>by
  subst e;have F:r=false:=qf.mpr λz=>nomatch Z.mp z
  subst F;have L:s.heap.IsTuple a it:=⟨o,ho,hc,m,hd⟩;rcases JH hx with⟨i,t,_,rfl⟩|⟨z,t,_,rfl⟩|⟨_,rfl⟩
  .exact SeqAt.EqAt.int_tuple i t L (by omega) _ _ _ _ h
  .exact SeqAt.EqAt.str_tuple z t L (by omega) _ _ _ _ h
  .exact SeqAt.EqAt.none_tuple L (by omega) _ _ _ _ h
 |n+1,.inr xs,.inl y,A,E,s,u,v,Q,r,hu,⟨a,o,it,m,e,ho,hc,hd,_⟩,hy,Z,h=>by
  subst e;have F:r=false:=qf.mpr λz=>nomatch Z.mp z
  subst F;have L:s.heap.IsTuple a it:=⟨o,ho,hc,m,hd⟩;rcases JH hy with⟨i,t,_,rfl⟩|⟨z,t,_,rfl⟩|⟨_,rfl⟩
  .exact SeqAt.EqAt.tuple_int i t L (by omega) _ _ _ _ h
  .exact SeqAt.EqAt.tuple_str z t L (by omega) _ _ _ _ h
  .exact SeqAt.EqAt.tuple_none L (by omega) _ _ _ _ h
 |n+1,.inr x,.inr y,A,E,s,u,v,Q,r,hu,⟨a,oa,xs,na,e,hoa,hca,hda,hia⟩,⟨b,ob,ys,nb,e',hob,hcb,hdb,hib⟩,hr0,h=>by
  subst e;subst e';have S:s.TypeIs (.ref a) "tuple":=⟨oa,hoa,hca⟩;have I:s.TypeIs (.ref b) "tuple":=⟨ob,hob,hcb⟩
  have c:r=decide (x=y):=by
   cases r with
   |true=>exact(decide_eq_true<|Sum.inr.inj<|hr0.mp rfl).symm
   |false=>exact(Zy λz=>Zi<|hr0.mpr<|congrArg Sum.inr z).symm
  subst c;unfold eqBool
  try with_reducible refine wpAny_holding ?_
  show wpAny _ _ (if(Value.ref a==Value.ref b)=true then _ else _) Q E s
  by_cases hab:(Value.ref a==Value.ref b)=true
  .rw [Zp hab]
   have e:a=b:=by have:=eq_of_beq hab;injection this
   subst e;have q:(Sum.inr x:DK (n+1))=Sum.inr y:=Mf (h:=s.heap) (n:=n+1) (v:=.ref a) ⟨a,oa,xs,na,rfl,hoa,hca,hda,hia⟩ ⟨a,ob,ys,nb,rfl,hob,hcb,hdb,hib⟩;rw[decide_eq_true (Sum.inr.inj q)]at h;exact Zl<|jf<|Zm h
  .rw [Zq hab]
   refine Zl (wpAny_richCompare_same_room (op:=.Eq) S I PySem.F.slot_tuple_eq
    (y0 PySem.F.slot_tuple_eq S PySem.F.entry_tuple_eq ?_<|PySem.F.args_tuple_eq_2 _ _) (by omega))
   show wpAny _ _ (isInstance (.ref b) (.type "tuple") >>=_) _ _ s;refine Zl<|jo I isSubtype_tuple_tuple ?_;simp only[j6,vH,if_false];refine Zl<|wpAny_tupleItemsOf hoa hda ?_;refine Zl<|wpAny_tupleItemsOf hob hdb ?_;refine Zl ?_;refine wpAny_forIn_list _
    (λrest r X=>r.1=none/\X=s/\∃C U G J,rest=List.zip G J/\Paired (isQ s.heap n) C G/\Paired (isQ s.heap n) U J/\decide (C=U)=decide (x=y)/\(G.length==J.length)=(xs.size==ys.size))
    _ ?_ ?_ _ _ ⟨rfl,rfl,x,y,xs.toList,ys.toList,rfl,hia,hib,rfl,by simp⟩
   .rintro ⟨u,v⟩ rest r X ⟨Z,rfl,C,U,G,J,hz,hx',hy',hdec,hlen⟩
    cases hx' with
    |nil=>simp at hz
    | @cons g f R O p B=>
     cases hy' with
     |nil=>simp at hz
     | @cons j d N M k T=>
      simp only[vW,List.cons.injEq,Prod.mk.injEq]at hz;obtain⟨⟨rfl,rfl⟩,rfl⟩:=hz;refine Zl<|C6 (n:=n) (x:=g) (y:=j) (r:=decide<|g=j) (by show A.units+1+n<=cLine;omega) p k decide_eq_true_iff ?_
      by_cases hk:g=j
      .subst hk
       rw[decide_eq_true rfl];simp only[j6,vH,if_false];refine Zm ⟨Y,Y,R,N,O,M,Y,B,T,?_,by simpa using hlen⟩;rw[<-hdec]
       by_cases hxy:R=N
       .simp [hxy]
       .simp [hxy]
      .rw [Zy hk]
       simp only[Bool.not_false,if_true];have F:decide (x=y)=false:=by rw[<-hdec];simp[hk]
       rw[F]at h;exact Zl<|Zm<|Zm<|Zm ⟨_,rfl,(λe=>nomatch e),yq h⟩
   .rintro ⟨r1,r2⟩ X ⟨Z,rfl,C,U,G,J,hz,hx',hy',hdec,hlen⟩
    simp only at Z;subst Z;refine Zm ?_
    have D:(xs.size==ys.size)=decide (x=y):=by
     rw[<-hdec,<-hlen]
     cases hx' with
     |nil=>
      cases hy' with
      |nil=>simp
      |cons _ _=>simp
     |cons _ _=>
      cases hy' with
      |nil=>simp
      |cons _ _=>simp at hz
    rw[<-D]at h;exact⟨_,Y,(λe=>nomatch e),yq h⟩
def Xz(prog:Program)(w:World)(n:Nat)(hn:n+1<=8):HeapKind prog w (List<|DK n) where
 is:=λh Z a=>isQ h (n+1) (.inr Z) (.ref a)
 hash:=λZ=>Xt w (n+1) (.inr Z)
 draws:=λZ=>Te (n+1) (.inr Z)
 room:=λA=>A.units+(n+1)<=cLine
 inj:=λG J=>Sum.inr.inj (Mf G J)
 keeps:=λx O R N=>RO O R N x
 pyHash:=λL M h=>LX L M h
 eqBool:=λ{A E s x y a b Q} L G J h=>C6 (r:=decide<|x=y) L G J ⟨λz=>congrArg Sum.inr<|Zt z,λz=>decide_eq_true<|Sum.inr.inj z⟩ h
 quiet:=λM h=>EH hn M h
end
def knD:X5->Dat
 |none=>.non
 |some (.inl i)=>.int i
 |some (.inr x)=>.str x
def dkD:(n:Nat)->DK n->Dat
 |0,k=>knD k
 |_+1,.inl k=>knD k
 |n+1,.inr ks=>.tup<|ks.map<|dkD n
theorem LL{x:V}{v:Value}:∀{k:X5},Has H x (knD k)->RelV x v->XJ k v
 |none,h,r=>by
  unfold knD Has at h;subst h;exact(show v=Value.none from r)
 |some (.inl i),h,r=>by
  unfold knD Has at h;subst h;obtain⟨t,e⟩:=(show ∃t,v=Value.int i t from r);subst e;exact RL i t
 |some (.inr z),h,r=>by
  unfold knD Has at h;subst h;obtain⟨t,e⟩:=(show ∃t,v=Value.str z t from r);subst e;exact Wb z t
theorem TQ(M:HOk P w H h):∀{n:Nat}{k:DK n}{x:V}{v:Value},Has H x (dkD n k)->RelV x v->isQ h n k v
 |0,_,_,_,hk,r=>LL hk r
 |_+1,.inl _,_,_,hk,r=>LL hk r
 |n+1,.inr J,x,v,hk,r=>by
  have L:Has H x (.tup<|J.map<|dkD n):=hk;unfold Has at L;obtain⟨a,B,rfl,R,Z⟩:=L;cases(show v=Value.ref a from r);obtain⟨T,G,D,o,N,_,F,m,O⟩:=(show VL P w H h a (.tup B)from M a _ R);clear T;exists a,o,G.toArray,m,Y,N,F,O;show Paired (isQ h n) J G.toArray.toList;rw[List.toList_toArray];clear N O R r hk
  induction D generalizing J with
  |nil=>
   cases J with
   |nil=>exact .nil
   |cons k J=>unfold List.map HasL at Z;exact Z.elim
  |cons E t ih=>
   cases J with
   |nil=>unfold List.map HasL at Z;exact Z.elim
   |cons k J=>
    rw[ZV]at Z;unfold HasL at Z;exact .cons (TQ M Z.1 E)<|ih _ Z.2
abbrev DE(n:Nat):=List (DK n)×Addr×V
def keD{n:Nat}(k:List (DK n)):Dat:=.tup<|k.map<|dkD n
def KDp{n:Nat}(kvs:List (DE n))(xs:List (List (DK n)×Addr×Value)):Prop:=Paired (λ(p:DE n)(q:List (DK n)×Addr×Value)=>p.1=q.1/\p.2.1=q.2.1/\RelV p.2.2 q.2.2) kvs xs
def ddO(P:Program)(w:World)(n:Nat)(hn:n+1<=8)(a:Addr)(kvs:List (DE n)):HO:=.ext λh=>kvs.length<=sizeLine/\(a==sysModules)=false/\∃Z:List (List (DK n)×Addr×Value),KDp kvs Z/\
 ∃(o:Obj)(J:Array DictEntry)(G:Nat),h.get? a=some o/\o.ExactDict/\o.data=.dict J G/\J.toList=Z.map (entryOfKey<|Xz P w n hn)/\(Z.map (·.1)).Nodup
def KOk{n:Nat}(H:Hp)(kvs:List (DE n)):Prop:=∀p∈kvs,Has H (.ref p.2.1)<|keD p.1
def Rk{n:Nat}(kvs:List (DE n))(k:List (DK n)):kL:=(kvs.find? λp=>decide<|p.1=k).map (·.2.2)
def putD{n:Nat}(kvs:List (DE n))(k:List (DK n))(b:Addr)(v:V):List (DE n):=if(Rk kvs k).isSome then kvs.map (λp=>if p.1=k then(p.1,p.2.1,v)else p)else kvs++[(k,b,v)]
def KDp.val{n:Nat}{Z:List (DE n)}{J}(r:KDp Z J)(k:List (DK n)):UY (Rk Z k) ((atKey J k).map (·.2)):=by
 induction r with
 |nil=>exact True.intro
 | @cons p q N M h t ih=>
  obtain⟨G,O,L⟩:=h;unfold Rk atKey at ih |-;rw[vc,vc]
  by_cases e:p.1=k
  .rw [decide_eq_true e,decide_eq_true (G.symm.trans e)];exact L
  .rw [Zy e,Zy λz=>e (G.trans z)];exact ih
def KDp.put{n:Nat}{Z:List (DE n)}{J}(r:KDp Z J)(k:List (DK n))(b:Addr)(L:RelV y u):KDp (putD Z k b y) (storedH J k b u):=by
 have e:(Rk Z k).isSome=(atKey J k).isSome:=by
  rw[(r.val k).isSome_eq,vZ]
 unfold putD storedH;rw[e]
 by_cases q:(atKey J k).isSome=true
 .rw [Zp q,Zp q]
  clear e q
  induction r with
  |nil=>exact .nil
  | @cons p q R O h t ih=>
   rw[ZV,ZV];refine .cons ?_ ih;obtain⟨G,M,N⟩:=h;unfold putAt
   by_cases e:p.1=k
   .rw [Zp e,Zp (G.symm.trans e)];exact⟨G,M,L⟩
   .rw [Zq e,Zq (λz=>e<|G.trans z)];exact⟨G,M,N⟩
 .rw [Zq q,Zq q];exact Paired.snoc r ⟨Y,Y,L⟩
def KJ{n:Nat}(Z:List (DE n))(k:List (DK n))(b:Addr)(v:V):(putD Z k b v).length<=Z.length+1:=by
 unfold putD
 split
 .rw [ZA];exact jP _
 .rw [ZL];exact ZG _
def KOk.put{n:Nat}{Z:List (DE n)}{k:List (DK n)}{b:Addr}{v:V}(h:KOk H Z)(J:Has H (.ref b) (keD k)):KOk H (putD Z k b v):=λp m=>by
 unfold putD at m
 split at m
 .obtain ⟨q,hq,e⟩:=ZW.mp m
  subst e
  by_cases c:q.1=k
  .rw [Zp c];exact h q hq
  .rw [Zq c];exact h q hq
 .rcases ZX.mp m with m|m
  .exact h p m
  .rw [ZQ.mp m];exact J
section
variable{X:Cx}{n:Nat}{hn:n+1<=8}
def Ei{Z:List (DE n)}(L:HOk P w H h)(e:H a=some (ddO P w n hn a Z))(k:KOk H Z):Z.length<=sizeLine/\(a==sysModules)=false/\∃G,KDp Z G/\h.DictOfH (Xz P w n hn) a G:=by
 obtain⟨⟨z,y,G,r,o,A,I,D,B,T,N,M⟩,O⟩:=(show VL P w H h a (ddO P w n hn a Z)from L a _ e);refine⟨z,y,G,r,o,A,I,D,B,T,N,?_,M⟩;clear e N M O z
 induction r with
 |nil=>exact λx J=>nomatch J
 | @cons p q U S R t ih=>
  intro x J;rcases Zd.mp J with e|J
  .subst e
   obtain⟨F,E,_⟩:=R;have:=k p Za;rw[F,E]at this;exact TQ (n:=n+1) (k:=.inr x.1) L this Y
  .exact ih (λp m=>k p<|ZM _ m) x J
def DGd(P:Program)(w:World)(n:Nat)(hn:n+1<=8)(H:Hp)(a:Addr)(y:V)(r:kL):Prop:=∃(Z:List (DE n))(k:List (DK n))(b:Addr),H a=some (ddO P w n hn a Z)/\KOk H Z/\y=.ref b/\Has H (.ref b) (keD k)/\r=Rk Z k
def DPd(P:Program)(w:World)(n:Nat)(hn:n+1<=8)(H:Hp)(a:Addr)(y v:V)(H':Hp):Prop:=∃(Z:List (DE n))(k:List (DK n))(b:Addr),H a=some (ddO P w n hn a Z)/\KOk H Z/\y=.ref b/\Has H (.ref b) (keD k)/\Z.length<sizeLine/\H'=upd H a (ddO P w n hn a<|putD Z k b v)
def Bu{P:Program}{w:World}{A:Around}(Z:A.units+16<cLine):(Xz P w n hn).room A.in1:=by
 show A.units+1+(n+1)<=cLine;omega
def Dm(F:A.units+16<cLine)(I:Inv X Z U H s)(g:DGd X.prog X.w n hn H a y (some v))(R:RelV y u)(h:∀J N,Inv X Z U H N->RelV v J->Q J N):
  wpAny (model X.prog X.w) A (getItem (.ref a) u) Q E s:=by
 obtain⟨T,k,b,e,B,C,P,l⟩:=g;subst C;cases(show u=Value.ref b from R);obtain⟨z,q,O,L,j⟩:=Ei I.hok e B;obtain⟨J,D,G⟩:=UY.some_of (v:=v) (o:=(atKey O k).map (·.2)) (by rw[l];exact L.val k);obtain⟨p,S,M⟩:=Zj.mp D;refine wpAny_getItem_heap (Bu F) (TQ (n:=n+1) (k:=.inr k) I.hok P Y) j S ?_;rw[M];exact h J _ (I.tok _) G
def Lz(O:A.units+16<cLine)(I:Inv X Z U H s)(g:DGd X.prog X.w n hn H a y o)(L:RelV y u)(h:∀G,Inv X Z U H G->Q (.bool<|!o.isSome) G):
  wpAny (model X.prog X.w) A (compareOp .NotIn u<|.ref a) Q E s:=by
 obtain⟨M,k,b,e,N,T,B,l⟩:=g;subst T;cases(show u=Value.ref b from L);obtain⟨z,R,F,J,D⟩:=Ei I.hok e N;refine wpAny_notIn_heap (Bu O) (TQ (n:=n+1) (k:=.inr k) I.hok B Y) R D ?_;have q:=(J.val k).isSome_eq;rw[vZ]at q;rw[<-q,<-l];exact h _<|I.tok _
def Qn{Z:List (DE n)}{G}(z:Z.length<=sizeLine)(D:(a==sysModules)=false)(r:KDp Z G)(d:h.DictOfH (Xz P w n hn) a G):VL P w H h a (ddO P w n hn a Z):=by
 obtain⟨o,Q,j,R,S,A,F,_,E⟩:=d;refine⟨⟨z,D,G,r,o,Q,j,R,S,A,F,E⟩,⟨o,R⟩,λU I q k=>?_⟩;obtain⟨T,L,J,B,O,M,N,C,g⟩:=q;exact⟨T,L,J,B,O,M,N,k O C,g⟩
def Dl(D:A.units+16<cLine)(I:Inv X J U H s)(g:DPd X.prog X.w n hn H a y v c)(O:RelV y u)(R:RelV v r)(h:∀M,Inv X J U c M->Q () M):
  wpAny (model X.prog X.w) A (setItem (.ref a) u r) Q E s:=by
 obtain⟨G,k,b,e,T,j,t,l,m⟩:=g;subst j m;cases(show u=Value.ref b from O);obtain⟨z,P,N,Z,p⟩:=Ei I.hok e T;have B:N.length<=sizeLine:=by rw[<-Paired.length Z];exact z
 have C:(putD G k b v).length<=sizeLine:=by have:=KJ G k b v;omega
 refine wpAny_setItem_heap (hsz:=B) (Bu D) (TQ (n:=n+1) (k:=.inr k) I.hok t Y) p λd L F=>h _ ?_;exact GS I (by rw[e];exact True.intro) F (let⟨q,_,_,S,_⟩:=L;⟨q,S⟩)<|Qn C P (Z.put k b R) L
def P9(I:Inv X Z U H s)(g:DGd X.prog X.w n hn H a y o):s.TypeIs (.ref a) "dict":=by
 obtain⟨J,k,b,e,G,_⟩:=g;obtain⟨_,_,M,_,L⟩:=Ei I.hok e G;exact L.typeIs
def Q7(P:Program)(w:World)(n:Nat)(hn:n+1<=8)(td ty:TE):TE:=λU H Q=>td U H λx J=>ty U J λy Z=>V6 x λa=>∃v,DGd P w n hn Z a y (some v)/\Q v Z
def IO(P:Program)(w:World)(n:Nat)(hn:n+1<=8)(ty td:TE):TE:=λU H Q=>ty U H λy J=>td U J λx Z=>V6 x λa=>∃o,DGd P w n hn Z a y o/\Q (.bl<|!o.isSome) Z
def Sa(P:Program)(w:World)(n:Nat)(hn:n+1<=8)(td ty tv:TE):TS:=λD U H=>tv U H λv L=>td U L λx G=>ty U G λy J=>V6 x λa=>∃Z,DPd P w n hn J a y v Z/\D.nx U Z
def Q6(P:Program)(w:World)(n:Nat)(hn:n+1<=8):TE:=λU H Q=>∀a,H a=none->Q (.ref a) (upd H a<|ddO P w n hn a [])
def KU(T:X.A.units+16<cLine)(D:PE X o td)(E:PE X i ty)(B:QH i):PE X (.Subscript o i pos) (Q7 X.prog X.w n hn td ty):=by
 intro Z s U H Q I h;refine Ro PySem.F.slot_dict_getitem.lookup B<|thn (D Z s U H _ I h) λu M ⟨x,P,S,O,R⟩=>thn (E Z M U P _ S R) λt q ⟨y,C,L,N,J⟩=>?_;replace J:=V6.old J;obtain⟨a,F,v,g,J⟩:=J;subst F;obtain rfl:u=Value.ref a:=O;exact⟨P9 L g,Dm T L g N λj z A G=>⟨v,C,A,G,J⟩⟩
def Bz(R:X.A.units+16<cLine)(B:PE X i ty)(T:PE X o td):PC X .NotIn i o (IO X.prog X.w n hn ty td):=by
 intro Z s U H Q I h;refine thn (B Z s U H _ I h) λz G ⟨y,C,A,L,N⟩=>thn (T Z G U C _ A N) λu j ⟨x,S,F,M,J⟩=>?_;replace J:=V6.old J;obtain⟨a,D,O,g,J⟩:=J;subst D;obtain rfl:u=Value.ref a:=M;exact Lz R F g L λP E=>⟨.bl<|!O.isSome,S,E,rfl,J⟩
def KM(E:X.A.units+16<cLine)(A:PE X o td)(S:PE X i ty)(B:PE X value tv)(F:swapsWith value (some<|.Subscript o i pos') pos.line X.env=pure false):
  PS X (.Assign [.Subscript o i pos'] value pos) (Sa X.prog X.w n hn td ty tv):=by
 intro Z s U H D I h;refine wpAny_Assign_Subscript (thn (B Z s U H _ I h) λr L ⟨v,m,z,O,T⟩=>thn (A Z L U m _ z T) λu G ⟨x,t,j,N,R⟩=>thn (S Z G U t _ j R) λc p ⟨y,d,Q,M,J⟩=>?_) F;replace J:=V6.old J;obtain⟨a,C,q,g,J⟩:=J;subst C;obtain rfl:u=Value.ref a:=N;exact Dl E Q g M O λk P=>⟨U,q,P,J⟩
def L0{P:Program}{w:World}(h:Heap)(Z:sysModules<h.objs.size):VL P w H (h.push {cls:=.type "dict",data:=.dict #[]}) h.objs.size (ddO P w n hn h.objs.size []):=by
 refine Qn (Zc _) (beq_eq_false_iff_ne.mpr<|vt Z) .nil ⟨_,#[],_,ZY _ rfl,?_,rfl,rfl,(λx m=>nomatch m),vN⟩;exact⟨Y,Y,Y⟩
def KS:PE X (.Dict [] [] pos) (Q6 X.prog X.w n hn):=λZ s U H Q I h=>
 wpAny_Dict_empty ⟨.ref s.heap.objs.size,_,I.laid (a:=s.heap.objs.size) (o:=ddO X.prog X.w n hn s.heap.objs.size []) (t':=s.toks) (λ_ _ q=>ZE _ q) (ZG _)<|L0 s.heap I.big,rfl,h _<|I.hok.fresh<|ZG _⟩
def yN(Z:Vo k A):A.units+16<cLine:=by have:=Z.un;omega
end
end L2
namespace L2
open PySem
inductive Tg where
 |tag (t:Str)|cell (n:Nat)
def Tg.dat:Tg->Dat
 |.tag t=>.tup [.str "tag",.str t]
 |.cell n=>.tup [.str "cell",.int (n:Nat)]
def Tg.ti(x:Tg):x.dat.ti=true:=by cases x <;> simp[Tg.dat,Dat.ti,Dat.tis]
abbrev Mk1:=Nat×List Int
def hn1:1+1<=8:=by decide
def kyD(c:Mk1):List (DK 1):=[.inl (some<|.inl (c.1:Int)),.inr (c.2.map λi=>some<|.inl i)]
theorem EQ:∀Z:kB,List.map (dkD 0) (Z.map λi=>(some (.inl i):X5))=Z.map Dat.int
 |[]=>rfl
 |w::Z=>congrArg (Dat.int w:: ·)<|EQ Z
def GE(c:Mk1):keD (kyD c)=.tup [.int (c.1:Nat),JD c.2]:=congrArg (λz=>Dat.tup [Dat.int (c.1:Nat),Dat.tup z])<|EQ c.2
def ES{a b:Mk1}(h:kyD a=kyD b):a=b:=by
 obtain⟨G,O⟩:=a;obtain⟨J,N⟩:=b;unfold kyD at h;have Z:=List.cons.inj h;have L:=(List.cons.inj Z.2).1;have R:(G:Int)=J:=Sum.inl.inj<|ZT<|Sum.inl.inj Z.1;have M:O=N:=(List.map_inj_right λi j z=>Sum.inl.inj<|ZT z).mp<|Sum.inr.inj L;rw[show G=J by omega,M]
def QE(bs:kM)(c:Mk1):Dat:=.tup [bs.getD c.1 (.tup []),JD c.2]
def Vx(cs:List Mk1):kM:=cs.foldl (λZ c=>Z++[QE Z c]) [.tup []]
def UF:Vx (cs++[c])=Vx cs++[QE (Vx cs) c]:=by unfold Vx;rw[jy];rfl
theorem Ul:∀(n:Nat)(Z:List Mk1),Z.length=n->(Vx Z).length=n+1/\∀d∈Vx Z,d.ti=true
 |0,Z,h=>by
  obtain rfl:=vj h;refine⟨Y,λd G=>?_⟩;have:d=.tup []:=ZQ.mp G;subst this;simp[Dat.ti,Dat.tis]
 |n+1,Z,h=>by
  have J:Z≠[]:=λz=>by rw[z]at h;cases h
  rw[<-yw J,UF];obtain⟨M,L⟩:=Ul n Z.dropLast (by rw[jQ,h];rfl);refine⟨by rw[ZL,M];rfl,λd G=>?_⟩;rcases ZX.mp G with q|q
  .exact L d q
  .rw [ZQ]at q
   subst q
   have:((Vx Z.dropLast)[(Z.getLast J).1]?.getD<|.tup []).ti=true:=by
    cases e:(Vx Z.dropLast)[(Z.getLast J).1]? with
    |none=>simp[Dat.ti,Dat.tis]
    |some x=>exact L x<|ZJ e
   simp[QE,Dat.ti,Dat.tis,this,X7]
def J4(Z:List Mk1):(Vx Z).length=Z.length+1:=(Ul _ Z rfl).1
def J3(Z:List Mk1):Dat.tis (Vx Z)=true:=W0 (Ul _ Z rfl).2
abbrev Rho:=Str->Option Tg
def KnR(A:GA)(H:Hp)(a:Addr)(ρ:Rho)(m:Nat):Prop:=a≠A.st/\∃Z,H a=some (.dK Z)/\Z.length<=m/\∀x J,ρ x=some J->∃v,VC Z (Sum.inr x)=some v/\Has H v J.dat
structure Sta where
 f:Str
 pl:List Int
 ρ:Rho
def Mw(kvs:List (DE 1))(cs:List Mk1):Prop:=kvs.length=cs.length/\∀(k:Nat) p,kvs[k]?=some p->∃c,cs[k]?=some c/\p.1=kyD c/\p.2.2=.int ((k+1:Nat):Int)
def Mw.no(h:Mw Z cs)(n:c∉cs):Rk Z (kyD c)=none:=by
 unfold Rk;rw[jr.mpr ?_]
 .rfl
 intro p J z;obtain⟨k,G⟩:=ym.mp J;obtain⟨N,M,L,_⟩:=h.2 k p G;have e:N=c:=ES<|L.symm.trans<|Zt z;subst e;exact n<|ZJ M
def Mw.at(h:Mw Z cs)(M:cs.Nodup)(L:cs[k]?=some c):Rk Z (kyD c)=some (.int ((k+1:Nat):Int)):=by
 have G:=(ZF.mp L).1;have J:k<Z.length:=by rw[h.1];exact G
 obtain⟨X,O,A,C⟩:=h.2 k _<|ZD J;rw[L]at O;cases O;unfold Rk
 cases e:Z.find? λp=>decide (p.1=kyD c)with
 |none=>
  have:=jr.mp e _<|List.getElem_mem J;exact Zr (decide_eq_true A) this
 |some p=>
  have E:=yp e;have D:p.1=kyD c:=by have:=List.find?_some (p:=λp:DE 1=>decide<|p.1=kyD c) e;exact Zt this
  obtain⟨j,F⟩:=ym.mp E;obtain⟨U,R,S,I⟩:=h.2 j p F;have:U=c:=ES<|S.symm.trans D;subst this;have N:=(ZF.mp R).1
  have:j=k:=by
   have B:=(ZF.mp R).2;have T:=(ZF.mp L).2;rcases qg j k with q|q|q
   .exact Zr (B.trans T.symm) (ve.mp M j k N G q)
   .exact q
   .exact Zr (T.trans B.symm) (ve.mp M k j G N q)
  subst this;rw[show(some p).map (·.2.2)=some p.2.2 from rfl,I]
def Mw.snoc(h:Mw Z cs)(n:c∉cs):Mw (putD Z (kyD c) b<|.int ((cs.length+1:Nat):Int)) (cs++[c]):=by
 unfold putD;rw[h.no n];rw[Zq (by simp)];refine⟨by rw[ZL,ZL,h.1];rfl,λk p J=>?_⟩;rcases ja k Z.length with q|q
 .rw [yi q]at J
  obtain⟨M,L,G⟩:=h.2 k p J;exact⟨M,by rw[yi (by rw[<-h.1];exact q)];exact L,G⟩
 .have kl:=(ZF.mp J).1
  rw[ZL,yg]at kl;have:k=Z.length:=by omega
  subst this;rw[yh (ZG _),yr]at J;cases J;exact⟨c,by rw[h.1,yh<|ZG _,yr];rfl,Y,by rw[h.1]⟩
def FrG(A:GA)(H H':Hp):Prop:=∀b o,b≠A.bs->b≠A.nu->b≠A.st->H b=some o->H' b=some o
def FrG.refl(A:GA)(H:Hp):FrG A H H:=λb o _ _ _ h=>h
def FrG.trans(a:FrG A H M)(b:FrG A M L):FrG A H L:=λc o G J Z e=>b c o G J Z<|a c o G J Z e
def FrG.of(s:Same H Z):FrG A H Z:=λb o _ _ _ h=>s _ _ h
def U1(sts:Nat->Option Sta)(m:Nat):Nat:=((List.range<|m+1).filter λk=>(sts k).isSome).length
def Wg:U1 sts (m+1)=U1 sts m+if(sts<|m+1).isSome then 1 else 0:=by
 unfold U1;rw[List.range_succ,List.filter_append,ZL]
 congr 1
 cases e:(sts<|m+1).isSome <;> simp[e]
def El:∀m,U1 sts m<=m+1:=λm=>by
 unfold U1;exact Zb (List.length_filter_le _ _) (by rw[qd];exact ZG _)
def Ff(h:m<=m'):U1 sts m<=U1 sts m':=by
 induction h with
 |refl=>exact ZG _
 |step _ ih=>rw[Wg];omega
def stP(sts:Nat->Option Sta)(k:Nat)(s:Sta):Nat->Option Sta:=λn=>if n=k then some s else sts n
def L7(h:(sts k).isSome=true):U1 (stP sts k s) m=U1 sts m:=by
 unfold U1
 congr 1
 refine List.filter_congr λj _=>?_;unfold stP
 by_cases z:j=k
 .rw [Zp z,z,h];rfl
 .rw [Zq z]
theorem Nt(h:sts k=none):∀m,k<=m->U1 (stP sts k s) m=U1 sts m+1
 |0,hk=>by
  obtain rfl:k=0:=by omega
  simp[U1,stP,h]
 |m+1,hk=>by
  rw[Wg,Wg]
  by_cases z:k=m+1
  .subst z
   have J:∀Z,Z<m+1->U1 (stP sts (m+1) s) Z=U1 sts Z:=λZ L=>by
    unfold U1
    congr 1
    refine List.filter_congr λj G=>?_;unfold stP;rw[Zq (by have:=vL.mp G;omega)]
   rw[J m (by omega),h];simp[stP]
  .rw [Nt h m (by omega)]
   rw[show(stP sts k s<|m+1)=sts (m+1) by unfold stP;rw[Zq (by omega)]];omega
structure GG(P:Program)(w:World)(H:Hp)(CG:Addr)(A:GA)(cs:List Mk1)(sts:Nat->Option Sta)(av:Addr->Prop):Prop where
 ins:H A.t=some (.ins CG A.dx (TU A))
 bs:∃xs,H A.bs=some (.lst xs)/\HasL H xs (Vx cs)
 nu:∃kvs,H A.nu=some (ddO P w 1 hn1 A.nu kvs)/\KOk H kvs/\Mw kvs cs
 nd:cs.Nodup
 st:∃kvs,H A.st=some (.dK kvs)/\kvs.length<=U1 sts cs.length/\∀n s,sts n=some s->∃t p kn,VC kvs (Sum.inl (n:Int))=some (.ref t)/\H t=some (.tup [.str s.f,.ref p,.ref kn])/\H p=some (.tup (s.pl.map V.int))/\KnR A H kn s.ρ (3+s.pl.length)/\ ¬av kn
def GG.tk(g:GG P w H CG A cs sts av)(f:FrG A H M):TK H M:=λa N h=>by
 obtain⟨O,L,_⟩:=g.bs;obtain⟨Z,G,_⟩:=g.nu;obtain⟨R,J,_⟩:=g.st;refine f a _ (λz=>?_) (λz=>?_) (λz=>?_) h
 .rw [z,L]at h;cases h
 .rw [z,G]at h;unfold ddO at h;cases h
 .rw [z,J]at h;cases h
def KnR.le(k:KnR A H a ρ m)(h:m<=m'):KnR A H a ρ m':=let⟨n,Z,L,J,G⟩:=k;⟨n,Z,L,Zb J h,G⟩
def KnR.fr(k:KnR A H a ρ m)(g:GG P w H CG A cs sts av)(f:FrG A H B):KnR A B a ρ m:=by
 obtain⟨n,J,Z,N,O⟩:=k;obtain⟨D,T,_⟩:=g.bs;obtain⟨E,R,_⟩:=g.nu;refine⟨n,J,f a _ (λz=>?_) (λz=>?_) n Z,N,λx G e=>let⟨v,M,L⟩:=O x G e;⟨v,M,VO (g.tk f) _ (Tg.ti G) L⟩⟩
 .rw [z,T]at Z;cases Z
 .rw [z,R]at Z;unfold ddO at Z;cases Z
def KnR.mono(k:KnR A H a ρ m)(s:Same H R):KnR A R a ρ m:=by
 obtain⟨n,Z,O,M,N⟩:=k;exact⟨n,Z,s _ _ O,M,λx L e=>let⟨v,G,J⟩:=N x L e;⟨v,G,J.mono s⟩⟩
def KOk.tk{Z:List (DE 1)}{L:List Mk1}(k:KOk H Z)(n:Mw Z L)(t:TK H M):KOk M Z:=λp m=>by
 obtain⟨j,J⟩:=ym.mp m;obtain⟨c,_,G,_⟩:=n.2 j p J;have:=k p m;rw[G,GE]at this |-;exact VO t _ (by simp[Dat.ti,Dat.tis,X7]) this
def GG.mono(g:GG P w H CG A cs sts av)(s:Same H X):GG P w X CG A cs sts av:=by
 obtain⟨J,C,U⟩:=g.bs;obtain⟨R,S,I,F⟩:=g.nu;obtain⟨Z,E,D,B⟩:=g.st;refine⟨s _ _ g.ins,⟨J,s _ _ C,U.mono s⟩,⟨R,s _ _ S,λp m=>(I p m).mono s,F⟩,g.nd,Z,s _ _ E,D,λn st e=>?_⟩;obtain⟨t,p,T,O,N,M,L,G⟩:=B n st e;exact⟨t,p,T,O,s _ _ N,s _ _ M,L.mono s,G⟩
def GG.avoid(g:GG P w H CG A cs sts av)(h:H l=none)(s:Same H F):GG P w F CG A cs sts (λa=>av a\/a=l):=by
 have E:=g.mono s;obtain⟨Z,D,B,T⟩:=g.st;refine{E with st:=⟨Z,s _ _ D,B,λn st e=>?_⟩};obtain⟨t,p,R,O,N,M,J,L⟩:=T n st e;refine⟨t,p,R,O,s _ _ N,s _ _ M,J.mono s,λz=>z.elim L λz=>?_⟩;obtain⟨_,I,G,_,_⟩:=J;rw[z,h]at G;cases G
def GG.less(g:GG P w H CG A cs sts av)(h:∀a,av' a->av a):GG P w H CG A cs sts av':=by
 obtain⟨Z,B,T,R⟩:=g.st;refine{g with st:=⟨Z,B,T,λn st e=>?_⟩};obtain⟨t,p,O,N,M,L,G,J⟩:=R n st e;exact⟨t,p,O,N,M,L,G,λz=>J<|h _ z⟩
def GG.wr(g:GG P w H CG A cs sts av)(J:H l=some (.dK o))(a:av l)(b:SameB l H T)(n:l≠A.st):GG P w T CG A cs sts av:=by
 obtain⟨B,M,r⟩:=g.bs;obtain⟨q,G,u,R⟩:=g.nu;obtain⟨L,f,d,c⟩:=g.st;have Z:TK H T:=λa i h=>b _ _ (λz=>by rw[z,J]at h;cases h) h;refine⟨b _ _ (λz=>by have:=g.ins;rw[z,J]at this;cases this) g.ins,⟨B,b _ _ (λz=>by rw[z,J]at M;cases M) M,JQ Z _ (J3 cs) r⟩,⟨q,b _ _ (λz=>by rw[z,J]at G;unfold ddO at G;cases G) G,u.tk R Z,R⟩,g.nd,L,b _ _ n.symm f,d,λk st e=>?_⟩;obtain⟨t,p,m,j,Q,X,C,N⟩:=c k st e;obtain⟨I,y,F,D,E⟩:=C;exact⟨t,p,m,j,Z _ _ Q,Z _ _ X,⟨I,y,b _ _ (λz=>N<|z ▸ a) F,D,λx O e=>let⟨v,U,S⟩:=E x O e;⟨v,U,VO Z _ (Tg.ti O) S⟩⟩,N⟩
def XO(cs:List Mk1)(c:Mk1)(n:Nat)(cs':List Mk1):Prop:=(∃k,cs[k]?=some c/\n=k+1/\cs'=cs)\/(c∉cs/\n=cs.length+1/\cs'=cs++[c])
def Uh:(ddO P w 1 hn1 a Z)≠.lst J:=by unfold ddO;intro z;cases z
def We:(ddO P w 1 hn1 a Z)≠.dK J:=by unfold ddO;intro z;cases z
def Ej:(ddO P w 1 hn1 a Z)≠.tup J:=by unfold ddO;intro z;cases z
def X0:(ddO P w 1 hn1 a Z)≠.ins C d J:=by unfold ddO;intro z;cases z
def Yv{H:Hp}{o p:HO}(h:H a=some o)(g:H b=some p)(n:o≠p):a≠b:=λz=>n (by rw[z,g]at h;exact(ZT h).symm)
end L2
namespace K4
open PySem L2
section
variable{C CK CG CO CW CD:Addr}
def Mm(A:GA):(TU A).lookup ("births":Str)=some (V.ref A.bs):=rfl
def Ml(A:GA):(TU A).lookup ("numbers":Str)=some (V.ref A.nu):=rfl
def zg:Yh ["self","maker","place"] ["self","maker","place"] (Yc Dh):=Y5
inductive SNA(P:Program)(w:World)(CG:Addr)(H:Hp)(Q:VK):List V->Prop
 |mk (A:GA) (cs:List Mk1) (sts:Nat->Option Sta) (av:Addr->Prop) (m:Nat) (pl:List Int) (p:Addr) (g:GG P w H CG A cs sts av) (hp:H p=some (.tup (pl.map V.int))) (hm:m<=cs.length) (lc:cs.length<=900)
  (q:∀n cs' H',XO cs (m,pl) n cs'->FrG A H H'->GG P w H' CG A cs' sts av->Q (.int (n:Nat)) H'):SNA P w CG H Q [.ref A.t,.int (m:Nat),.ref p]
def IW(P:Program)(w:World)(CG:Addr):Sp:=λZ H Q _=>SNA P w CG H Q Z
def CS(B:Blt mg)(TG:GCl K CG)(F:Fun K "number_at" "Ground.number_at" Dh f fd):Yf P w K mg base CX0 (n+1) f fd ["self","maker","place"] (IW P w CG):=by
 refine F.oi zg λT6 A R3 s H vs Q E hr h=>?_;obtain⟨R,S,R1,av,m,O,p,g,hp,hm,lc,q⟩:=h;have hu:=yN hr;refine⟨_,YY (Y1 (Jp<|Bz (n:=1) (hn:=hn1) hu (Yi<|pa2 (pv 1)<|pv 2)<|Yn (pv 0) rfl) (YY (KM (n:=1) (hn:=hn1) hu (Yn (pv 0) rfl) (Yi<|pa2 (pv 1)<|pv 2) (VA Y7 rfl B.len Zu (pa1<|Yn (pv 0) rfl)) rfl)
  (YZ<|VQ<|J1 Zz Z0 Z1 Vu (Yn (pv 0) rfl)<|pa1<|Yi<|pa2 (Yo VB (Yn (pv 0) rfl) (pv 1) λ_ _=>rfl)<|pv 2)) Yp)
  (YZ<|Ym<|KU (n:=1) (hn:=hn1) hu (Yn (pv 0) rfl) (Yi<|pa2 (pv 1)<|pv 2) λ_ _=>rfl),?_⟩
 dsimp only[Vf,Cx.nox,Cx.wish];show let T0:=_;let T1:=_;let T2:=Yk _ T1;Yk (VE _ T2 _) T0 _ _ _
 intros
 refine⟨sl 2,λt1 R6=>?_⟩;refine up_in R6 _ λH1 X g1=>?_;have M:=g.mono X;obtain⟨D,J2,l,T⟩:=M.nu
 have I:∀{Hx:Hp}{t:Addr},Hx t=some (.tup [.int (m:Nat),.ref p])->Hx p=some (.tup<|O.map V.int)->Has Hx (.ref t) (keD<|kyD (m,O)):=λh1 h2=>by
  rw[GE];exact Yu h1<|Z4 (by unfold Has;rfl)<|Z5<|JC h2
 exists CG,_,_,_,M.ins,TG.cl,TG.nu,Ml _,_,⟨D,kyD (m,O),t1,J2,l,Y,I g1<|X _ _ hp,rfl⟩,_,rfl
 by_cases hc:(m,O)∈S
 .obtain ⟨k,hk⟩:=ym.mp hc
  have ev:=T.at g.nd hk;refine Y0 (by rw[ev];simp) ?_;refine⟨CG,_,_,_,M.ins,TG.cl,TG.nu,Ml _,sl 2,λt2 x=>?_⟩;refine up_in x _ λH2 J g2=>?_;exists _,⟨D,kyD (m,O),t2,J _ _ J2,λp m=>(l p m).mono J,Y,I g2<|J _ _<|X _ _ hp,ev.symm⟩;exact q (k+1) S H2 (.inl ⟨k,hk,Y,Y⟩) (.of<|X.trans J)<|M.mono J
 .have ev:=T.no hc
  refine VH (by rw[ev];rfl) ?_;obtain⟨xs,j,i⟩:=M.bs;have lx:=i.length;rw[J4]at lx;refine⟨CG,_,_,_,M.ins,TG.cl,TG.bs,Mm _,R.bs,_,Y,.inl<|Z3 j,CG,_,_,_,M.ins,TG.cl,TG.nu,Ml _,sl 2,λt2 x=>?_⟩;refine up_in x _ λH2 J g2=>?_;have y:=M.mono J;have G:=J _ _ J2;have v:KOk H2 D:=λp m=>(l p m).mono J;refine⟨_,⟨D,kyD (m,O),t2,G,v,Y,I g2<|J _ _<|X _ _ hp,Yj (by rw[T.1];omega),rfl⟩,?_⟩;rw[lx];refine fld_in R.nu _ λH3 b3 g3=>?_;have bn:R.bs≠R.nu:=Yv (J _ _ j) G Uh.symm;have L:=b3 _ _ bn<|J _ _ j;have N:=b3 _ _ (Yv y.ins G X0.symm) y.ins;have O1:TK H2 H3:=λa ys h=>b3 _ _ (Yv h G Ej.symm) h;have L1:m<xs.length:=by omega
  refine⟨CG,_,_,_,N,TG.cl,TG.bs,Mm _,.inl ⟨Y,_,Z3 L⟩,CG,_,_,_,N,TG.cl,TG.bs,Mm _,_,_,Z3 L,VG<|ZD L1,sl 2,λt4 R5=>?_⟩;refine up_in R5 _ λH4 U g4=>?_;refine⟨R.bs,_,_,Y,Y,U _ _ L,Yj<|by omega,?_⟩;refine fld_in R.bs _ λH5 b5 g5=>?_;have G1:=JT b5<|U _ _ L;have Z:TK H2 H5:=λa ys h=>G1 _ _<|U _ _<|O1 _ _ h;have G2:=b5 _ _ bn.symm<|U _ _ g3;have r:=b5 _ _ (Yv (U _ _ N) (U _ _ L) (by intro z;cases z))<|U _ _ N;have fr:FrG R H H5:=λb o n1 n2 n3 e=>b5 _ _ n1<|U _ _<|b3 _ _ n2<|J _ _<|X _ _ e;have c:=T.snoc (b:=t2) hc
  have u:KOk H5 (putD D (kyD (m,O)) t2<|.int ((S.length+1:Nat):Int)):=(v.tk T Z).put (by
   rw[GE];have:=I g2<|J _ _<|X _ _ hp;rw[GE]at this;exact VO Z _ (by simp[Dat.ti,Dat.tis,X7]) this)
  have G3:(S++[(m,O)]).Nodup:=by
   rw[vx];exact⟨g.nd,by simp,λa ha b hb z=>by rw[ZQ]at hb;subst hb;subst z;exact hc ha⟩
  have R7:(S++[(m,O)])[S.length]?=some (m,O):=by rw[yh (ZG _),yr];rfl
  have T5:=c.at G3 R7
  have T3:GG P w H5 CG R (S++[(m,O)]) R1 av:=by
   exists r,⟨_,g5,?_⟩,⟨_,G2,u,c⟩,G3
   .rw [UF]
    obtain⟨d,M2,R8⟩:=i.get<|ZD L1;have e:(Vx S).getD m (.tup [])=d:=by rw[y9,M2];rfl
    refine Z7 (JQ Z _ (J3 S)<|i.mono J)<|Z5 ?_;have dt:d.ti=true:=(Ul _ S rfl).2 d<|ZJ M2;unfold QE;rw[show((m,O):Mk1).1=m from rfl,e];exact Yu (G1 _ _ g4)<|Z4 (VO Z _ dt<|R8.mono J)<|Z5<|JC<|Z _ _<|J _ _<|X _ _ hp
   .obtain ⟨ks,h6,h7,h8⟩:=y.st
    have sn:R.st≠R.nu:=Yv h6 G We.symm;have sb:R.st≠R.bs:=Yv h6 (J _ _ j) (by intro z;cases z);have T4:FrG R H2 H5:=λb o n1 n2 n3 e=>b5 _ _ n1<|U _ _<|b3 _ _ n2 e;refine⟨ks,b5 _ _ sb<|U _ _<|b3 _ _ sn h6,Zb h7 (Ff (by rw[ZL];exact vf _ _)),λn st e=>?_⟩;obtain⟨t,p',kn,u1,u2,u3,u4,u5⟩:=h8 n st e;exact⟨t,p',kn,u1,Z _ _ u2,Z _ _ u3,u4.fr y T4,u5⟩
  refine⟨CG,_,_,_,r,TG.cl,TG.nu,Ml _,sl 2,λt6 R4=>?_⟩;refine up_in R4 _ λH6 s6 g6=>?_;exists _,⟨_,kyD (m,O),t6,s6 _ _ G2,λp m=>(u p m).mono s6,Y,I g6<|s6 _ _<|Z _ _<|J _ _<|X _ _ hp,T5.symm⟩;exact q (S.length+1) _ H6 (.inr ⟨hc,Y,Y⟩) (fr.trans<|.of s6)<|T3.mono s6
end
end K4
namespace L2
open PySem
structure OM where
 t:Addr
 dx:Addr
 gr:Addr
 n:Nat
 F:Str
 pl:Addr
 kn:Addr
 bv:V
 wl:Addr
def Jj(A:OM):List (Str×V):=[("ground",.ref A.gr),("number",.int (A.n:Nat)),("f",.str A.F),("place",.ref A.pl),("known",.ref A.kn),("body",A.bv),("waiting",.ref A.wl)]
structure GM(H:Hp)(CO:Addr)(A:GA)(O:OM)(b:Bd):Prop where
 ins:H O.t=some (.ins CO O.dx (Jj O))
 bd:Has H O.bv b.dat
 ok:b.ok
 gr:O.gr=A.t
def GM.mono(g:GM H CO A O b)(s:Same H Z):GM Z CO A O b:=⟨s _ _ g.ins,g.bd.mono s,g.ok,g.gr⟩
def GG.ne(g:GG P w H CG A cs sts av)(h:H a=some o)(L:∀Z,o≠.lst Z)(G:∀Z,o≠.dK Z)(J:∀k,o≠ddO P w 1 hn1 A.nu k):a≠A.bs/\a≠A.nu/\a≠A.st:=by
 obtain⟨Z,R,_⟩:=g.bs;obtain⟨M,O,_⟩:=g.nu;obtain⟨T,N,_⟩:=g.st;exact⟨Yv h R<|L _,Yv h O<|J _,Yv h N<|G _⟩
def GM.fr(m:GM H CO A O b)(g:GG P w H CG A cs sts av)(f:FrG A H L):GM L CO A O b:=by
 obtain⟨G,J,Z⟩:=g.ne m.ins (λ_ z=>by cases z) (λ_ z=>by cases z) λ_=>X0.symm;exact⟨f _ _ G J Z m.ins,VO (g.tk f) _ (Bd.ti _) m.bd,m.ok,m.gr⟩
structure MX(P:Program)(w:World)(Hm H:Hp)(C CK CG:Addr)(A:GA)(ks:List (Str×Shp))(d:Str->Nat)(ds:List Dd)(cs:List Mk1)(sts:Nat->Option Sta)(av:Addr->Prop):Prop where
 sm:Same Hm H
 bi:BI Hm C CK A.bk ks d ds
 f1:Hm A.bs=none
 f2:Hm A.nu=none
 f3:Hm A.st=none
 gg:GG P w H CG A cs sts av
def MX.fr(m:MX P w L H C M CG A J d G cs sts av)(f:FrG A H Z)(g:GG P w Z CG A cs' sts' av):MX P w L Z C M CG A J d G cs' sts' av:=
 ⟨λb o e=>f b o (Yb e m.f1) (Yb e m.f2) (Yb e m.f3)<|m.sm _ _ e,m.bi,m.f1,m.f2,m.f3,g⟩
def MX.mono(m:MX P w G H C M CG A Z d J cs sts av)(s:Same H L):MX P w G L C M CG A Z d J cs sts av:=m.fr (.of s)<|m.gg.mono s
def N3{Z:Addr->Prop}(O:∀a,Z a->∃o,H a=some o)(f:FrG A H J)(g:GG P w J CG A cs sts av'):∀a,Z a->∃o,J a=some o:=λa h=>by
 obtain⟨o,e⟩:=O a h;obtain⟨R,N,_⟩:=g.bs;obtain⟨G,M,_⟩:=g.nu;obtain⟨T,L,_⟩:=g.st
 by_cases z1:a=A.bs
 .exact ⟨_,by rw[z1];exact N⟩
 by_cases z2:a=A.nu
 .exact ⟨_,by rw[z2];exact M⟩
 by_cases z3:a=A.st
 .exact ⟨_,by rw[z3];exact L⟩
 exact⟨o,f a o z1 z2 z3 e⟩
abbrev Ss:=List Mk1×(Nat->Option Sta)
inductive Thr(R:Nat->Ss->Tg->Ss->Prop):Nat->Ss->List Tg->Ss->Prop
 |nil:Thr R 0 s [] s
 |snoc (h:Thr R i s ths s1) (e:R i s1 th s2):Thr R (i+1) s (ths++[th]) s2
def J9(ns:ky)(ths:List Tg):Rho:=λx=>(ns.zip ths).lookup x
def G5(ds:List Dd)(f:Str)(ns:ky):Prop:=∃x∈ds,x.1.1=f/\ns=x.1.2.1.map (·.1)
def MCp(ds:List Dd)(F:Str)(ρ:Rho)(R:Nat->Ss->Tg->Ss->Prop)(c:Bd)(pl:kB)(k:Nat)(s s':Ss):Prop:=match c with
 |.ask f as=>∃ths s2 ns,Thr R as.length s ths s2/\G5 ds f ns/\s'=(s2.1,stP s2.2 k ⟨f,[],J9 ns ths⟩)
 |_=>s'=(s.1,stP s.2 k ⟨F,pl,ρ⟩)
def TAp(ds:List Dd)(F:Str)(b:Bd)(num:Nat)(ρ:Rho):Nat->List Int->Ss->Tg->Ss->Prop
 |0,_,_,_,_=>False
 |n+1,pl,s,th,s'=>∃c,b.at pl=some c/\match c with
  |.tag t=>th=.tag t/\s'=s
  |.name x=>ρ x=some th/\s'=s
  |c=>∃k cs1,XO s.1 (num,pl) k cs1/\th=.cell k/\MCp ds F ρ (λi=>TAp ds F b num ρ n<|pl++[(i:Int)]) c pl k (cs1,s.2) s'
def OkT(ds:List Dd)(ρ:Rho):Nat->Bd->Prop
 |0,_=>False
 |n+1,.name x=>∃th,ρ x=some th
 |n+1,.ask f as=>(∃x∈ds,x.1.1=f/\x.1.2.1.length=as.length/\as.length<=3/\(x.1.2.1.map (·.1)).Nodup)/\∀a∈as,OkT ds ρ n a
 |n+1,_=>True
theorem Gi:∀{Z:List Bd}{i:Nat}{a:Bd},Z[i]?=some a->Bd.sizes (Z.take<|i+1)=Bd.sizes (Z.take i)+a.size
 |[],i,a,h=>by simp at h
 |x::Z,0,a,h=>by cases h;simp[Bd.sizes]
 |x::Z,i+1,a,h=>by
  have J:Z[i]?=some a:=h;have:=Gi J;simp only[List.take_succ_cons,Bd.sizes]at this |-;omega
theorem Gj:∀(Z:List Bd)(i:Nat),Bd.sizes (Z.take i)<=Bd.sizes Z
 |[],i=>by simp[Bd.sizes]
 |x::Z,0=>by simp[Bd.sizes]
 |x::Z,i+1=>by
  have:=Gj Z i;simp only[List.take_succ_cons,Bd.sizes];omega
theorem Ft:∀{ns:ky}{G:kH}{Z:List Tg}{H:Hp}{x:Str}{J:Tg},HasL H G (Z.map Tg.dat)->J9 ns Z x=some J->∃v,VC (nmD ns G) (Sum.inr x)=some v/\Has H v J.dat
 |[],G,Z,H,x,J,h,e=>by unfold J9 at e;simp at e
 |n::ns,G,[],H,x,J,h,e=>by unfold J9 at e;simp at e
 |n::ns,[],_::_,H,x,J,h,e=>by unfold HasL at h;exact h.elim
 |n::ns,u::G,t::Z,H,x,J,h,e=>by
  unfold HasL at h;unfold J9 at e;rw[vW,yx]at e
  by_cases z:x=n
  .subst z
   rw[beq_self_eq_true]at e;cases e;exact⟨u,Vi Y,h.1⟩
  .have zb:(x==n)=false:=beq_eq_false_iff_ne.mpr z
   rw[zb]at e;obtain⟨v,M,L⟩:=Ft (ns:=ns) h.2 e;exact⟨v,(Vr λq=>z (Sum.inr.inj q).symm).trans M,L⟩
def GG.put(g:GG P w H CG A cs sts av)(hk:k<=cs.length)(e:H A.st=some (.dK J))(ht:H t=some (.tup [.str s.f,.ref p,.ref kn]))(hp:H p=some (.tup<|s.pl.map V.int))(R:KnR A H kn s.ρ (3+s.pl.length))(na:¬av kn)(b:SameB A.st H M)(x:M A.st=some (.dK<|putK J (Sum.inl (k:Int))<|.ref t)):GG P w M CG A cs (stP sts k s) av:=by
 obtain⟨j,Q,h2⟩:=g.bs;obtain⟨ks,X,h4,C⟩:=g.nu;obtain⟨E,U,S,I⟩:=g.st;rw[e]at U;cases U;have Z:TK H M:=λa ys h=>b _ _ (Yv h e (by intro z;cases z)) h;refine⟨b _ _ (Yv g.ins e (by intro z;cases z)) g.ins,⟨j,b _ _ (Yv Q e (by intro z;cases z)) Q,JQ Z _ (J3 cs) h2⟩,⟨ks,b _ _ (Yv X e We) X,h4.tk C Z,C⟩,g.nd,_,x,?_,λn s' L=>?_⟩
 .cases en:sts k with
  |none=>
   rw[Nt en cs.length hk];exact Zb (VW _ _ _)<|ql S
  |some s0=>
   rw[L7 (by rw[en];rfl)];obtain⟨B,D,G,N,_⟩:=I k s0 en;have:(J.any λO=>decide<|O.1=Sum.inl (k:Int))=true:=by rw[JY,N];rfl
   unfold putK;rw[Zp this,ZA];exact S
 .unfold stP at L
  have F:∀{a:Addr}{ρ:Rho}{m:Nat},KnR A H a ρ m->KnR A M a ρ m:=λR=>by
   obtain⟨n,O,i,l,o⟩:=R;exact⟨n,O,b _ _ n i,l,λx T e=>let⟨v,c,y⟩:=o x T e;⟨v,c,VO Z _ (Tg.ti T) y⟩⟩
  by_cases z:n=k
  .subst z
   rw[Zp rfl]at L;cases L;exact⟨t,p,kn,by rw[Vy,Zp rfl],Z _ _ ht,Z _ _ hp,F R,na⟩
  .rw [Zq z]at L
   obtain⟨B,D,G,N,r,u,f,d⟩:=I n s' L;exact⟨B,D,G,by rw[Vy,Zq (λq=>z (by have:=Sum.inl.inj q;omega))];exact N,Z _ _ r,Z _ _ u,F f,d⟩
end L2
namespace K4
open PySem L2
section
variable{C CK CG CO CW CD:Addr}
def NV(A:OM):(Jj A).lookup ("ground":Str)=some (V.ref A.gr):=rfl
def NU(A:OM):(Jj A).lookup ("number":Str)=some (V.int (A.n:Nat)):=rfl
def yI(A:OM):(Jj A).lookup ("f":Str)=some (V.str A.F):=rfl
def LC(A:OM):(Jj A).lookup ("body":Str)=some A.bv:=rfl
def Cj(A:OM):(Jj A).lookup ("place":Str)=some (V.ref A.pl):=rfl
def Ck(A:OM):(Jj A).lookup ("known":Str)=some (V.ref A.kn):=rfl
def EN(A:OM):(Jj A).lookup ("waiting":Str)=some (V.ref A.wl):=rfl
def Qd(A:OM):(Jj A).lookup ("thing_at":Str)=none:=rfl
def Qe(A:OM):(Jj A).lookup ("make_cell":Str)=none:=rfl
def Qk(A:GA):(TU A).lookup ("number_at":Str)=none:=rfl
def Dg(A:GA):(TU A).lookup ("starts":Str)=some (V.ref A.st):=rfl
def Lg(A:GA):(TU A).lookup ("book":Str)=some (V.ref A.bk):=rfl
abbrev spk:ky:=["self","place","known"]
abbrev ND:ky:=["self","number","place","known"]
def ST:Yh ["self","number","place","known","body","things"] ND (Yc XB):=Y5
def SQ:Yh ["self","place","known","body","number"] spk (Yc Xq):=Y5
def Ph:List.Nodup [("at":Str),"self","place","known"]:=by decide +kernel
inductive STA(P:Program)(w:World)(C CK CG CO:Addr)(n:Nat)(H:Hp)(Q:VK):List V->Prop
 |mk (Hm:Hp) (A:GA) (ks:List (Str×Shp)) (d:Str->Nat) (ds:List Dd) (cs:List Mk1) (sts:Nat->Option Sta) (av:Addr->Prop) (O:OM) (b c:Bd) (pl:List Int) (p kn:Addr) (ρ:Rho) (mx:MX P w Hm H C CK CG A ks d ds cs sts av) (gm:GM H CO A O b) (hp:H p=some (.tup (pl.map V.int))) (hc:b.at pl=some c) (ok:OkT ds ρ n c) (kr:KnR A H kn ρ (3+pl.length)) (na:¬av kn) (al:∀a,av a->∃o,H a=some o) (on:O.n<=cs.length) (lc:cs.length+c.size<=900) (lw:pl.length+n<=500)
  (q:∀u th cs' sts' H',TAp ds O.F b O.n ρ n pl (cs,sts) th (cs',sts')->cs.length<=cs'.length->cs'.length<=cs.length+c.size->FrG A H H'->GG P w H' CG A cs' sts' av->Has H' u th.dat->Q u H'):STA P w C CK CG CO n H Q [.ref O.t,.ref p,.ref kn]
def E6(P:Program)(w:World)(C CK CG CO:Addr)(n:Nat):Sp:=λZ H Q _=>STA P w C CK CG CO n H Q Z
inductive SMC(P:Program)(w:World)(C CK CG CO:Addr)(n:Nat)(H:Hp)(Q:VK):List V->Prop
 |mk (Hm:Hp) (A:GA) (ks:List (Str×Shp)) (d:Str->Nat) (ds:List Dd) (cs:List Mk1) (sts:Nat->Option Sta) (av:Addr->Prop) (O:OM) (b c:Bd) (pl:List Int) (p kn:Addr) (ρ:Rho) (k:Nat) (mx:MX P w Hm H C CK CG A ks d ds cs sts av) (gm:GM H CO A O b) (hp:H p=some (.tup (pl.map V.int))) (hc:b.at pl=some c) (ok:OkT ds ρ (n+1) c) (kr:KnR A H kn ρ (3+pl.length)) (na:¬av kn) (al:∀a,av a->∃o,H a=some o) (on:O.n<=cs.length) (lc:cs.length+c.size<=901) (lw:pl.length+n+1<=500) (hk:k<=cs.length)
  (q:∀cs' sts' H',MCp ds O.F ρ (λi=>TAp ds O.F b O.n ρ n (pl++[(i:Int)])) c pl k (cs,sts) (cs',sts')->cs.length<=cs'.length->cs'.length+1<=cs.length+c.size->FrG A H H'->GG P w H' CG A cs' sts' av->Q .non H'):SMC P w C CK CG CO n H Q [.ref O.t,.int (k:Nat),.ref p,.ref kn]
def Od(P:Program)(w:World)(C CK CG CO:Addr)(n:Nat):Sp:=λZ H Q _=>SMC P w C CK CG CO n H Q Z
def OA(c:Bd):(∃f Z,c=.ask f Z) \/ ∃wd r,c.dat=.tup (.str wd::r)/\wd≠"ask" /\∀f Z,c≠.ask f Z:=by
 cases c <;> first|exact .inl ⟨_,_,Y⟩|exact .inr ⟨_,_,by unfold Bd.dat;rfl,by decide +kernel,λ_ _ z=>by cases z⟩
def QY(B:Blt mg)(TG:GCl K CG)(TO:OCl K CO)(F:Fun K "make_cell" "Going.make_cell" XB f fd)(DP:Df P w K mg base L "part_at" ["body","place"] Jv)(DN:Df P w K mg base L "named" ["book","f","things"] (IV C CK))(m1:VI K CO "thing_at" g1)(G1:Yf P w K mg base CX0 L g1 d1 spk (E6 P w C CK CG CO n))(b1:Binds K d1 spk []):Yf P w K mg base CX0 (L+1) f fd ND (Od P w C CK CG CO n):=by
 refine F.oi ST λcdv A E1 s H g Q E hr h=>?_;obtain⟨Hm,A',ks,d,ds,cs,sts,av,O,b,c,pl,p,kn,ρ,k,mx,gm,hp,hc,ok,kr,R6,al,on,lc,lw,hk,q⟩:=h;have hu:=V9 hr;refine⟨_,YY (Yx 4 ST.nd<|VS DP hr<|pa2 (Yn (pv 0) rfl)<|pv 2)
  (YY (Y1 (Yr UR (Yo (r:=Vb K) Yt (pv 4)<|Ya) Yy<|Yz _) (YY (Vc hu (Yn (Yn (pv 0) rfl) rfl) (pv 1) (Yi<|pa3 (Yn (pv 0) rfl) (pv 2)<|pv 3) rfl)
  (YZ<|Oy)) Yp)
  (YY (MT (i0:=5) ["at"] [0,2,3] ST.nd rfl (Or.inl rfl) (UQ rfl B.range (pa1<|VA Y7 rfl B.len Zu (pa1<|Yo (r:=Vb K) Yt (pv 4)<|Ya))) (Vk (i:=0)<|by decide) (λcl C fp s H=>Yl 0 Ph rfl (Or.inl rfl) (Or.inr rfl)) (λcl C fp s H=>Y6 (pv 1) TO.cl m1 G1 hr b1 .nil Y2<|pa2 (Y9 (r:=λx y H Q=>UO K x y H Q\/UN K x y H Q) UA (pv 2)<|Yi<|pa1<|pv 0)<|pv 3))
  (YZ<|Vc hu (Yn (Yn (pv 0) rfl) rfl) (pv 1) (Yi<|pa3 (Yo (r:=Vb K) Yt (pv 4)<|Ya) (Yi<|VP)<|VS DN hr<|pa3 (Yn (Yn (pv 0) rfl) rfl) (Yo (r:=Vb K) Yt (pv 4)<|Ya)<|pv 5) rfl))),?_⟩
 dsimp only[Vf,Cx.nox,Cx.wish];show let T0:=_;let T1:=Yk _ T0;let T2:=_;let T3:=Yk _ T2;let T4:=Yk (VE _ T3 _) T1;Yk _ T4 _ _ _
 intros
 refine⟨CO,_,_,_,gm.ins,TO.cl,TO.bd,LC _,_,p,b,c,pl,gm.bd,gm.ok,hp,hc,λu H1 s1 I=>?_⟩;have J:=mx.mono s1;have X:=gm.mono s1;have R8:=kr.mono s1;have T6:=s1 _ _ hp;have D2:∀a,av a->∃o,H1 a=some o:=λa h=>let⟨o,e⟩:=al a h;⟨o,s1 _ _ e⟩
 have c1:1<=c.size:=by rw[Bd.size_eq];omega
 rcases OA c with⟨f',as,rfl⟩|⟨wd,r,ed,nw,na⟩
 .have hu2:=I
  unfold Bd.dat at I;obtain⟨ta,ys,rfl,S,hl⟩:=Yw I;obtain⟨x1,r1,rfl,e1,T7⟩:=Yd hl;obtain⟨x2,r2,rfl,e2,I3⟩:=Yd T7;obtain⟨x3,r3,rfl,e3,I2⟩:=Yd I3;obtain rfl:=VD I2;obtain rfl:=has_str e1;obtain rfl:=has_str e2;obtain⟨tb,xs,rfl,F9,F7⟩:=Yw e3;have lx:=F7.length;rw[Z9,ZA]at lx;unfold OkT at ok;obtain⟨⟨df,T8,ef,lf,l3,E3⟩,E2⟩:=ok;refine⟨_,_,Z2 S,at0,Y,_,Y,Y0 (by decide +kernel) ?_⟩;refine⟨_,_,Z2 S,at2,tb,_,Y,.inr<|Z2 F9,xs.length,rfl,by omega,by omega,?_⟩;have I9:(Bd.ask f' as).size=1+Bd.sizes as:=by unfold Bd.size;rfl
  rw[I9]at lc;refine Vh xs.length (Yj<|by omega) (λi g H'=>∃M G Z,g.length=i/\Thr (λi=>TAp ds O.F b O.n ρ n<|pl++[(i:Int)]) i (cs,sts) M (G,Z)/\cs.length<=G.length/\G.length<=cs.length+Bd.sizes (as.take i)/\FrG A' H1 H'/\GG P w H' CG A' G Z av/\HasL H' g (M.map Tg.dat)) ⟨[],cs,sts,rfl,.nil,ZG _,vf _ _,.refl _ _,J.gg,Z6⟩ (λi g H' z=>by obtain⟨_,_,_,z,_⟩:=z;exact z) (λi g H' hi z=>hi) (λg H' z=>ZG _) ?_ ?_
  .rintro i g H2 y H3 R hi ⟨M,G,Z,z1,z2,z3,z4,z5,z6,z7⟩ ⟨rfl,rfl⟩ hR
   have D3:=J.gg.tk z5;have ia:i<as.length:=by omega
   have T9:as[i]?=some as[i]:=ZD ia;have sz:=Gi T9;have S4:=Gj as<|i+1;refine⟨_,_,(X.fr J.gg z5).ins,Qd _,sl 1,λt4 M2=>?_⟩;refine up_in M2 _ λH4 D g4=>?_;have I1:Has H4 (.ref p) (JD pl):=JC<|D _ _<|D3 _ _ T6;refine XG I1 (XA g4) (by simp) (by simp;omega) λu5 H5 s5 h5=>?_;obtain⟨a5,rfl,I6⟩:=UC h5;have G3:=D.trans s5;have j:FrG A' H1 H5:=z5.trans<|.of G3;have R3:=z6.mono G3;have F2:=J.fr j R3;have I7:=X.fr J.gg j;have F6:=R8.fr J.gg j;refine⟨Hm,A',ks,d,ds,G,Z,av,O,b,as[i],pl++[0+(i:Int)],a5,kn,ρ,F2,I7,I6,?_,E2 _<|List.getElem_mem ia,F6.le (by rw[ZL];omega),R6,N3 D2 j R3,by omega,by omega,by rw[ZL,yg];omega,λu6 th S1 R5 H6 q1 q2 q3 q4 q5 q6=>?_⟩
   .refine Bd.at_snoc pl hc (by omega) ?_
    rw[show(0+(i:Int)).toNat=i by omega];exact T9
   .rw [Int.zero_add]at q1
    refine hR _ _ ⟨M++[th],S1,R5,by rw[ZL,z1];rfl,z2.snoc q1,by omega,by omega,j.trans q4,q5,?_⟩;rw[ZK];exact Z7 (JQ (λb ys h=>R3.tk q4 _ _<|G3 _ _ h) _ (W0 λd hd=>by obtain⟨t,_,rfl⟩:=ZW.mp hd;exact Tg.ti t) z7)<|Z5 q6
  rintro g H2 tl ⟨M,G,Z,z1,z2,z3,z4,z5,z6,z7⟩ F8;rw[lx]at z2;have S2:=Gj as xs.length;refine up_in F8 _ λH3 s3 g3=>?_;have m:FrG A' H1 H3:=z5.trans<|.of s3;have D1:=z6.mono s3;have F3:=J.fr m D1;have I8:=X.fr J.gg m;have G2:=J.gg.tk m _ _ S;refine⟨_,_,Z2 G2,at1,sl 0,λt4 M2=>?_⟩;refine up_in M2 _ λH4 D g4=>?_;have D0:=I8.mono D;have J2:=D1.mono D;exists CO,_,_,_,D0.ins,TO.cl,TO.gr,NV _;rw[gm.gr];exists CG,_,_,_,J2.ins,TG.cl,TG.bk,Lg _,_,_,Z2<|D _ _ G2,at1;rw[<-ef];have I4:=z7.length;rw[ZA]at I4;have R7:=F3.mono D;refine⟨A'.bk,tl,g,ks,d,ds,df,R7.bi.mono R7.sm,T8,D _ _ g3,by omega,by omega,E3,λl H5 s5 R4 I5=>⟨sl 3,λt6 L1=>?_⟩⟩;refine up_in L1 _ λH6 s6 g6=>?_;have T:=s5.trans s6;have N:=J2.mono T;have O1:=D0.mono T;exists CO,_,_,_,O1.ins,TO.cl,TO.gr,NV _;rw[gm.gr];obtain⟨F4,U,lst,_⟩:=N.st;refine⟨CG,_,_,_,N.ins,TG.cl,TG.st,Dg _,_,Jh.k (k:=Sum.inl (k:Int)) U<|Yj (by have:=El (sts:=Z) G.length;omega),?_⟩;refine fld_in A'.st _ λH7 b7 g7=>?_;obtain⟨kv4,T5,_⟩:=J2.st
  have F5:KnR A' H6 l (J9 (df.1.2.1.map (·.1)) M) (3+([]:kB).length):=by
   refine⟨λz=>?_,_,s6 _ _ I5,by unfold nmD;rw[ZA,List.length_zip,ZA,jK];omega,λx th e=>?_⟩
   .rw [z,T5]at R4;cases R4
   .obtain ⟨v,h1,h2⟩:=Ft (z7.mono<|(s3.trans D).trans T) e
    exact⟨v,h1,h2⟩
  have F1:¬av l:=λz=>by
   obtain⟨o,e⟩:=N3 D2 (m.trans<|.of D) J2 l z;rw[R4]at e;cases e
  have R1:=N.put (s:=⟨df.1.1,[],J9 (df.1.2.1.map (·.1)) M⟩) (k:=k) (by omega) U g6 (T _ _ g4) F5 F1 b7 g7;refine q G _ H7 ?_ z3 (by omega) ?_ R1
  .show ∃M s2 ns,_
   exact⟨M,(G,Z),_,z2,⟨df,T8,ef,Y⟩,by rw[<-ef]⟩
  .exact λb o n1 n2 n3 e=>b7 _ _ n3<|(D.trans T) _ _<|m _ _ n1 n2 n3<|s1 _ _ e
 .rw [ed]at I
  obtain⟨ta,ys,rfl,S,hl⟩:=Yw I;obtain⟨x1,r1,rfl,e1,T7⟩:=Yd hl;obtain rfl:=has_str e1;refine⟨_,_,Z2 S,at0,Y,_,Y,VH (by simp;exact nw) ?_⟩;refine⟨CO,_,_,_,X.ins,TO.cl,TO.f,yI _,sl 3,λt6 L1=>?_⟩;refine up_in L1 _ λH6 s6 g6=>?_;have N:=J.gg.mono s6;have O1:=X.mono s6;exists CO,_,_,_,O1.ins,TO.cl,TO.gr,NV _;rw[gm.gr];obtain⟨F4,U,lst,_⟩:=N.st;refine⟨CG,_,_,_,N.ins,TG.cl,TG.st,Dg _,_,Jh.k (k:=Sum.inl (k:Int)) U<|Yj (by have:=El (sts:=sts) cs.length;omega),?_⟩;refine fld_in A'.st _ λH7 b7 g7=>?_;have R1:=N.put (s:=⟨O.F,pl,ρ⟩) (k:=k) hk U g6 (s6 _ _ T6) (R8.mono s6) R6 b7 g7;refine q cs _ H7 ?_ (ZG _) (by omega) ?_ R1
  .cases c <;> first|rfl|exact Zr Y (na _ _)
  .exact λb o n1 n2 n3 e=>b7 _ _ n3<|s6 _ _<|s1 _ _ e
def OY(c:Bd):(∃t,c=.tag t)\/(∃x,c=.name x) \/ ∃wd r,c.dat=.tup (.str wd::r)/\wd≠"tag" /\wd≠"name" /\(∀t,c≠.tag t)/\∀x,c≠.name x:=by
 cases c <;> first|exact .inl ⟨_,Y⟩|exact .inr (.inl ⟨_,Y⟩)|exact .inr<|.inr ⟨_,_,by unfold Bd.dat;rfl,by decide +kernel,by decide +kernel,λ_ z=>(by cases z),λ_ z=>by cases z⟩
def XO.le(h:XO cs c n cs'):n<=cs'.length/\cs.length<=cs'.length/\cs'.length<=cs.length+1:=by
 rcases h with⟨k,Z,rfl,rfl⟩|⟨_,rfl,rfl⟩
 .have:=(ZF.mp Z).1
  omega
 .rw [ZL,yg]
  omega
def CJ(TG:GCl K CG)(TO:OCl K CO)(F:Fun K "thing_at" "Going.thing_at" Xq f fd)(DP:Df P w K mg base L "part_at" ["body","place"] Jv)(m1:VI K CG "number_at" g1)(G1:Yf P w K mg base CX0 L g1 d1 ["self","maker","place"] (IW P w CG))(b1:Binds K d1 ["self","maker","place"] [])(m2:VI K CO "make_cell" i)(G2:Yf P w K mg base CX0 L i d2 ND (Od P w C CK CG CO n))(b2:Binds K d2 ND []):Yf P w K mg base CX0 (L+1) f fd spk (E6 P w C CK CG CO<|n+1):=by
 refine F.oi SQ λR8 A J2 s H vs Q E l h=>?_;obtain⟨Hm,A',ks,d,ds,cs,M,av,O,b,c,pl,p,kn,ρ,mx,z,hp,j,ok,kr,L1,al,on,lc,lw,q⟩:=h;have hu:=V9 l;refine⟨_,YY (Yx 3 SQ.nd<|VS DP l<|pa2 (Yn (pv 0) rfl)<|pv 1)
  (YY (Y1 (Yr VZ (Yo (r:=Vb K) Yt (pv 3)<|Ya) Yy<|Yz _) (YZ<|Ym<|pv 3) Yp)
  (YY (Y1 (Yr VZ (Yo (r:=Vb K) Yt (pv 3)<|Ya) Yy<|Yz _) (YZ<|Ym<|Vj hu (pv 2) (Yo (r:=Vb K) Yt (pv 3)<|Ya) λ_ _=>rfl) Yp)
  (YY (Yx 4 SQ.nd<|Y6 (Yn (pv 0) rfl) TG.cl m1 G1 l b1 .nil Y2<|pa2 (Yn (pv 0) rfl)<|pv 1)
  (YY (VQ<|Y6 (pv 0) TO.cl m2 G2 l b2 .nil Y2<|pa3 (pv 4) (pv 1)<|pv 2)
  (YZ<|Ym<|Yi<|pa2 (Yy)<|pv 4))))),?_⟩
 dsimp only[Vf,Cx.nox,Cx.wish];show let T0:=_;let T1:=Yk _ T0;let T2:=Yk _ T1;let T3:=_;let T4:=Yk (VE _ T3 _) T2;let T5:=_;let T6:=Yk (VE _ T5 _) T4;Yk _ T6 _ _ _
 intros
 refine⟨CO,_,_,_,z.ins,TO.cl,TO.bd,LC _,_,p,b,c,pl,z.bd,z.ok,hp,j,λu H1 N G=>?_⟩;have Z:=mx.mono N;have T:=z.mono N;have I:=kr.mono N;have U:=N _ _ hp;have R4:∀a,av a->∃o,H1 a=some o:=λa h=>let⟨o,e⟩:=al a h;⟨o,N _ _ e⟩
 have c1:1<=c.size:=by rw[Bd.size_eq];omega
 rcases OY c with⟨t,rfl⟩|⟨x,rfl⟩|⟨wd,r,ed,n1,n2,n3,n4⟩
 .have hu2:=G
  unfold Bd.dat at G;obtain⟨ta,ys,rfl,J,X⟩:=Yw G;obtain⟨x1,r1,rfl,m,R⟩:=Yd X;obtain rfl:=has_str m;refine⟨_,_,Z2 J,at0,Y,_,Y,VH (by decide +kernel) ?_⟩;exact q _ (.tag t) cs M H1 ⟨_,j,Y,Y⟩ (ZG _) (vf _ _) (.of N) Z.gg hu2
 .unfold Bd.dat at G
  obtain⟨ta,ys,rfl,J,X⟩:=Yw G;obtain⟨x1,r1,rfl,m,R⟩:=Yd X;obtain⟨x2,r2,rfl,e2,R1⟩:=Yd R;obtain rfl:=VD R1;obtain rfl:=has_str m;obtain rfl:=has_str e2;unfold OkT at ok;obtain⟨th,S⟩:=ok;refine⟨_,_,Z2 J,at0,Y,_,Y,Y0 (by decide +kernel) ?_⟩;refine⟨_,_,Z2 J,at0,Y,_,Y,VH (by decide +kernel) ?_⟩;obtain⟨_,R7,k1,_,k2⟩:=id I;obtain⟨v,v1,v2⟩:=k2 x th S;refine⟨_,_,Z2 J,at1,v,by rw[<-v1];exact Vg.k (k:=Sum.inr x) k1,?_⟩;exact q _ th cs M H1 ⟨_,j,S,Y⟩ (ZG _) (vf _ _) (.of N) Z.gg v2
 .rw [ed]at G
  obtain⟨ta,ys,rfl,J,X⟩:=Yw G;obtain⟨x1,r1,rfl,m,R⟩:=Yd X;obtain rfl:=has_str m;refine⟨_,_,Z2 J,at0,Y,_,Y,Y0 (Rp n1) ?_⟩;refine⟨_,_,Z2 J,at0,Y,_,Y,Y0 (Rp n2) ?_⟩;exists CO,_,_,_,T.ins,TO.cl,TO.gr,NV _;rw[z.gr];refine⟨_,_,Z.gg.ins,Qk _,CO,_,_,_,T.ins,TO.cl,TO.nu,NU _,A',cs,M,av,O.n,pl,p,Z.gg,U,on,by omega,λk g H2 na B i=>?_⟩;obtain⟨G3,R6,R5⟩:=XO.le na;have M2:=Z.fr B i;have y:=T.fr Z.gg B;refine⟨_,_,y.ins,Qe _,Hm,A',ks,d,ds,g,M,av,O,b,c,pl,p,kn,ρ,k,M2,y,Z.gg.tk B _ _ U,j,ok,I.fr Z.gg B,L1,N3 R4 B i,by omega,by omega,by omega,G3,λR3 D H3 mc l1 l2 f3 g3=>⟨sl 2,λt4 O1=>?_⟩⟩;refine up_in O1 _ λH4 s4 g4=>?_;refine q _ (.cell k) R3 D H4 ⟨c,j,?_⟩ (by omega) (by omega) ((FrG.of N).trans<|B.trans<|f3.trans<|.of s4) (g3.mono s4) ?_
  .cases c <;> first|exact Zr Y (n3 _)|exact Zr Y (n4 _)|exact⟨k,g,na,Y,mc⟩
  .unfold Tg.dat
   exact Yu g4<|Z4 Y4<|Z5 (by unfold Has;rfl)
theorem QM(B:Blt Z)(TG:GCl K CG)(TO:OCl K CO)(y:Fun K "thing_at" "Going.thing_at" Xq f J)(R:Fun K "make_cell" "Going.make_cell" XB f' fd')(G:Df P w K Z base L "part_at" ["body","place"] Jv)(T:Df P w K Z base L "named" ["book","f","things"] (IV C CK))(A:VI K CG "number_at" g)(j:Yf P w K Z base CX0 L g k ["self","maker","place"] (IW P w CG))(X:Binds K k ["self","maker","place"] [])(M:VI K CO "thing_at" f)(N:Binds K J spk [])(F:VI K CO "make_cell" f')(U:Binds K fd' ND []):∀n:Nat,Yf P w K Z base CX0 (L+2*n) f J spk (E6 P w C CK CG CO n)/\Yf P w K Z base CX0 (L+2*n+1) f' fd' ND (Od P w C CK CG CO n)
 |0=>by
  have S:Yf P w K Z base CX0 (L+2*0) f J spk (E6 P w C CK CG CO 0):=.none λu H Q E h=>by
   obtain⟨Hm,A',i,d,ds,cs,z,av,O,b,c,v,p,a,ρ,l,gm,x,hc,D,s,t,al,r,o,e,q⟩:=h;unfold OkT at D;exact D
  exact⟨S,QY B TG TO R G T M S N⟩
 |n+1=>by
  obtain⟨_,m⟩:=QM B TG TO y R G T A j X M N F U n;have I:Yf P w K Z base CX0 (L+2*(n+1)) f J spk (E6 P w C CK CG CO<|n+1):=CJ (L:=L+2*n+1) TG TO y (G.up<|by omega) A (j.mono<|by omega) X F m U;exact⟨I,QY B TG TO R (G.up<|by omega) (T.up<|by omega) M I N⟩
end
end K4
namespace L2
open PySem
def Up(ρ:Rho)(x:Str)(th:Tg):Rho:=λy=>if y=x then some th else ρ y
def Bd.cellB:Bd->Prop
 |.tag _=>False
 |.name _=>False
 |_=>True
def Fg{c:Bd}(h:c.cellB):∃wd r,c.dat=.tup (.str wd::r)/\wd≠"tag" /\wd≠"name":=by
 cases c <;> first|exact h.elim|exact⟨_,_,by unfold Bd.dat;rfl,by decide +kernel,by decide +kernel⟩
end L2
namespace K4
open PySem L2
section
variable{C CK CG CO CW CD:Addr}
inductive zJ(H:Hp)(Q:VK):List V->Prop
 |mk (z y:V) (th:Tg) (hy:Has H y th.dat) (q1:∀n,th=.cell n->∀u H',Same H H'->Has H' u (.tup [.str "want",.int (n:Nat)])->Q u H') (q2:∀t,th=.tag t->∀u H',Same H H'->Has H' u (.tup [.str "head",tagD t])->Q u H'):zJ H Q [z,y]
def IZ:Sp:=λZ H Q _=>zJ H Q Z
def S3(F:Fun K "from_thing" "Going.from_thing" XZ f k):Yf P w K a base CX0 (n+1) f k ["self","thing"] IZ:=by
 refine F.oi zj λd A M s H o Q E x h=>?_;obtain⟨z,y,U,J,m,q⟩:=h;refine⟨_,YY (Y1 (Yr VZ (Yo (r:=Vb K) Yt (pv 1)<|Ya) Yy<|Yz _) (YZ<|Ym<|Yi<|pa2 (Yy)<|Yo (r:=Vb K) Yt (pv 1)<|Ya) Yp)
  (YY (Y1 (Yr VZ (Yo (r:=Vb K) Yt (pv 1)<|Ya) Yy<|Yz _) JV Yp)
  (YZ<|Ym<|Yi<|pa2 (Yy)<|pv 1)),?_⟩
 show let l:=_;let v:=Yk (VE _ _ _) l;let u:=_;Yk (VE _ u _) v _ _ _
 intros
 cases U with
 |cell g=>
  unfold Tg.dat at J;obtain⟨t,I,rfl,G,T⟩:=Yw J;obtain⟨S,j,rfl,D,L⟩:=Yd T;obtain⟨e,i,rfl,c,R⟩:=Yd L;obtain rfl:=VD R;obtain rfl:=has_str D;refine⟨_,_,Z2 G,at0,Y,_,Y,VH (by decide +kernel) ⟨_,_,Z2 G,at1,sl 2,λp O=>?_⟩⟩;refine up_in O _ λb Z B=>m g Y _ _ Z ?_;exact Yu B<|Z4 Y4<|Z5<|c.mono Z
 |tag X=>
  have N:=J;unfold Tg.dat at J;obtain⟨t,I,rfl,G,T⟩:=Yw J;obtain⟨S,j,rfl,D,L⟩:=Yd T;obtain rfl:=has_str D;refine⟨_,_,Z2 G,at0,Y,_,Y,Y0 (by decide +kernel) ?_⟩;refine⟨_,_,Z2 G,at0,Y,_,Y,Y0 (by decide +kernel) ⟨sl 2,λp O=>?_⟩⟩;refine up_in O _ λb Z B=>q X Y _ _ Z ?_;exact Yu B<|Z4 Y4<|Z5<|N.mono Z
def NE:Yh ["self","body","place","known","word","name","kind","own","rest","within","number"] ["self","body","place","known"] (Yc G9):=Y5
inductive SWL(P:Program)(w:World)(C CK CG CO:Addr)(n:Nat)(H:Hp)(Q:VK):List V->Prop
 |mk (Hm:Hp) (A:GA) (ks:List (Str×Shp)) (d:Str->Nat) (ds:List Dd) (cs:List Mk1) (sts:Nat->Option Sta) (av:Addr->Prop) (O:OM) (b:Bd) (x k':Str) (e r:Bd) (pl:List Int) (y:V) (p kn:Addr) (ρ:Rho) (mx:MX P w Hm H C CK CG A ks d ds cs sts av) (gm:GM H CO A O b) (hp:H p=some (.tup (pl.map V.int))) (hc:b.at pl=some (.letb x k' e r)) (hy:Has H y (Bd.letb x k' e r).dat) (ce:e.cellB) (ok:∀k,OkT ds (Up ρ x (.cell k)) (n+1) e) (kr:KnR A H kn ρ (3+pl.length)) (al:∀a,av a->∃o,H a=some o) (on:O.n<=cs.length) (lc:cs.length+e.size<=900) (lw:pl.length+n+2<=500)
  (q:∀kn' k cs1 s2 H',XO cs (O.n,pl++[0]) k cs1->MCp ds O.F (Up ρ x (.cell k)) (λi=>TAp ds O.F b O.n (Up ρ x (.cell k)) n (pl++[0]++[(i:Int)])) e (pl++[0]) k (cs1,sts) s2->cs.length<=s2.1.length->s2.1.length<=cs.length+e.size->FrG A H H'->GG P w H' CG A s2.1 s2.2 av->H kn'=none->KnR A H' kn' (Up ρ x (.cell k)) (3+(pl++[1]).length)->Q (.ref kn') H'):SWL P w C CK CG CO n H Q [.ref O.t,y,.ref p,.ref kn]
def SA(P:Program)(w:World)(C CK CG CO:Addr)(n:Nat):Sp:=λZ H Q _=>SWL P w C CK CG CO n H Q Z
def CH(B:Blt mg)(TG:GCl K CG)(TO:OCl K CO)(F:Fun K "with_let" "Going.with_let" G9 f fd)(m1:VI K CG "number_at" g1)(G1:Yf P w K mg base CX0 L g1 d1 ["self","maker","place"] (IW P w CG))(b1:Binds K d1 ["self","maker","place"] [])(m2:VI K CO "make_cell" g2)(G2:Yf P w K mg base CX0 L g2 d2 ND (Od P w C CK CG CO n))(b2:Binds K d2 ND []):Yf P w K mg base CX0 (L+1) f fd ["self","body","place","known"] (SA P w C CK CG CO n):=by
 refine F.oi NE λI9 A T9 s H vs Q E hr h=>?_;obtain⟨Hm,N,ks,d,ds,cs,R,av,O,b,x,k',e,r,m,y,p,kn,ρ,J,gm,hp,hc,hy,ce,ok,kr,al,on,lc,lw,q⟩:=h;have hu:=V9 hr;refine⟨_,YY (Jq (pv 1)<|Vd (n:=5) rfl (Ys (Yl 4 NE.nd)<|Ys (Yl 5 NE.nd)<|Ys (Yl 6 NE.nd)<|Ys (Yl 7 NE.nd)<|Ys (Yl 8 NE.nd) VN))
  (YY (Yx 9 NE.nd<|VY Dq rfl B.dict Uk (pa1<|pv 3))
  (YY (Y1 (PW.pt<|UP (Yr VZ (Yo (r:=Vb K) Yt (pv 7)<|Ya) Yy<|Yz _)<|Jo<|PW.pt<|MS (Yr VZ (Yo (r:=Vb K) Yt (pv 7)<|Ya) Yy<|Yz _)<|W6<|Yr UR (Yo (r:=Vb K) Yt (pv 7)<|Ya) (pv 5)<|Yz _) JV Yp)
  (YY (Yx 10 NE.nd<|Y6 (Yn (pv 0) rfl) TG.cl m1 G1 hr b1 .nil Y2<|pa2 (Yn (pv 0) rfl)<|Y9 (r:=λx y H Q=>UO K x y H Q\/UN K x y H Q) UA (pv 2)<|Yi<|pa1<|Ya)
  (YY (Vc hu (pv 9) (pv 5) (Yi<|pa2 (Yy)<|pv 10) rfl)
  (YY (VQ<|Y6 (pv 0) TO.cl m2 G2 hr b2 .nil Y2<|pa3 (pv 10) (Y9 (r:=λx y H Q=>UO K x y H Q\/UN K x y H Q) UA (pv 2)<|Yi<|pa1<|Ya)<|pv 9)
  (YZ<|Ym<|pv 9)))))),?_⟩
 dsimp only[Vf,Cx.nox,Cx.wish];show let T0:=_;let T1:=Yk _ T0;let T2:=Yk _ T1;let T3:=Yk _ T2;let T4:=Yk (VE _ _ _) T3;let T5:=Yk _ T4;Yk _ T5 _ _ _
 intros
 unfold Bd.dat at hy;obtain⟨ta,ys,rfl,E2,hl⟩:=Yw hy;obtain⟨x1,r1,rfl,e1,R1⟩:=Yd hl;obtain⟨x2,r2,rfl,e2,O1⟩:=Yd R1;obtain⟨x3,r3,rfl,e3,M2⟩:=Yd O1;obtain⟨x4,r4,rfl,e4,L1⟩:=Yd M2;obtain⟨x5,r5,rfl,e5,G3⟩:=Yd L1;obtain rfl:=VD G3;obtain rfl:=has_str e1;obtain rfl:=has_str e2;obtain rfl:=has_str e3;clear hl R1 O1 M2 L1 G3;exists _,Z2 E2,Y;obtain⟨I3,E1,R3,lk,F4⟩:=id kr;refine⟨kn,E1,Y,R3,λl D=>?_⟩;refine up_in D _ λH1 I g1=>?_;obtain⟨wd,rr,ed,n1,n2⟩:=Fg ce;have R4:=e4.mono I;rw[ed]at R4;obtain⟨te,F8,rfl,J2,F3⟩:=Yw R4;obtain⟨z1,rz,rfl,X,_⟩:=Yd F3;obtain rfl:=has_str X;refine⟨_,_,Z2 J2,at0,Y,_,Y,Y0 (Rp n1) ?_⟩;refine⟨_,_,Z2 J2,at0,Y,_,Y,Y0 (Rp n2)<|Y0 (by simp) ?_⟩;have T6:=J.gg.avoid D I
 let T7:Addr->Prop:=λa=>av a\/a=l
 have D3:MX P w Hm H1 C CK CG N ks d ds cs R T7:=⟨J.sm.trans I,J.bi,J.f1,J.f2,J.f3,T6⟩;have S:=gm.mono I;exists CO,_,_,_,S.ins,TO.cl,TO.gr,NV _;rw[gm.gr];refine⟨_,_,T6.ins,Qk _,CO,_,_,_,S.ins,TO.cl,TO.nu,NU _,sl 1,λt2 F2=>?_⟩;refine up_in F2 _ λH2 s2 g2=>?_;refine XG (JC<|s2 _ _<|I _ _ hp) (XA g2) (by simp) (by simp;omega) λu3 H3 s3 h3=>?_;obtain⟨a3,rfl,F7⟩:=UC h3;have G:=s2.trans s3;have T:=D3.mono G;refine⟨N,cs,R,T7,O.n,m++[0],a3,T.gg,F7,on,by omega,λk t H4 na f4 R8=>?_⟩;obtain⟨D1,I1,F9⟩:=XO.le na;have I2:=T.fr f4 R8;have I8:=(S.mono G).fr T.gg f4
 have M:l≠N.bs/\l≠N.nu/\l≠N.st:=by
  obtain⟨xs,h1,_⟩:=J.gg.bs;obtain⟨I5,h2,_⟩:=J.gg.nu;obtain⟨I4,h3,_⟩:=J.gg.st;exact⟨(Yb h1 D).symm,(Yb h2 D).symm,(Yb h3 D).symm⟩
 have R7:=f4 _ _ M.1 M.2.1 M.2.2<|G _ _ g1;refine⟨sl 2,λt5 F1=>?_⟩;refine up_in F1 _ λH5 u g5=>?_;refine⟨_,Jh.k (k:=Sum.inr x) (u _ _ R7)<|Yj<|by omega,?_⟩;refine fld_in l _ λH6 b6 g6=>?_;have R6:=u _ _ R7;have T8:TK H5 H6:=λa ys h=>b6 _ _ (Yv h R6 (by intro z;cases z)) h;have I7:kn≠l:=Yb R3 D;have I6:KnR N H5 kn ρ (3+m.length):=((kr.mono<|I.trans G).fr T.gg f4).mono u;have U:GG P w H6 CG N t R av:=((R8.mono u).wr R6 (.inr rfl) b6 M.2.2).less λa h=>.inl h;have g:FrG N H H6:=λb o n1 n2 n3 h=>b6 _ _ (Yb h D)<|u _ _<|f4 _ _ n1 n2 n3<|G _ _<|I _ _ h;have D2:=J.fr g U;have R5:=gm.fr J.gg g
 have i:KnR N H6 l (Up ρ x<|.cell k) (3+m.length+1):=by
  refine⟨M.2.2,_,g6,Zb (VW _ _ _)<|ql lk,λz th X=>?_⟩;unfold Up at X
  by_cases zx:z=x
  .rw [Zp zx]at X
   cases X;refine⟨.ref t5,by rw[Vy,Zp (by rw[zx])],?_⟩;unfold Tg.dat;exact Yu (T8 _ _ g5)<|Z4 Y4<|Z5 (by unfold Has;rfl)
  .rw [Zq zx]at X
   obtain⟨v,v1,v2⟩:=F4 z th X;exact⟨v,by rw[Vy,Zq (λq=>zx<|Sum.inr.inj q)];exact v1,VO (J.gg.tk g) _ (Tg.ti th) v2⟩
 refine⟨_,_,R5.ins,Qe _,sl 1,λt7 E3=>?_⟩;refine up_in E3 _ λH7 s7 g7=>?_;refine XG (JC<|s7 _ _<|J.gg.tk g _ _ hp) (XA g7) (by simp) (by simp;omega) λu8 H8 s8 h8=>?_;obtain⟨a8,rfl,F6⟩:=UC h8;have Z:=s7.trans s8;have F5:b.at (m++[0])=some e:=Bd.at_snoc m hc (by decide) rfl
 have D0:¬av l:=λz=>by
  obtain⟨o,e⟩:=al l z;rw[D]at e;cases e
 refine⟨Hm,N,ks,d,ds,t,R,av,O,b,e,m++[0],a8,l,Up ρ x<|.cell k,k,D2.mono Z,R5.mono Z,F6,F5,ok k,(i.mono Z).le (by rw[ZL,yg];omega),D0,N3 al (g.trans<|.of Z)<|U.mono Z,by omega,by omega,by rw[ZL,yg];omega,D1,λj c H9 mc l1 l2 f9 g9=>?_⟩;refine q l k t (j,c) H9 na mc (by show cs.length<=j.length;omega) (by show j.length<=_;omega) (g.trans<|(FrG.of Z).trans f9) g9 D<|((i.mono Z).fr (U.mono Z) f9).le (by rw[ZL,yg];omega)
end
end K4
namespace L2
open PySem
abbrev av0:Addr->Prop:=λ_=>False
abbrev WEn:=Bd×List Int×Rho
def StB(A:GA)(av:Addr->Prop)(H:Hp)(u:V)(pl:kB)(ρ:Rho):Prop:=∃t p Z,u=.ref t/\H t=some (.tup [.str "body",.ref p,.ref Z])/\H p=some (.tup<|pl.map V.int)/\KnR A H Z ρ (3+pl.length)/\ ¬av Z
def WEm(A:GA)(av:Addr->Prop)(H:Hp)(z:V)(c:WEn):Prop:=∃t J p Z,z=.ref t/\H t=some (.tup [J,.ref p,.ref Z])/\Has H J c.1.dat/\H p=some (.tup<|c.2.1.map V.int)/\KnR A H Z c.2.2 (3+c.2.1.length)/\ ¬av Z
def OkB(ds:List Dd)(ρ:Rho)(n:Nat):Bd->Prop
 |.tag _=>True
 |.name x=>∃th,ρ x=some th
 |.ask f as=>OkT ds ρ (n+1)<|.ask f as
 |.letb x _ e _=>e.cellB/\∀k,OkT ds (Up ρ x<|.cell k) (n+1) e
 |.choose _ _ _=>True
 |_=>False
def GG.lb(g:GG P w H CG A cs sts av)(J:H l=some (.lst o))(n:l≠A.bs)(b:SameB l H r):GG P w r CG A cs sts av:=by
 obtain⟨T,u,f⟩:=g.bs;obtain⟨y,R,d,O⟩:=g.nu;obtain⟨G,N,c,m⟩:=g.st;have Z:=JT b J;refine⟨b _ _ (Yv g.ins J (by intro z;cases z)) g.ins,⟨T,b _ _ n.symm u,JQ Z _ (J3 cs) f⟩,⟨y,b _ _ (Yv R J Uh) R,d.tk O Z,O⟩,g.nd,G,b _ _ (Yv N J (by intro z;cases z)) N,c,λk st e=>?_⟩;obtain⟨t,p,q,Q,X,C,U,S⟩:=m k st e;obtain⟨E,j,L,B,D⟩:=U;exact⟨t,p,q,Q,Z _ _ X,Z _ _ C,⟨E,j,b _ _ (Yv L J (by intro z;cases z)) L,B,λx M e=>let⟨v,I,F⟩:=D x M e;⟨v,I,VO Z _ (Tg.ti M) F⟩⟩,S⟩
def KnR.lb(k:KnR A H a ρ m)(G:H l=some (.lst B))(b:SameB l H T):KnR A T a ρ m:=by
 obtain⟨n,Z,L,O,R⟩:=k;exact⟨n,Z,b _ _ (Yv L G (by intro z;cases z)) L,O,λx J e=>let⟨v,N,M⟩:=R x J e;⟨v,N,VO (JT b G) _ (Tg.ti J) M⟩⟩
end L2
namespace K4
open PySem L2
section
variable{C CK CG CO CW CD:Addr}
def Cg(A:OM):(Jj A).lookup ("with_let":Str)=none:=rfl
inductive zL(P:Program)(w:World)(C CK CG CO:Addr)(n:Nat)(H:Hp)(Q:VK):List V->Prop
 |mk (Hm:Hp) (A:GA) (ks:List (Str×Shp)) (d:Str->Nat) (ds:List Dd) (cs:List Mk1) (sts:Nat->Option Sta) (av:Addr->Prop) (O:OM) (b c:Bd) (pl:List Int) (p kn:Addr) (ρ:Rho) (zs:List V) (mx:MX P w Hm H C CK CG A ks d ds cs sts av) (gm:GM H CO A O b) (hz:H O.wl=some (.lst zs)) (wb:O.wl≠A.bs) (hp:H p=some (.tup (pl.map V.int))) (hc:b.at pl=some c) (ok:OkB ds ρ n c) (kr:KnR A H kn ρ (3+pl.length)) (nk:¬av kn) (al:∀a,av a->∃o,H a=some o) (on:O.n<=cs.length) (lc:cs.length+c.size<=900) (lw:pl.length+n<=400) (lz:zs.length<=400)
  (q1:∀t,c=.tag t->∀u H',Same H H'->Has H' u (.tup [.str "head",tagD t])->Q u H') (q2:∀x th,c=.name x->ρ x=some th->∀u H',Same H H'->Has H' u (.tup [.str "thing",th.dat])->Q u H')
  (q3:∀f as,c=.ask f as->∀u th cs' sts' H',TAp ds O.F b O.n ρ (n+1) pl (cs,sts) th (cs',sts')->cs.length<=cs'.length->cs'.length<=cs.length+c.size->FrG A H H'->GG P w H' CG A cs' sts' av->Has H' u (.tup [.str "thing",th.dat])->Q u H')
  (q4:∀x k' e r,c=.letb x k' e r->∀u k cs1 s2 H',XO cs (O.n,pl++[0]) k cs1->MCp ds O.F (Up ρ x (.cell k)) (λi=>TAp ds O.F b O.n (Up ρ x (.cell k)) n (pl++[0]++[(i:Int)])) e (pl++[0]) k (cs1,sts) s2->cs.length<=s2.1.length->s2.1.length<=cs.length+c.size->FrG A H H'->GG P w H' CG A s2.1 s2.2 av->StB A av H' u (pl++[1]) (Up ρ x (.cell k))->Q u H')
  (q5:∀e ts bs,c=.choose e ts bs->∀u z H',SameB O.wl H H'->H' O.wl=some (.lst (zs++[z]))->WEm A av H' z (c,pl,ρ)->StB A av H' u (pl++[0]) ρ->Q u H'):zL P w C CK CG CO n H Q [.ref O.t,.ref p,.ref kn]
def Ib(P:Program)(w:World)(C CK CG CO:Addr)(n:Nat):Sp:=λZ H Q _=>zL P w C CK CG CO n H Q Z
def S6(TO:OCl K CO)(F:Fun K "from_body" "Going.from_body" WW f fd)(DP:Df P w K mg base L "part_at" ["body","place"] Jv)(m1:VI K CO "thing_at" g1)(G1:Yf P w K mg base CX0 L g1 d1 spk (E6 P w C CK CG CO<|n+1))(b1:Binds K d1 spk [])(m2:VI K CO "with_let" I)(G2:Yf P w K mg base CX0 L I d2 ["self","body","place","known"] (SA P w C CK CG CO n))(b2:Binds K d2 ["self","body","place","known"] []):Yf P w K mg base CX0 (L+1) f fd ["self","place","known"] (Ib P w C CK CG CO n):=by
 refine F.oi A2 λF4 A R5 s H vs Q E hr h=>?_;obtain⟨Hm,A',ks,d,ds,cs,G3,av,O,b,c,pl,p,kn,ρ,zs,mx,gm,hz,wb,hp,hc,g,kr,nk,al,on,lc,lw,lz,q1,q2,q3,q4,q5⟩:=h;have hu:=V9 hr;refine⟨_,YY (Yx 3 A2.nd<|VS DP hr<|pa2 (Yn (pv 0) rfl)<|pv 1)
  (YY (Y1 (Yr VZ (Yo (r:=Vb K) Yt (pv 3)<|Ya) Yy<|Yz _) (YZ<|Ym<|Yi<|pa2 (Yy)<|pv 3) Yp)
  (YY (Y1 (Yr VZ (Yo (r:=Vb K) Yt (pv 3)<|Ya) Yy<|Yz _) (YZ<|Ym<|Yi<|pa2 (Yy)<|Vj hu (pv 2) (Yo (r:=Vb K) Yt (pv 3)<|Ya) λ_ _=>rfl) Yp)
  (YY (Y1 (Yr VZ (Yo (r:=Vb K) Yt (pv 3)<|Ya) Yy<|Yz _) JV Yp)
  (YY (Y1 (Yr VZ (Yo (r:=Vb K) Yt (pv 3)<|Ya) Yy<|Yz _) (YZ<|Ym<|Yi<|pa2 (Yy)<|Y6 (pv 0) TO.cl m1 G1 hr b1 .nil Y2<|pa2 (pv 1)<|pv 2) Yp)
  (YY (Y1 (Yr VZ (Yo (r:=Vb K) Yt (pv 3)<|Ya) Yy<|Yz _) (YZ<|Ym<|Yi<|pa3 (Yy) (Y9 (r:=λx y H Q=>UO K x y H Q\/UN K x y H Q) UA (pv 1)<|Yi<|pa1<|Ya)<|Y6 (pv 0) TO.cl m2 G2 hr b2 .nil Y2<|pa3 (pv 3) (pv 1)<|pv 2) Yp)
  (YY (VQ<|J1 Zz Z0 Z1 Vu (Yn (pv 0) rfl)<|pa1<|Yi<|pa3 (pv 3) (pv 1)<|pv 2)
  (YZ<|Ym<|Yi<|pa3 (Yy) (Y9 (r:=λx y H Q=>UO K x y H Q\/UN K x y H Q) UA (pv 1)<|Yi<|pa1<|Ya)<|pv 2))))))),?_⟩
 dsimp only[Vf,Cx.nox,Cx.wish];show let T0:=_;let T1:=Yk _ T0;let T2:=_;let T3:=Yk (VE _ T2 _) T1;let T4:=_;let T5:=Yk (VE _ T4 _) T3;let T6:=Yk (VE _ _ _) T5;let T7:=_;let T8:=Yk (VE _ T7 _) T6;let T9:=_;let F1:=Yk (VE _ T9 _) T8;Yk _ F1 _ _ _
 intros
 refine⟨CO,_,_,_,gm.ins,TO.cl,TO.bd,LC _,_,p,b,c,pl,gm.bd,gm.ok,hp,hc,λu H1 T Z=>?_⟩;have l:=mx.mono T;have D:=gm.mono T;have S:=kr.mono T;have R4:∀a,av a->∃o,H1 a=some o:=λa h=>let⟨o,e⟩:=al a h;⟨o,T _ _ e⟩
 have X:=T _ _ hp;have U:=Z
 cases c with
 |pair=>exact g.elim
 |one=>exact g.elim
 |other=>exact g.elim
 |tag t=>
  unfold Bd.dat at Z;obtain⟨a,ys,rfl,J,j⟩:=Yw Z;obtain⟨x1,r1,rfl,q,B⟩:=Yd j;obtain rfl:=has_str q;refine⟨_,_,Z2 J,at0,Y,_,Y,VH (by decide +kernel) ⟨sl 2,λr R=>?_⟩⟩;refine up_in R _ λH2 N I=>q1 t Y _ _ (T.trans N) ?_;unfold Bd.dat at U;exact Yu I<|Z4 Y4<|Z5<|U.mono N
 |name x=>
  unfold Bd.dat at Z;obtain⟨a,ys,rfl,J,j⟩:=Yw Z;obtain⟨x1,r1,rfl,q,B⟩:=Yd j;obtain⟨x2,r2,rfl,e2,D2⟩:=Yd B;obtain rfl:=VD D2;obtain rfl:=has_str q;obtain rfl:=has_str e2;obtain⟨th,O1⟩:=g;refine⟨_,_,Z2 J,at0,Y,_,Y,Y0 (by decide +kernel) ?_⟩;refine⟨_,_,Z2 J,at0,Y,_,Y,VH (by decide +kernel) ?_⟩;obtain⟨_,F2,k1,_,k2⟩:=id S;obtain⟨v,v1,v2⟩:=k2 x th O1;refine⟨_,_,Z2 J,at1,v,by rw[<-v1];exact Vg.k (k:=Sum.inr x) k1,⟨sl 2,λr R=>?_⟩⟩;refine up_in R _ λH2 N I=>q2 x th Y O1 _ _ (T.trans N) ?_;exact Yu I<|Z4 Y4<|Z5<|v2.mono N
 |ask f' as=>
  unfold Bd.dat at Z;obtain⟨a,ys,rfl,J,j⟩:=Yw Z;obtain⟨x1,r1,rfl,q,B⟩:=Yd j;obtain rfl:=has_str q;refine⟨_,_,Z2 J,at0,Y,_,Y,Y0 (by decide +kernel) ?_⟩;refine⟨_,_,Z2 J,at0,Y,_,Y,Y0 (by decide +kernel) ?_⟩;refine⟨_,_,Z2 J,at0,Y,_,Y,Y0 (by decide +kernel) ?_⟩;refine⟨_,_,Z2 J,at0,Y,_,Y,VH (by decide +kernel) ?_⟩;refine⟨_,_,D.ins,Qd _,Hm,A',ks,d,ds,cs,G3,av,O,b,_,pl,p,kn,ρ,l,D,X,hc,g,S,nk,R4,on,lc,by omega,λu2 th E2 J2 H2 ta l1 l2 f2 I hu=>⟨sl 2,λr R=>?_⟩⟩;refine up_in R _ λH3 s3 g3=>q3 f' as Y _ th E2 J2 H3 ta l1 l2 ((FrG.of T).trans<|f2.trans<|.of s3) (I.mono s3) ?_;exact Yu g3<|Z4 Y4<|Z5<|hu.mono s3
 |letb x k' e r=>
  unfold Bd.dat at Z;obtain⟨a,ys,rfl,J,j⟩:=Yw Z;obtain⟨x1,r1,rfl,q,B⟩:=Yd j;obtain rfl:=has_str q;refine⟨_,_,Z2 J,at0,Y,_,Y,Y0 (by decide +kernel) ?_⟩;refine⟨_,_,Z2 J,at0,Y,_,Y,Y0 (by decide +kernel) ?_⟩;refine⟨_,_,Z2 J,at0,Y,_,Y,Y0 (by decide +kernel) ?_⟩;refine⟨_,_,Z2 J,at0,Y,_,Y,Y0 (by decide +kernel) ?_⟩;refine⟨_,_,Z2 J,at0,Y,_,Y,VH (by decide +kernel) ⟨sl 1,λt2 D1=>?_⟩⟩;refine up_in D1 _ λH2 N I=>?_;refine XG (JC<|N _ _ X) (XA I) (by simp) (by simp;omega) λu3 H3 s3 h3=>?_;obtain⟨a3,rfl,E1⟩:=UC h3;have G:=N.trans s3;have R3:∀a,av a->∃o,H3 a=some o:=λa h=>let⟨o,e⟩:=R4 a h;⟨o,G _ _ e⟩
  have F3:(Bd.letb x k' e r).size=1+(e.size+r.size):=by conv=>lhs;unfold Bd.size
  refine⟨_,_,(D.mono G).ins,Cg _,Hm,A',ks,d,ds,cs,G3,av,O,b,x,k',e,r,pl,_,p,kn,ρ,l.mono G,D.mono G,G _ _ X,hc,U.mono G,g.1,g.2,S.mono G,R3,on,by omega,by omega,λR7 k E3 s4 H4 na mc l1 l2 f4 g4 fk R6=>⟨sl 3,λt5 D0=>?_⟩⟩;refine up_in D0 _ λH5 i g5=>q4 x k' e r Y _ k E3 s4 H5 na mc l1 (by omega) ((FrG.of<|T.trans G).trans<|f4.trans<|.of i) (g4.mono i) ⟨t5,a3,R7,rfl,g5,i _ _<|(l.mono G).gg.tk f4 _ _ E1,R6.mono i,λz=>let⟨o,e⟩:=R3 _ z;by rw[fk]at e;cases e⟩
 |choose e ts bs=>
  unfold Bd.dat at Z;obtain⟨a,ys,rfl,J,j⟩:=Yw Z;obtain⟨x1,r1,rfl,q,B⟩:=Yd j;obtain rfl:=has_str q;refine⟨_,_,Z2 J,at0,Y,_,Y,Y0 (by decide +kernel) ?_⟩;refine⟨_,_,Z2 J,at0,Y,_,Y,Y0 (by decide +kernel) ?_⟩;refine⟨_,_,Z2 J,at0,Y,_,Y,Y0 (by decide +kernel) ?_⟩;refine⟨_,_,Z2 J,at0,Y,_,Y,Y0 (by decide +kernel) ?_⟩;refine⟨_,_,Z2 J,at0,Y,_,Y,Y0 (by decide +kernel) ?_⟩;refine⟨CO,_,_,_,D.ins,TO.cl,TO.wt,EN _,.inl ⟨Y,_,Z3<|T _ _ hz⟩,sl 3,λr R=>?_⟩;refine up_in R _ λH2 N I=>⟨O.wl,_,_,Y,Y,N _ _<|T _ _ hz,Yj<|by omega,?_⟩;have M2:=N _ _<|T _ _ hz;refine fld_in O.wl _ λH3 b3 g3=>⟨sl 1,λo ho=>?_⟩;have m:=JT b3 M2;refine up_in ho _ λH4 s4 g4=>?_;have R1:=m _ _<|N _ _ X;refine XG (JC<|s4 _ _ R1) (XA g4) (by simp) (by simp;omega) λu5 H5 i h5=>⟨sl 3,λt6 R8=>?_⟩;refine up_in R8 _ λH6 s6 g6=>?_;have M:=(s4.trans i).trans s6;obtain⟨a5,rfl,D3⟩:=UC h5;have L1:KnR A' H3 kn ρ (3+pl.length):=(S.mono N).lb M2 b3;refine q5 e ts bs Y _ (.ref r) H6 (((T.trans N).sb.trans b3).trans M.sb) (M _ _ g3) ⟨r,_,p,kn,Y,M _ _<|m _ _ I,(VO m _ (Bd.ti _)<|U.mono N).mono M,M _ _ R1,L1.mono M,nk⟩ ⟨t6,a5,kn,rfl,g6,s6 _ _ D3,(L1.mono M).le (by rw[ZL];omega),nk⟩
end
end K4
namespace L2
open PySem
def WEm.fr(h:WEm A av H z c)(g:GG P w H CG A cs sts av')(f:FrG A H T):WEm A av T z c:=by
 obtain⟨t,R,p,J,e,O,N,M,L,G⟩:=h;have Z:=g.tk f;exact⟨t,R,p,J,e,Z _ _ O,VO Z _ (Bd.ti _) N,Z _ _ M,L.fr g f,G⟩
def WEm.lb(h:WEm A av H z c)(J:H l=some (.lst D))(b:SameB l H B):WEm A av B z c:=by
 obtain⟨t,T,p,G,e,R,O,N,M,L⟩:=h;have Z:=JT b J;exact⟨t,T,p,G,e,Z _ _ R,VO Z _ (Bd.ti _) O,Z _ _ N,M.lb J b,L⟩
def WLm(A:GA)(av:Addr->Prop)(H:Hp)(zs:kH)(l:List WEn):Prop:=zs.length=l.length/\∀(k:Nat) z c,zs[k]?=some z->l[k]?=some c->WEm A av H z c
def WLm.fr(h:WLm A av H Z l)(g:GG P w H CG A cs sts av')(f:FrG A H L):WLm A av L Z l:=⟨h.1,λk z c G J=>(h.2 k z c G J).fr g f⟩
def WLm.lb(h:WLm A av H Z l)(J:H a=some (.lst N))(b:SameB a H M):WLm A av M Z l:=⟨h.1,λk z c L G=>(h.2 k z c L G).lb J b⟩
def WLm.snoc(h:WLm A av H L l)(e:WEm A av H z c):WLm A av H (L++[z]) (l++[c]):=by
 refine⟨by rw[ZL,ZL,h.1];rfl,λk y d Z J=>?_⟩;rcases ja k L.length with G|G
 .rw [yi G]at Z
  rw[yi (by rw[<-h.1];exact G)]at J;exact h.2 k y d Z J
 .rw [yh G]at Z
  rw[yh (by rw[<-h.1];exact G)]at J;rw[<-h.1]at J
  cases hz:k-L.length with
  |zero=>
   rw[hz]at Z J;cases Z;cases J;exact e
  |succ m=>rw[hz]at Z;simp at Z
def WLm.last(h:WLm A av H Z (l++[c])):∃J z,Z=J++[z]/\WLm A av H J l/\WEm A av H z c:=by
 have e:=h.1;rw[ZL,yg]at e;have G:Z≠[]:=λz=>by rw[z]at e;simp at e
 exists Z.dropLast,Z.getLast G,(yw G).symm,⟨by rw[jQ];omega,λk z d M L=>?_⟩
 .have kl:=(ZF.mp L).1
  rw[List.getElem?_dropLast,Zp (by omega)]at M;exact h.2 k z d M (by rw[yi kl];exact L)
 .refine h.2 l.length _ _ ?_ (by rw[yh (ZG _),yr];rfl)
  rw[List.getLast_eq_getElem];rw[show l.length=Z.length-1 by omega];exact ZD _
inductive Stp where
 |body (pl:List Int) (ρ:Rho)|thing (th:Tg)|head (t:Str)|want (k:Nat)
def Stp.on(A:GA)(av:Addr->Prop)(H:Hp)(u:V):Stp->Prop
 |.body pl ρ=>StB A av H u pl ρ
 |.thing th=>Has H u<|.tup [.str "thing",th.dat]
 |.head t=>Has H u<|.tup [.str "head",K4.tagD t]
 |.want k=>Has H u<|.tup [.str "want",.int (k:Nat)]
inductive Gos(ds:List Dd)(F:Str)(b:Bd)(num n:Nat):Nat->Stp->List WEn->Ss->Stp->List WEn->Ss->Prop
 |stopW:Gos ds F b num n 0 (.want k) l s (.want k) l s
 |stopH:Gos ds F b num n 0 (.head t) [] s (.head t) [] s
 |thC (g:Gos ds F b num n m (.want k) l s r l' s'):Gos ds F b num n (m+1) (.thing (.cell k)) l s r l' s'
 |thT (g:Gos ds F b num n m (.head t) l s r l' s'):Gos ds F b num n (m+1) (.thing (.tag t)) l s r l' s'
 |tag (h:b.at pl=some (.tag t)) (lc:s.1.length+1<=900) (lw:pl.length+n<=400) (ll:l.length<=400) (g:Gos ds F b num n m (.head t) l s r l' s'):Gos ds F b num n (m+1) (.body pl ρ) l s r l' s'
 |name (h:b.at pl=some (.name x)) (e:ρ x=some th) (lc:s.1.length+1<=900) (lw:pl.length+n<=400) (ll:l.length<=400) (g:Gos ds F b num n m (.thing th) l s r l' s'):Gos ds F b num n (m+1) (.body pl ρ) l s r l' s'
 |ask (h:b.at pl=some (.ask f as)) (ok:OkT ds ρ (n+1) (.ask f as)) (lc:s.1.length+(Bd.ask f as).size<=900) (lw:pl.length+n<=400) (ll:l.length<=400) (g:∀th s1,TAp ds F b num ρ (n+1) pl s th s1->Gos ds F b num n m (.thing th) l s1 r l' s'):Gos ds F b num n (m+1) (.body pl ρ) l s r l' s'
 |letb (h:b.at pl=some (.letb x k' e q)) (ce:e.cellB) (ok:∀k,OkT ds (Up ρ x (.cell k)) (n+1) e) (lc:s.1.length+(Bd.letb x k' e q).size<=900) (lw:pl.length+n<=400) (ll:l.length<=400)
   (g:∀k cs1 s2,XO s.1 (num,pl++[0]) k cs1->MCp ds F (Up ρ x (.cell k)) (λi=>TAp ds F b num (Up ρ x (.cell k)) n (pl++[0]++[(i:Int)])) e (pl++[0]) k (cs1,s.2) s2->Gos ds F b num n m (.body (pl++[1]) (Up ρ x (.cell k))) l s2 r l' s'):Gos ds F b num n (m+1) (.body pl ρ) l s r l' s'
 |push (h:b.at pl=some (.choose e ts bs)) (lc:s.1.length+(Bd.choose e ts bs).size<=900) (lw:pl.length+n<=400) (ll:l.length<=400) (g:Gos ds F b num n m (.body (pl++[0]) ρ) (l++[(.choose e ts bs,pl,ρ)]) s r l' s'):Gos ds F b num n (m+1) (.body pl ρ) l s r l' s'
 |cho {j:Nat}(nt:ts.Nodup) (lt:ts.length<=50) (lb:bs.length=ts.length) (ht:ts[j]?=some t) (lp:pl.length<=400) (g:Gos ds F b num n m (.body (pl++[1+(j:Int)]) ρ) l s r l' s'):Gos ds F b num n (m+1) (.head t) (l++[(.choose e ts bs,pl,ρ)]) s r l' s'
def FrW(A:GA)(l:Addr)(H H':Hp):Prop:=∀b o,b≠A.bs->b≠A.nu->b≠A.st->b≠l->H b=some o->H' b=some o
def FrW.refl(A:GA)(l:Addr)(H:Hp):FrW A l H H:=λb o _ _ _ _ h=>h
def FrW.trans(a:FrW A l H N)(b:FrW A l N M):FrW A l H M:=λc o L G J Z e=>b c o L G J Z<|a c o L G J Z e
def FrW.of(f:FrG A H L):FrW A l H L:=λb o G J Z _ e=>f b o G J Z e
def FrW.sb(f:SameB l H J):FrW A l H J:=λb o _ _ _ Z e=>f b o Z e
end L2
namespace K4
open PySem L2
section
variable{C CK CG CO CW CD:Addr}
inductive zK(CO:Addr)(H:Hp)(Q:VK):List V->Prop
 |mk (A:GA) (av:Addr->Prop) (O:OM) (b:Bd) (y:V) (t:Str) (e:Bd) (ts:List Str) (bs:List Bd) (j:Nat) (pl:List Int) (ρ:Rho) (ys:List V) (z:V) (g:GM H CO A O b) (hz:H O.wl=some (.lst (ys++[z]))) (we:WEm A av H z (.choose e ts bs,pl,ρ)) (hy:Has H y (tagD t)) (nt:ts.Nodup) (lt:ts.length<=50) (lb:bs.length=ts.length) (ht:ts[j]?=some t) (lp:pl.length<=400)
  (q:∀u H',SameB O.wl H H'->H' O.wl=some (.lst ys)->StB A av H' u (pl++[1+(j:Int)]) ρ->Q u H'):zK CO H Q [.ref O.t,y]
def Ia(CO:Addr):Sp:=λZ H Q _=>zK CO H Q Z
def S5(me:mg "enumerate"=none)(TO:OCl K CO)(F:Fun K "from_head" "Going.from_head" WV f fd):Yf P w K mg base CX0 (n+4) f fd ["self","head"] (Ia CO):=by
 refine F.oi BU λT7 A m s H vs Q E hr h=>?_;refine⟨_,YY (Jq (Ka Zz PySem.F.slot_list_pop PySem.F.type_list_pop K9<|Yn (pv 0) rfl)<|Vd (n:=3) rfl (Ys (Yl 2 BU.nd)<|Ys (Yl 3 BU.nd)<|Ys (Yl 4 BU.nd) VN))
  (YY (Y1 (Yr VZ (Yo (r:=Vb K) Yt (pv 2)<|Ya) Yy<|Yz _) (YZ (Jb Zv rfl (W8 rfl me (pa1<|Yo (r:=Vb K) Yt (pv 2)<|Ya)) (Vd (n:=2) rfl (Ys (Yl 5 BU.nd)<|Ys (Vd (n:=2) rfl (Ys (Yl 6 BU.nd)<|Ys (Yl 7 BU.nd) VN)) VN))
   (YZ<|Y1 (Yr (Sl hr) (pv 1) (Yi<|pa2 (Yy)<|pv 6)<|Yz _) (YZ<|Ym<|Yi<|pa3 (Yy) (Y9 (r:=λx y H Q=>UO K x y H Q\/UN K x y H Q) UA (pv 3)<|Yi<|pa1<|Y9 Vn Ya<|pv 5)<|pv 4) Yp))) JV)
  JV),?_⟩
 dsimp only[Vf,Cx.nox,Cx.wish];show let T0:=_;let T1:=VE _ T0 _;let T2:=XH _ _ T1;let T3:=Yk (VE _ T2 _) _;Yk _ T3 _ _ _
 intros
 obtain⟨A',av,O,b,y,t,e,ts,bs,j,pl,ρ,ys,z,g,S,we,hy,nt,lt,lb,ht,lp,q⟩:=h;obtain⟨tz,bv,p,kn,rfl,J2,i,o,l,u⟩:=we;refine⟨CO,_,_,_,g.ins,TO.cl,TO.wt,EN _,.inl ⟨Y,_,Z3 S⟩,O.wl,_,_,Y,Y,S,by rw[ZL,yg,Nat.add_sub_cancel,yh<|ZG _,yr];rfl,?_⟩;rw[List.dropLast_concat];refine fld_in O.wl _ λH1 b1 g1=>?_;have D:=JT b1 S;exists _,Z2<|D _ _ J2,rfl;have hb:=VO D _ (Bd.ti _) i;unfold Bd.dat at hb;obtain⟨a,T8,rfl,T,hl⟩:=Yw hb;obtain⟨x1,r1,rfl,e1,R5⟩:=Yd hl;obtain⟨x2,r2,rfl,e2,R4⟩:=Yd R5;obtain⟨x3,r3,rfl,e3,R3⟩:=Yd R4;obtain rfl:=VD R3;obtain rfl:=has_str e1;obtain⟨tb,xs,rfl,R,N⟩:=Yw e3;have lx:=N.length;rw[brs_len lb]at lx;have jl:=(ZF.mp ht).1;refine⟨_,_,Z2 T,at0,Y,_,Y,VH (by decide +kernel) ?_⟩;exists _,_,Z2 T,at2,tb,true,xs,Y,Z2 R;have G1:Has H1 y (tagD t):=VO D _ (by simp[tagD,Dat.ti,Dat.tis]) hy;have M2:Has H1 (.ref p) (JD pl):=JC<|D _ _ o;have c:=l.lb S b1
 let I:kI:=λk U X=>Same H1 X/\k<=j/\∃z5 z6 z7,U=[some (.ref O.t),some y,some<|.ref a,some<|.ref p,some<|.ref kn,z5,z6,z7]
 refine TZ (tp:=true) (xs:=xs) I ⟨Z8 _,Zc _,_,_,_,Y⟩ (λk U X _ z=>Z2<|z.1 _ _ R) ?_ ?_
 .rintro k v U X r hv ⟨s1,kj,z5,z6,z7,rfl⟩ hr'
  refine up_in hr' _ λH2 s2 g2=>?_;have M:=s1.trans s2;obtain⟨d,T4,R8⟩:=N.get hv;obtain⟨Z,bk,G,rfl⟩:=L9 T4;have R7:=R8.mono M;obtain⟨aw,us,rfl,T5,R6⟩:=Yw R7;obtain⟨y1,r1,rfl,f1,R1⟩:=Yd R6;obtain⟨y2,r2,rfl,f2,O1⟩:=Yd R1;obtain rfl:=VD O1;obtain rfl:=has_str f1;refine⟨_,Z2 g2,Y,⟨_,Z2 T5,Y,sl 2,λtq G2=>?_⟩⟩;refine up_in G2 _ λH3 s3 g3=>?_;have J:=M.trans s3;have dd:(tagD t).dep<=n+2:=by simp[tagD,Dat.dep,Dat.deps]
  exists tagD t,tagD Z,G1.mono J,OW g3,dd,_,Y
  have B:(tagD t).pq (tagD Z)=decide (t=Z):=by
   simp only[tagD,Dat.pq,Dat.pqs,Bool.and_true,beq_self_eq_true,Bool.true_and];rw[vJ];simp
  by_cases ej:k=j
  .subst ej
   rw[ht]at G;cases G;refine VH (by rw[B];simp) ?_;refine⟨sl 1,λto G3=>?_⟩;refine up_in G3 _ λH4 s4 g4=>?_;refine XG (M2.mono<|J.trans s4) (XA g4) (by simp) (by simp;omega) λu5 H5 s5 h5=>⟨sl 3,λt6 L1=>?_⟩;refine up_in L1 _ λH6 s6 g6=>?_;obtain⟨a5,rfl,T6⟩:=UC h5;have L:=((J.trans s4).trans s5).trans s6;exact q _ _ (b1.trans L.sb) (L _ _ g1) ⟨t6,a5,kn,Y,g6,s6 _ _ T6,(c.mono L).le (by show 3+pl.length<=_;rw[ZL];omega),u⟩
  .have ne:¬t=Z:=λz=>by
    subst z;have kl:=(ZF.mp G).1;exact ve.mp nt k j kl jl (by omega)<|(ZF.mp G).2.trans (ZF.mp ht).2.symm
   refine Y0 (by rw[B];simp[ne]) ⟨J,by omega,_,_,_,Y⟩
 .rintro U X ⟨s1,kj,_⟩
  exact Zr kj<|by omega
end
end K4
namespace L2
open PySem
structure RG(P:Program)(w:World)(Hm H:Hp)(C CK CG CO:Addr)(A:GA)(ks:List (Str×Shp))(d:Str->Nat)(ds:List Dd)(av:Addr->Prop)(O:OM)(b:Bd)(l:List WEn)(s:Ss):Prop where
 mx:MX P w Hm H C CK CG A ks d ds s.1 s.2 av
 al:∀a,av a->∃o,H a=some o
 gm:GM H CO A O b
 wl:∃zs,H O.wl=some (.lst zs)/\WLm A av H zs l
 wb:O.wl≠A.bs
 fw:Hm O.wl=none
 on:O.n<=s.1.length
def RG.same(g:RG P w N H C T CG CO A J d M av O b l s)(e:Same H R):RG P w N R C T CG CO A J d M av O b l s:=by
 obtain⟨Z,L,G⟩:=g.wl;exact⟨g.mx.mono e,λa h=>let⟨o,q⟩:=g.al a h;⟨o,e _ _ q⟩,g.gm.mono e,⟨Z,e _ _ L,G.fr g.mx.gg<|.of e⟩,g.wb,g.fw,g.on⟩
def RG.fr(g:RG P w F H C I CG CO A G d E av O b l s)(f:FrG A H M)(L:GG P w M CG A Z.1 Z.2 av)(h:s.1.length<=Z.1.length):RG P w F M C I CG CO A G d E av O b l Z:=by
 obtain⟨N,J,T⟩:=g.wl
 have n:O.wl≠A.nu/\O.wl≠A.st:=by
  obtain⟨R,D,_⟩:=g.mx.gg.nu;obtain⟨G,B,_⟩:=g.mx.gg.st;exact⟨Yv J D Uh.symm,Yv J B (by intro z;cases z)⟩
 exact⟨g.mx.fr f L,N3 g.al f L,g.gm.fr g.mx.gg f,⟨N,f _ _ g.wb n.1 n.2 J,T.fr g.mx.gg f⟩,g.wb,g.fw,Zb g.on h⟩
def RG.lb(g:RG P w T H C B CG CO A M d R av O b l s)(f:SameB O.wl H J)(h:J O.wl=some (.lst zs'))(G:WLm A av J zs' l'):RG P w T J C B CG CO A M d R av O b l' s:=by
 obtain⟨D,Z,E⟩:=g.wl;have L:=JT f Z;refine⟨⟨λa o e=>f a o (Yb e g.fw)<|g.mx.sm _ _ e,g.mx.bi,g.mx.f1,g.mx.f2,g.mx.f3,g.mx.gg.lb Z g.wb f⟩,λa N=>?_,⟨f _ _ (Yv g.gm.ins Z (by intro z;cases z)) g.gm.ins,VO L _ (Bd.ti _) g.gm.bd,g.gm.ok,g.gm.gr⟩,⟨zs',h,G⟩,g.wb,g.fw,g.on⟩
 by_cases z:a=O.wl
 .exact ⟨_,by rw[z];exact h⟩
 .obtain ⟨o,q⟩:=g.al a N
  exact⟨o,f a o z q⟩
end L2
namespace K4
open PySem L2
section
variable{C CK CG CO CW CD:Addr}
def NW(A:OM):(Jj A).lookup ("from_body":Str)=none:=rfl
def Qg(A:OM):(Jj A).lookup ("from_thing":Str)=none:=rfl
def Cm(A:OM):(Jj A).lookup ("from_head":Str)=none:=rfl
def Qf(A:OM):(Jj A).lookup ("go_on":Str)=none:=rfl
inductive zH(P:Program)(w:World)(C CK CG CO:Addr)(n:Nat)(H:Hp)(Q:VK):List V->Prop
 |mk (Hm:Hp) (A:GA) (ks:List (Str×Shp)) (d:Str->Nat) (ds:List Dd) (av:Addr->Prop) (O:OM) (b:Bd) (l:List WEn) (s:Ss) (u:V) (m:Nat) (x r:Stp) (l':List WEn) (s':Ss) (rg:RG P w Hm H C CK CG CO A ks d ds av O b l s) (hx:x.on A av H u) (gs:Gos ds O.F b O.n n m x l s r l' s')
  (q:∀v H',FrW A O.wl H H'->RG P w Hm H' C CK CG CO A ks d ds av O b l' s'->r.on A av H' v->Q v H'):zH P w C CK CG CO n H Q [.ref O.t,u]
def EC(P:Program)(w:World)(C CK CG CO:Addr)(n:Nat):Sp:=λZ H Q _=>zH P w C CK CG CO n H Q Z
def Sy(B:Blt mg)(TO:OCl K CO)(F:Fun K "go_on" "Going.go_on" K3 f fd)(mB:VI K CO "from_body" fB)(GB:Yf P w K mg base CX0 L fB fBd ["self","place","known"] (Ib P w C CK CG CO n))(bB:Binds K fBd ["self","place","known"] [])(mT:VI K CO "from_thing" fT)(GT:Yf P w K mg base CX0 L fT fTd ["self","thing"] IZ)(bT:Binds K fTd ["self","thing"] [])(mH:VI K CO "from_head" fH)(GH:Yf P w K mg base CX0 L fH fHd ["self","head"] (Ia CO))(bH:Binds K fHd ["self","head"] []):Yf P w K mg base CX0 (L+1) f fd ["self","state"] (EC P w C CK CG CO n):=by
 refine F.oi EG λR7 A R1 s H vs Q E hr h=>?_;obtain⟨Hm,A',ks,d,ds,av,O,b,l,s0,u,m,x,r,l',s',rg,hx,gs,q⟩:=h;exists _,YZ<|NJ Zv (JR Xn)<|YZ<|Y1 (Yr VZ (Yo (r:=Vb K) Yt (pv 1)<|Ya) Yy<|Yz _) (YZ<|Yx 1 EG.nd<|Y6 (pv 0) TO.cl mB GB hr bB .nil Y2<|pa2 (Yo (r:=Vb K) Yt (pv 1)<|Ya)<|Yo (r:=Vb K) Yt (pv 1)<|Ya)<|YZ<|Y1 (Yr VZ (Yo (r:=Vb K) Yt (pv 1)<|Ya) Yy<|Yz _) (YZ<|Yx 1 EG.nd<|Y6 (pv 0) TO.cl mT GT hr bT .nil Y2<|pa1<|Yo (r:=Vb K) Yt (pv 1)<|Ya)<|YZ<|Y1 (PW.pt<|MS (Yr VZ (Yo (r:=Vb K) Yt (pv 1)<|Ya) Yy<|Yz _)<|W6<|Yr G8 (VA Y7 rfl B.len Zu (pa1<|Yn (pv 0) rfl)) Ya<|Yz _) (YZ<|Yx 1 EG.nd<|Y6 (pv 0) TO.cl mH GH hr bH .nil Y2<|pa1<|Yo (r:=Vb K) Yt (pv 1)<|Ya)<|YZ<|Ym<|pv 1;dsimp only[Vf,Cx.nox,Cx.wish];show let T0:=_;let T1:=_;let T2:=_;let T3:=_;let T4:=VE _ T2 T3;let T5:=VE _ T1 T4;let T6:=VE _ T0 T5;BE _ T6 _ _ _
 intros
 let W:kI:=λm U H'=>∃x l s u,U=[some (.ref O.t),some u]/\FrW A' O.wl H H'/\RG P w Hm H' C CK CG CO A' ks d ds av O b l s/\x.on A' av H' u/\Gos ds O.F b O.n n m x l s r l' s'
 exists W,⟨m,x,l,s0,u,Y,.refl _ _ _,rg,hx,gs⟩;rintro m U H1 ⟨x,l,R,u,rfl,v,Z,G,R4⟩;refine⟨true,Y,VH Y ⟨λU H'=>∃m',m'<m/\W m' U H',λU' H' z=>z,?_⟩⟩;obtain⟨zs,c,wl⟩:=Z.wl
 cases R4 with
 |stopW=>
  have N:Has H1 u (.tup [.str "want",.int (k:Nat)]):=G;obtain⟨t,ys,rfl,J,hl⟩:=Yw N;obtain⟨x1,r1,rfl,g,I⟩:=Yd hl;obtain rfl:=has_str g;refine⟨_,_,Z2 J,at0,Y,_,Y,Y0 (by decide +kernel) ?_⟩;refine⟨_,_,Z2 J,at0,Y,_,Y,Y0 (by decide +kernel) ?_⟩;refine⟨_,_,Z2 J,at0,Y,_,Y,Y0 (by decide +kernel)<|Y0 (by simp) ?_⟩;exact q _ _ v Z G
 |stopH=>
  have N:Has H1 u (.tup [.str "head",tagD t]):=G;obtain⟨t',ys,rfl,J,hl⟩:=Yw N;obtain⟨x1,r1,rfl,g,I⟩:=Yd hl;obtain rfl:=has_str g;have z0:zs=[]:=vj wl.1;subst z0;refine⟨_,_,Z2 J,at0,Y,_,Y,Y0 (by decide +kernel) ?_⟩;refine⟨_,_,Z2 J,at0,Y,_,Y,Y0 (by decide +kernel) ?_⟩;refine⟨_,_,Z2 J,at0,Y,_,Y,VH (by decide +kernel) ?_⟩;refine⟨CO,_,_,_,Z.gm.ins,TO.cl,TO.wt,EN _,O.wl,_,Y,.inl<|Z3 c,_,rfl,Y0 (by decide +kernel)<|q _ _ v Z G⟩
 |thC S=>
  have N:Has H1 u (.tup [.str "thing",(Tg.cell k).dat]):=G;obtain⟨t',ys,rfl,J,hl⟩:=Yw N;obtain⟨x1,r1,rfl,g,I⟩:=Yd hl;obtain⟨o,r2,rfl,M,y⟩:=Yd I;obtain rfl:=VD y;obtain rfl:=has_str g;refine⟨_,_,Z2 J,at0,Y,_,Y,Y0 (by decide +kernel) ?_⟩;refine⟨_,_,Z2 J,at0,Y,_,Y,VH (by decide +kernel) ?_⟩;refine⟨_,_,Z.gm.ins,Qg _,_,_,Z2 J,at1,_,o,.cell k,M,λn' e T H2 X D=>?_,λt e=>nomatch e⟩;cases e;exact⟨_,yk _,.want k,l,R,T,Y,v.trans<|.of<|.of X,Z.same X,D,S⟩
 |thT S=>
  have N:Has H1 u (.tup [.str "thing",(Tg.tag t).dat]):=G;obtain⟨t',ys,rfl,J,hl⟩:=Yw N;obtain⟨x1,r1,rfl,g,I⟩:=Yd hl;obtain⟨o,r2,rfl,M,y⟩:=Yd I;obtain rfl:=VD y;obtain rfl:=has_str g;refine⟨_,_,Z2 J,at0,Y,_,Y,Y0 (by decide +kernel) ?_⟩;refine⟨_,_,Z2 J,at0,Y,_,Y,VH (by decide +kernel) ?_⟩;refine⟨_,_,Z.gm.ins,Qg _,_,_,Z2 J,at1,_,o,.tag t,M,λn' e=>(nomatch e),λt2 e T H2 X D=>?_⟩;cases e;exact⟨_,yk _,.head t,l,R,T,Y,v.trans<|.of<|.of X,Z.same X,D,S⟩
 |tag h lc a ll S=>
  obtain⟨t',p,kn,rfl,J,hp,kr,i⟩:=G;refine⟨_,_,Z2 J,at0,Y,_,Y,VH (by decide +kernel) ?_⟩;have lz:=wl.1;refine⟨_,_,Z.gm.ins,NW _,_,_,Z2 J,at1,_,_,Z2 J,at2,Hm,A',ks,d,ds,R.1,R.2,av,O,b,_,pl,p,kn,ρ,zs,Z.mx,Z.gm,c,Z.wb,hp,h,trivial,kr,i,Z.al,Z.on,by simpa[Bd.size]using lc,a,by omega,λt2 e T H2 X D=>?_,λx th e=>(nomatch e),λf as e=>(nomatch e),λx k e r M=>(nomatch M),λe ts bs M=>(nomatch M)⟩;cases e;exact⟨_,yk _,.head t,l,R,T,Y,v.trans<|.of<|.of X,Z.same X,D,S⟩
 |name h e lc a ll S=>
  obtain⟨t',p,kn,rfl,J,hp,kr,i⟩:=G;refine⟨_,_,Z2 J,at0,Y,_,Y,VH (by decide +kernel) ?_⟩;have lz:=wl.1;refine⟨_,_,Z.gm.ins,NW _,_,_,Z2 J,at1,_,_,Z2 J,at2,Hm,A',ks,d,ds,R.1,R.2,av,O,b,_,pl,p,kn,ρ,zs,Z.mx,Z.gm,c,Z.wb,hp,h,⟨_,e⟩,kr,i,Z.al,Z.on,by simpa[Bd.size]using lc,a,by omega,λt2 e=>(nomatch e),λo G1 g M T H2 X D=>?_,λf as e=>(nomatch e),λx k e r M=>(nomatch M),λe ts bs M=>(nomatch M)⟩;cases g;rw[e]at M;cases M;exact⟨_,yk _,.thing th,l,R,T,Y,v.trans<|.of<|.of X,Z.same X,D,S⟩
 |ask h ok lc a ll S=>
  obtain⟨t',p,kn,rfl,J,hp,kr,i⟩:=G;refine⟨_,_,Z2 J,at0,Y,_,Y,VH (by decide +kernel) ?_⟩;have lz:=wl.1;refine⟨_,_,Z.gm.ins,NW _,_,_,Z2 J,at1,_,_,Z2 J,at2,Hm,A',ks,d,ds,R.1,R.2,av,O,b,_,pl,p,kn,ρ,zs,Z.mx,Z.gm,c,Z.wb,hp,h,ok,kr,i,Z.al,Z.on,lc,a,by omega,λt2 e=>(nomatch e),λo G1 e=>(nomatch e),λf2 M2 e T th L1 J2 H2 ta l1 l2 G3 g2 D=>?_,λx k e r M=>(nomatch M),λe ts bs M=>(nomatch M)⟩;exact⟨_,yk _,.thing th,l,(L1,J2),T,Y,v.trans<|.of G3,Z.fr G3 g2 l1,D,S th (L1,J2) ta⟩
 |letb h ce ok lc a ll S=>
  obtain⟨t',p,kn,rfl,J,hp,kr,i⟩:=G;refine⟨_,_,Z2 J,at0,Y,_,Y,VH (by decide +kernel) ?_⟩;have lz:=wl.1;refine⟨_,_,Z.gm.ins,NW _,_,_,Z2 J,at1,_,_,Z2 J,at2,Hm,A',ks,d,ds,R.1,R.2,av,O,b,_,pl,p,kn,ρ,zs,Z.mx,Z.gm,c,Z.wb,hp,h,⟨ce,ok⟩,kr,i,Z.al,Z.on,lc,a,by omega,λt2 e=>(nomatch e),λo G1 e=>(nomatch e),λf2 M2 e=>(nomatch e),λx3 k3 e3 r3 e4 T k4 R5 X H2 na mc l1 l2 f2 g2 D=>?_,λe ts bs M=>(nomatch M)⟩;cases e4;exact⟨_,yk _,.body _ _,l,X,T,Y,v.trans<|.of f2,Z.fr f2 g2 l1,D,S k4 R5 X na mc⟩
 |push h lc a ll S=>
  obtain⟨t',p,kn,rfl,J,hp,kr,i⟩:=G;refine⟨_,_,Z2 J,at0,Y,_,Y,VH (by decide +kernel) ?_⟩;have lz:=wl.1;refine⟨_,_,Z.gm.ins,NW _,_,_,Z2 J,at1,_,_,Z2 J,at2,Hm,A',ks,d,ds,R.1,R.2,av,O,b,_,pl,p,kn,ρ,zs,Z.mx,Z.gm,c,Z.wb,hp,h,trivial,kr,i,Z.al,Z.on,lc,a,by omega,λt2 e=>(nomatch e),λo G1 e=>(nomatch e),λf2 M2 e=>(nomatch e),λx k e r M=>(nomatch M),λe3 R6 R8 e4 T z H2 b2 G2 we D=>?_⟩;exact⟨_,yk _,.body _ _,l++[_],R,T,Y,v.trans<|.sb b2,Z.lb b2 G2<|(wl.lb c b2).snoc we,D,S⟩
 |cho nt lt lb R3 lp S=>
  have N:Has H1 u (.tup [.str "head",tagD t]):=G;obtain⟨t',ys,rfl,J,hl⟩:=Yw N;obtain⟨x1,r1,rfl,g,I⟩:=Yd hl;obtain⟨o,r2,rfl,M,y⟩:=Yd I;obtain rfl:=VD y;obtain rfl:=has_str g;obtain⟨ys,z,rfl,O1,we⟩:=wl.last;refine⟨_,_,Z2 J,at0,Y,_,Y,Y0 (by decide +kernel) ?_⟩;refine⟨_,_,Z2 J,at0,Y,_,Y,Y0 (by decide +kernel) ?_⟩;refine⟨_,_,Z2 J,at0,Y,_,Y,VH (by decide +kernel) ?_⟩;refine⟨CO,_,_,_,Z.gm.ins,TO.cl,TO.wt,EN _,O.wl,_,Y,.inl<|Z3 c,_,rfl,VH (by rw[ZL,yg];exact decide_eq_true<|by omega) ?_⟩;refine⟨_,_,Z.gm.ins,Cm _,_,_,Z2 J,at1,A',av,O,b,o,t,_,ts,bs,j,pl,ρ,ys,z,Z.gm,c,we,M,nt,lt,lb,R3,lp,λT H2 b2 G2 D=>?_⟩;exact⟨_,yk _,.body _ _,_,R,T,Y,v.trans<|.sb b2,Z.lb b2 G2<|O1.lb c b2,D,S⟩
end
section
variable{C CK CG CO CW CD:Addr}
def za:Yh ["self","head"] ["self","head"] (Yc WU):=Y5
inductive Qq(P:Program)(w:World)(C CK CG CO:Addr)(n:Nat)(H:Hp)(Q:VK):List V->Prop
 |mk (Hm:Hp) (A:GA) (ks:List (Str×Shp)) (d:Str->Nat) (ds:List Dd) (av:Addr->Prop) (O:OM) (b:Bd) (pl:List Int) (ρ:Rho) (s:Ss) (m:Nat) (r:Stp) (l':List WEn) (s':Ss) (rg:RG P w Hm H C CK CG CO A ks d ds av O b [] s) (hp:H O.pl=some (.tup (pl.map V.int))) (kr:KnR A H O.kn ρ (3+pl.length)) (nk:¬av O.kn) (gs:Gos ds O.F b O.n n m (.body pl ρ) [] s r l' s')
  (q:∀v H',FrW A O.wl H H'->RG P w Hm H' C CK CG CO A ks d ds av O b l' s'->r.on A av H' v->Q v H'):Qq P w C CK CG CO n H Q [.ref O.t]
def BO(P:Program)(w:World)(C CK CG CO:Addr)(n:Nat):Sp:=λZ H Q _=>Qq P w C CK CG CO n H Q Z
def Pa(TO:OCl K CO)(F:Fun K "begin" "Going.begin" DB f e)(m:VI K CO "go_on" g)(G:Yf P w K I base CX0 L g u ["self","state"] (EC P w C CK CG CO n))(a:Binds K u ["self","state"] []):Yf P w K I base CX0 (L+1) f e ["self"] (BO P w C CK CG CO n):=by
 refine F.oi A4 λi A N s H vs Q E k h=>?_;obtain⟨Hm,A',X,d,o,x,O,b,B,ρ,R,S,r,U,T,J,p,j,D,c,q⟩:=h;exists _,YZ<|Ym<|Y6 (pv 0) TO.cl m G k a .nil Y2<|pa1<|Yi<|pa3 (Yy) (Yn (pv 0) rfl)<|Yn (pv 0) rfl;dsimp only[Vf,Cx.nox,Cx.wish];refine⟨_,_,J.gm.ins,Qf _,CO,_,_,_,J.gm.ins,TO.cl,TO.pl,Cj _,CO,_,_,_,J.gm.ins,TO.cl,TO.kn,Ck _,sl 3,λt z=>?_⟩;refine up_in z _ λH1 Z l=>?_;exact⟨Hm,A',X,d,o,x,O,b,[],R,_,S,.body B ρ,r,U,T,J.same Z,⟨t,_,_,Y,l,Z _ _ p,j.mono Z,D⟩,c,λv H' f M y=>q v H' ((FrW.of<|.of Z).trans f) M y⟩
inductive zC(P:Program)(w:World)(C CK CG CO:Addr)(n:Nat)(H:Hp)(Q:VK):List V->Prop
 |mk (Hm:Hp) (A:GA) (ks:List (Str×Shp)) (d:Str->Nat) (ds:List Dd) (av:Addr->Prop) (O:OM) (b:Bd) (l:List WEn) (s:Ss) (y:V) (t:Str) (m:Nat) (r:Stp) (l':List WEn) (s':Ss) (rg:RG P w Hm H C CK CG CO A ks d ds av O b l s) (hy:Has H y (tagD t)) (gs:Gos ds O.F b O.n n m (.head t) l s r l' s')
  (q:∀v H',FrW A O.wl H H'->RG P w Hm H' C CK CG CO A ks d ds av O b l' s'->r.on A av H' v->Q v H'):zC P w C CK CG CO n H Q [.ref O.t,y]
def IT(P:Program)(w:World)(C CK CG CO:Addr)(n:Nat):Sp:=λZ H Q _=>zC P w C CK CG CO n H Q Z
def Sr(TO:OCl K CO)(F:Fun K "take_head" "Going.take_head" WU f e)(m:VI K CO "go_on" g)(G:Yf P w K D base CX0 L g c ["self","state"] (EC P w C CK CG CO n))(a:Binds K c ["self","state"] []):Yf P w K D base CX0 (L+1) f e ["self","head"] (IT P w C CK CG CO n):=by
 refine F.oi za λi A M s H vs Q E k h=>?_;obtain⟨Hm,A',U,d,o,x,O,b,l,T,y,R,I,r,S,B,N,X,p,q⟩:=h;exists _,YZ<|Ym<|Y6 (pv 0) TO.cl m G k a .nil Y2<|pa1<|Yi<|pa2 (Yy)<|pv 1;refine⟨_,_,N.gm.ins,Qf _,sl 2,λt z=>?_⟩;refine up_in z _ λH1 Z u=>?_;exact⟨Hm,A',U,d,o,x,O,b,l,T,_,I,.head R,r,S,B,N.same Z,Yu u<|Z4 Y4<|Z5<|X.mono Z,p,λv H' f J j=>q v H' ((FrW.of<|.of Z).trans f) J j⟩
inductive zD(P:Program)(w:World)(C CK CG CO:Addr)(H:Hp)(Q:VK):List V->Prop
 |mk (Hm Hx:Hp) (x dx:Addr) (A:GA) (ks:List (Str×Shp)) (d:Str->Nat) (ds:List Dd) (av:Addr->Prop) (s:Ss) (k:Nat) (sta:Sta) (df:Dd) (h0:Hx x=none) (sm:Same Hx H) (hx:H x=some (.ins CO dx [])) (mx:MX P w Hm Hx C CK CG A ks d ds s.1 s.2 av) (al:∀a,av a->∃o,Hx a=some o) (hs:s.2 k=some sta) (hd:df∈ds) (ef:df.1.1=sta.f) (ok:df.2.ok) (hk:k<=s.1.length)
  (q:∀(O:OM) H',O.t=x->O.n=k->O.F=sta.f->Same Hx H'->Hx O.wl=none->RG P w Hm H' C CK CG CO A ks d ds av O df.2 [] s->H' O.pl=some (.tup (sta.pl.map V.int))->KnR A H' O.kn sta.ρ (3+sta.pl.length)->¬av O.kn->Q .non H'):zD P w C CK CG CO H Q [.ref x,.ref A.t,.int (k:Nat)]
def IU(P:Program)(w:World)(C CK CG CO:Addr):Sp:=λZ H Q _=>zD P w C CK CG CO H Q Z
def Su(TB:BCl K C)(TG:GCl K CG)(TO:OCl K CO)(F:Fun K "__init__" "Going.__init__" K2 f fd)(m:VI K C "body_of" g)(G:Yf P w K mg base CX0 L g gd ["self","F"] (Rz C CK))(bG:Binds K gd ["self","F"] []):Yf P w K mg base CX0 (L+1) f fd ["self","ground","number"] (IU P w C CK CG CO):=by
 refine F.oi ze λG2 A u s H vs Q E hr h=>?_;obtain⟨Hm,S,x,O,i,ks,d,ds,av,s0,k,B,df,l,sm,hx,N,al,hs,hd,ef,ok,hk,q⟩:=h;have hu:=V9 hr;refine⟨_,YY (VT (pv 0) (pv 1) Y)
  (YY (VT (pv 0) (pv 2) rfl)
  (YY (Jq (Vj hu (Yn (pv 1) rfl) (pv 2) λ_ _=>rfl)<|Vd (n:=3) rfl (Ys (By<|pv 0)<|Ys (By<|pv 0)<|Ys (By<|pv 0) VN))
  (YY (VT (pv 0) (Y6 (Yn (pv 1) rfl) TB.cl m G hr bG .nil Y2<|pa1<|Yn (pv 0) rfl) rfl)
  (YZ<|VT (pv 0) (V8 VP) rfl)))),?_⟩
 dsimp only[Vf,Cx.nox,Cx.wish];show let T0:=_;let T1:=Yk _ T0;let T2:=Yk _ T1;let T3:=Yk _ T2;Yk _ T3 _ _ _
 intros
 obtain⟨G1,r,lst,D⟩:=N.gg.st;obtain⟨tt,pp,kn,v1,v2,v3,v4,v5⟩:=D k B hs;refine⟨x,CO,O,_,Y,hx,TO.cl,TO.gr,by decide,?_⟩;refine fld_in x _ λH1 b1 x1=>⟨x,CO,O,_,Y,x1,TO.cl,TO.nu,(by show 1<1000;decide),?_⟩;refine fld_in x _ λH2 b2 x2=>?_;have M:Same S H2:=Uc l sm<|b1.trans b2;refine⟨CG,_,_,_,M _ _ N.gg.ins,TG.cl,TG.st,Dg _,_,by rw[<-v1];exact Vg.k (k:=Sum.inl (k:Int))<|M _ _ r,?_⟩;refine⟨_,Z2<|M _ _ v2,rfl,x,CO,O,_,rfl,x2,TO.cl,TO.f,(by show 2<1000;decide),?_⟩;refine fld_in x _ λH3 b3 x3=>⟨x,CO,O,_,Y,x3,TO.cl,TO.pl,(by show 3<1000;decide),?_⟩;refine fld_in x _ λH4 b4 x4=>⟨x,CO,O,_,Y,x4,TO.cl,TO.kn,(by show 4<1000;decide),?_⟩;refine fld_in x _ λH5 b5 X=>?_;have J:Same S H5:=Uc l M<|(b3.trans b4).trans b5;have I:=N.bi.mono<|N.sm.trans J;obtain⟨A',kv,ea,b'⟩:=id I;exists CG,_,_,_,J _ _ N.gg.ins,TG.cl,TG.bk,Lg _,_,_,by rw[<-ea];exact b'.ins,yT _;exists CO,_,_,_,X,TO.cl,TO.f,Y;rw[<-ef];refine⟨i.bk,ks,d,ds,df,I,hd,λv hv=>?_⟩;refine⟨x,CO,O,_,Y,X,TO.cl,TO.bd,(by show 5<1000;decide),?_⟩;refine fld_in x _ λH6 b6 U=>⟨sl 0,λT R=>?_⟩;have xw:T≠x:=(Yb U R).symm;have t:TK H5 H6:=λb ys h=>b6 _ _ (λz=>by rw[z,X]at h;cases h) h;refine up_in R _ λH7 p g7=>⟨x,CO,O,_,Y,p _ _ U,TO.cl,TO.wt,(by show 6<1000;decide),?_⟩;refine fld_in x _ λH8 b8 x8=>?_;have y:TK H6 H8:=λb ys h=>b8 _ _ (λz=>by rw[z,U]at h;cases h)<|p _ _ h;have Z:Same S H8:=Uc l J<|(b6.trans p.sb).trans b8
 have fw:S T=none:=by
  cases e:S T with
  |none=>rfl
  |some o=>have:=b6 _ _ xw<|J _ _ e;rw[R]at this;cases this
 have wb:T≠i.bs:=λz=>by
  obtain⟨xs,h1,_⟩:=N.gg.bs;rw[<-z,fw]at h1;cases h1
 have J2:Hm T=none:=N.sm.free fw
 let O':OM:=⟨x,O,i.t,k,B.f,pp,kn,v,T⟩
 refine q O' H8 Y Y Y Z fw ⟨N.mono Z,λa h=>let⟨o,e⟩:=al a h;⟨o,Z _ _ e⟩,⟨x8,?_,ok,Y⟩,⟨[],b8 _ _ xw g7,Y,λj z c h=>by simp at h⟩,wb,J2,hk⟩ (Z _ _ v3) (v4.mono Z) v5;exact VO (λb ys h=>y _ _<|t _ _ h) _ (Bd.ti _) hv
end
end K4
namespace L2
open PySem PySem.Spec PyProof.Rows
def yB(K:W.Frag):V->List V->Hp->VK->Prop:=λx J H Q=>∃p Z y z j,x=.ref p/\J=[y]/\SqL K H p Z/\UD y=true/\Z.all UD=true/\Z[j]?=some z/\eqV z y=true/\(∀i u,i<j->Z[i]?=some u->eqV u y=false)/\Q (.int (j:Nat)) H
def LA:MtR X "list.index" (yB X.K):=by
 intro M s U H x e v o Q I E F h;obtain⟨p,G,y,z,j,rfl,rfl,t,k,D,N,d,m,q⟩:=h;cases E;obtain⟨u,rfl,A⟩:=F.one;obtain⟨Z,r,C,hl⟩:=I.list t;obtain⟨⟨l,f,data,sl⟩,R,B,n,T⟩:=id C.isList;simp only at B T;subst B T;have lx:=r.length;have jl:=(ZF.mp N).1;have c:∀{i:Nat}{a:V},G[i]?=some a->UD a=true:=λh=>jg.mp D _<|ZJ h
 have J:∀(i:Nat)(a:V)(L:i<Z.toArray.size),G[i]?=some a->eqU y Z.toArray[i]=eqV a y:=λi a L h=>by
  obtain⟨b,g,S⟩:=r.get h
  have:Z.toArray[i]=b:=by
   have:=(ZF.mp g).2;simpa using this
  rw[this];exact Dj S<|c h
 refine jC jE ⟨_,R,Y⟩ PySem.F.entry_list_index (PySem.F.args_list_index_2 _ _)
  (SeqAt.list_indexAt p Z.toArray n f sl u (eqU y) j (by rw[ZO];omega) (by have:sizeLine=16777216:=rfl;omega) ?_ ?_) ⟨R,λw P=>US A k r D w<|by simpa using P,⟨.int _,H,I.tok _,⟨_,rfl⟩,q⟩⟩
 .rw [J _ _ _ N];exact d
 .intro i L hlt
  have O:G[i]?=some (G[i]'(by rw[ZO]at L;omega)):=ZD _;rw[J _ _ L O];exact m i _ hlt O
def GG.avoids(g:GG P w H CG A cs sts av)(h:∀a,av' a->H a=none)(s:Same H E):GG P w E CG A cs sts av':=by
 have D:=g.mono s;obtain⟨Z,B,T,R⟩:=g.st;refine{D with st:=⟨Z,s _ _ B,T,λn st e=>?_⟩};obtain⟨t,p,O,N,M,L,J,F⟩:=R n st e;refine⟨t,p,O,N,s _ _ M,s _ _ L,J.mono s,λz=>?_⟩;obtain⟨_,I,G,_,_⟩:=J;rw[h _ z]at G;cases G
def KA:Rho:=λ_=>none
def M7(F:Str):Nat->Option Sta:=stP (λ_=>none) 0 ⟨F,[],KA⟩
end L2
namespace K4
open PySem L2
section
variable{C CK CG:Addr}
inductive zI(P:Program)(w:World)(C CK CG:Addr)(H:Hp)(Q:VK):List V->Prop
 |mk (Hm:Hp) (x dx bk gv:Addr) (ks:List (Str×Shp)) (d:Str->Nat) (ds:List Dd) (df:Dd) (h0:Hm x=none) (sm:Same Hm H) (hx:H x=some (.ins CG dx [])) (bi:BI Hm C CK bk ks d ds) (hd:df∈ds) (hg:Hm gv=some (.tup [])) (l0:df.1.2.1=[])
  (q:∀(A:GA) H',A.t=x->A.bk=bk->MX P w Hm H' C CK CG A ks d ds [] (M7 df.1.1) av0->Q .non H'):zI P w C CK CG H Q [.ref x,.ref bk,.str df.1.1,.ref gv]
def IY(P:Program)(w:World)(C CK CG:Addr):Sp:=λZ H Q _=>zI P w C CK CG H Q Z
def Sz(B:Blt mg)(TG:GCl K CG)(F:Fun K "__init__" "Ground.__init__" Lj f fd)(DN:Df P w K mg base n "named" ["book","f","things"] (IV C CK)):Yf P w K mg base CX0 (n+1) f fd ["self","book","F","worths"] (IY P w C CK CG):=by
 refine F.oi zi λD0 A R3 s H O Q E hr h=>?_;obtain⟨X,x,U,bk,gv,ks,d,ds,df,a,sm,hx,bi,hd,hg,l0,q⟩:=h;refine⟨_,YY (VT (pv 0) (pv 1) Y)
  (YY (VT (pv 0) (pv 3) rfl)
  (YY (VT (pv 0) (V8<|pa1<|Yi VP) rfl)
  (YY (VT (pv 0) (KS (n:=1) (hn:=hn1)) rfl)
  (YZ<|VT (pv 0) (O6 (KO Ya (Yi<|pa3 (pv 2) (Yi VP)<|VS DN hr<|pa3 (pv 1) (pv 2)<|JG ["i"] [] (UQ rfl B.range (pa1<|VA Y7 rfl B.len Zu (pa1<|pv 3))) (Vk (i:=0)<|by decide) (λcl C fp s H=>Yl 0 yG rfl (Or.inl rfl) (Or.inr rfl)) λcl C fp s H=>Yi<|pa3 (Yy) (pv 0)<|Yi VP) O2) rfl rfl (by simp) (by decide)) rfl)))),?_⟩
 dsimp only[Vf,Cx.nox,Cx.wish];show let T0:=_;let T1:=Yk _ T0;let T2:=Yk _ T1;let T3:=Yk _ T2;Yk _ T3 _ _ _
 intros
 have nx:∀{b o},X b=some o->b≠x:=λh=>Yb h a;refine⟨x,CG,U,_,Y,hx,TG.cl,TG.bk,by decide,?_⟩;refine fld_in x _ λH1 b1 x1=>?_;refine⟨x,CG,U,_,Y,x1,TG.cl,TG.gv,(by show 1<1000;decide),?_⟩;refine fld_in x _ λH2 b2 x2=>⟨sl 0,λe he=>?_⟩;refine up_in he _ λH3 s3 g3=>⟨sl 1,λl hl=>?_⟩;have xe:e≠x:=(Yb x2 he).symm;have x3:=s3 _ _ x2;have xl:l≠x:=(Yb x3 hl).symm;refine up_in hl _ λH4 s4 g4=>⟨x,CG,U,_,Y,s4 _ _ x3,TG.cl,TG.bs,(by show 2<1000;decide),?_⟩;refine fld_in x _ λH5 b5 x5=>λnu D=>?_;have xn:nu≠x:=(Yb x5 D).symm;refine up_in D _ λH6 s6 g6=>⟨x,CG,U,_,Y,s6 _ _ x5,TG.cl,TG.nu,(by show 3<1000;decide),?_⟩;refine fld_in x _ λS b7 x7=>λst M=>?_;have j:st≠x:=(Yb x7 M).symm;refine up_in M _ λH8 s8 g8=>⟨sl 0,λe2 R6=>?_⟩;have G2:SameB x H S:=(((((b1.trans b2).trans s3.sb).trans s4.sb).trans b5).trans s6.sb).trans b7;have T7:SameB x H H8:=G2.trans s8.sb;have g:Same X S:=Uc a sm G2;have m:Same X H8:=Uc a sm T7;refine up_in R6 _ λH9 u g9=>?_;refine⟨gv,[],Y,.inr<|Z2<|u _ _<|m _ _ hg,0,rfl,by omega,by omega,?_⟩;refine Vh 0 (Yj<|by omega) (λi O H'=>Same H9 H'/\O.length=i) ⟨Z8 _,rfl⟩ (λi O H' z=>z.2) (λi O H' hi z=>hi) (λO H' z=>ZG _) ?_ ?_
 .rintro i O H' y H'' R hi ⟨z1,z2⟩ ⟨rfl,rfl⟩ hR
  exact Zr hi<|Zw _
 rintro O E1 tl ⟨z1,zl⟩ R5;obtain rfl:=vj zl;refine up_in R5 _ λD3 R1 T6=>?_;have Z:=z1.trans R1;refine⟨bk,tl,[],ks,d,ds,df,bi.mono<|m.trans<|u.trans Z,hd,T6,by rw[l0];rfl,by rw[l0];decide,by rw[l0];exact vN,λkn D2 v N R8=>⟨sl 3,λtt R4=>?_⟩⟩;refine up_in R4 _ λG3 T T5=>?_;have J:=((u.trans Z).trans v).trans T;refine⟨J _ _ g8,[(Sum.inl 0,.ref tt)],Y,(by show 1<=15;decide),?_⟩;have t:=J _ _<|s8 _ _ x7;refine fld_in st _ λD1 G1 T4=>⟨x,CG,U,_,Y,G1 _ _ j.symm t,TG.cl,TG.st,(by show 4<1000;decide),?_⟩;refine fld_in x _ λG J2 L1=>?_;have I:∀{b o},G3 b=some o->b≠x->b≠st->G b=some o:=λh n1 n2=>J2 _ _ n1<|G1 _ _ n2 h;have tk:TK G3 G:=λb ys h=>I h (λz=>by rw[z,t]at h;cases h) (λz=>by rw[z,J _ _ g8]at h;cases h);have R7:∀{b o},S b=some o->b≠st:=λh=>Yb h M;have L:∀{b o},S b=some o->b≠x->G b=some o:=λh n=>I (J _ _<|s8 _ _ h) n<|R7 h;have e4:S e=some (.tup []):=b7 _ _ xe<|s6 _ _<|b5 _ _ xe<|s4 _ _ g3;have l7:S l=some (.lst [.ref e]):=b7 _ _ xl<|s6 _ _<|b5 _ _ xl g4;have n7:S nu=some (ddO P w 1 hn1 nu []):=b7 _ _ xn g6;have c:Same X G:=λb o h=>L (g _ _ h)<|nx h;have xk:kn≠x/\kn≠st:=⟨λz=>(by rw[z,Z _ _ (u _ _<|s8 _ _ x7)]at N;cases N),λz=>(by rw[z,Z _ _ (u _ _ g8)]at N;cases N)⟩;have T8:SameB x H H5:=(((b1.trans b2).trans s3.sb).trans s4.sb).trans b5;have M2:Same X H5:=Uc a sm T8;have T9:SameB x H H3:=(b1.trans b2).trans s3.sb;have O1:Same X H3:=Uc a sm T9
 let A':GA:=⟨x,U,bk,gv,l,nu,st⟩
 refine q A' G Y Y ⟨c,bi,O1.free hl,M2.free D,g.free M,?_⟩;refine⟨L1,⟨_,L l7 xl,Z5<|Yu (L e4 xe) Z6⟩,⟨[],L n7 xn,(λp h=>(by cases h)),rfl,λk p h=>(by simp at h)⟩,vN,_,J2 _ _ j T4,(by show(1:Nat)<=1;exact ZG 1),λn s r=>?_⟩;unfold M7 stP at r
 by_cases n0:n=0
 .subst n0
  rw[Zp rfl]at r;cases r;refine⟨tt,e2,kn,Y,tk _ _ T5,tk _ _<|(Z.trans<|v.trans T) _ _ g9,⟨xk.2,_,I (T _ _ R8) xk.1 xk.2,?_,λx th e=>(nomatch e)⟩,id⟩;rw[l0];exact Zc _
 .rw [Zq n0]at r;cases r
end
end K4
namespace L2
open PySem PySem.Spec PyProof.Rows
structure Qs(K:W.Frag)(C:Addr)(m:Str)(f:Addr):Prop where
 gt:W.specialIn K (.ref C) "__getattribute__"=some (some (.builtin "type.__getattribute__"))
 rd:W.readsIn K C (.type "type")=true
 fc:W.findCls K (.ref C) (.type "type") m=some (.val (.ref f))
 kp:W.keepIn K (.ref f)=true
def KW{C f:Addr}(d:Gl X x)(g:X.mg x=some (.ref C))(c:Qs X.K C m f)(F:Yf X.prog X.w X.K X.mg X.base CX k f o S R)(z:Vo k X.A)(l:Binds X.K o S n)(w:Vals dvs n)(P:Um CX X E)(b:PA X (e::J) t)(M:(x==("__debug__":Str))=false:=by decide)(G:starEach (e::J) X.env=(false,eval e X.env)::starEach J X.env:=by rfl)(L:(backTo pos<|starEach J X.env).any (·.1)=false:=by rfl)(j:eval (.Call (.Attribute (.Name x p) m apos) (e::J) [] pos) X.env=(do
   let ov <-eval (.Name x p) X.env
   standAt apos.atName
   let(f,first) <-holding [ov] (getMethod ov m pl)
   callWith pos f first (backTo pos<|starEach (e::J) X.env) (backToKw pos<|keywordEach [] X.env)):=by rfl):
  PE X (.Call (.Attribute (.Name x p) m apos) (e::J) [] pos) (M6 R dvs E t):=by
 intro Z s U H Q I h;refine W.methodCall_KW (pl:=pl) (thn ((JF (v:=.ref C) d g Y M) Z s U H (λx O=>x=.ref C/\M6 R dvs E t U O Q) I ⟨Y,h⟩) λu B ⟨y,O,N,D,i,q⟩=>?_) j;subst i;obtain rfl:u=Value.ref C:=D;refine W.method_cls N.kIn c.gt<|W.cls_value N.kIn c.rd c.fc rfl ?_;have a:=N.tok<|B.toks+1;refine jW (first:=[]) (h₀:=X.base) I.ok.mod.kin c.kp (thn (b pos Z _ U O _ a q) λus s2 ⟨vs,H2,T,r,A⟩=>⟨T.kIn,?_⟩) G L;exact Gr F z l w P T r A
structure WA where
 t:Addr
 dx:Addr
 gr:Addr
 uw:Addr
 wr:Addr
 wn:Addr
 hs:Addr
def V3(A:WA)(mo bg:Int):List (Str×V):=[("ground",.ref A.gr),("most",.int mo),("begun",.int bg),("under_way",.ref A.uw),("wanters",.ref A.wr),("wants",.ref A.wn),("heads",.ref A.hs)]
structure WCl(K:W.Frag)(C:Addr):Prop where
 cl:Cls K C
 gr:VF K C "ground"
 mo:VF K C "most"
 bg:VF K C "begun"
 uw:VF K C "under_way"
 wr:VF K C "wanters"
 wn:VF K C "wants"
 hs:VF K C "heads"
structure WS(H:Hp)(C:Addr)(A:WA)(mo bg:Int)(us:List V)(r n h:List (Key×V)):Prop where
 ins:H A.t=some (.ins C A.dx (V3 A mo bg))
 uw:H A.uw=some (.lst us)
 wr:H A.wr=some (.dK r)
 wn:H A.wn=some (.dK n)
 hs:H A.hs=some (.dK h)
def WS.mono(g:WS H C A mo bg Z r n h)(s:Same H J):WS J C A mo bg Z r n h:=⟨s _ _ g.ins,s _ _ g.uw,s _ _ g.wr,s _ _ g.wn,s _ _ g.hs⟩
structure WF(Hm:Hp)(A:WA):Prop where
 t:Hm A.t=none
 uw:Hm A.uw=none
 wr:Hm A.wr=none
 wn:Hm A.wn=none
 hs:Hm A.hs=none
 d1:A.wr≠A.wn
 d2:A.wr≠A.hs
 d3:A.wn≠A.hs
end L2
namespace K4
open PySem L2
section
variable{C CK CG CO CW CD:Addr}
def zm:Yh ["self","ground","most"] ["self","ground","most"] (Yc L3):=Y5
def zZ:Yh ["self","ground","most"] ["self","ground","most"] (Yc IA):=Y5
inductive SDI(CW:Addr)(H:Hp)(Q:VK):List V->Prop
 |mk (x dx gr:Addr) (mo:Int) (hx:H x=some (.ins CW dx []))
  (q:∀uw H',H uw=none->SameB x H H'->H' x=some (.ins CW dx [("ground",.ref gr),("most",.int mo),("begun",.int 0),("under_way",.ref uw)])->H' uw=some (.lst [])->Q .non H'):SDI CW H Q [.ref x,.ref gr,.int mo]
def SH(CW:Addr):Sp:=λZ H Q _=>SDI CW H Q Z
def CY(Z:WCl K CW)(F:Fun K "__init__" "Doing.__init__" L3 f j):Yf P w K v base CX0 (n+1) f j ["self","ground","most"] (SH CW):=by
 refine F.oi zm λy A M s H d Q E r h=>?_;obtain⟨x,L,l,u,U,q⟩:=h;refine⟨_,YY (VT (pv 0) (pv 1) Y)
  (YY (VT (pv 0) (pv 2) rfl)
  (YY (VT (pv 0) (Ya) rfl)
  (YZ<|VT (pv 0) (V8 VP) rfl))),?_⟩
 dsimp only[Vf,Cx.nox,Cx.wish];show let p:=_;let k:=Yk _ p;let g:=Yk _ k;Yk _ g _ _ _
 intros
 refine⟨x,CW,L,_,Y,U,Z.cl,Z.gr,by decide,?_⟩;refine fld_in x _ λi m S=>⟨x,CW,L,_,Y,S,Z.cl,Z.mo,(by show 1<1000;decide),?_⟩;refine fld_in x _ λo t I=>⟨x,CW,L,_,Y,I,Z.cl,Z.bg,(by show 2<1000;decide),?_⟩;refine fld_in x _ λe z O=>⟨sl 0,λR J=>?_⟩;have N:R≠x:=(Yb O J).symm;refine up_in J _ λb T X=>⟨x,CW,L,_,Y,T _ _ O,Z.cl,Z.uw,(by show 3<1000;decide),?_⟩;refine fld_in x _ λc B D=>?_;have G:=(m.trans t).trans z;exact q R c (G.free N J) ((G.trans T.sb).trans B) D<|B _ _ N X
inductive SWI(CW:Addr)(H:Hp)(Q:VK):List V->Prop
 |mk (Hm:Hp) (x dx gr:Addr) (mo:Int) (h0:Hm x=none) (sm:Same Hm H) (hx:H x=some (.ins CW dx []))
  (q:∀(A:WA) H',A.t=x->A.gr=gr->WF Hm A->Same Hm H'->WS H' CW A mo 0 [] [] [] []->Q .non H'):SWI CW H Q [.ref x,.ref gr,.int mo]
def SB(CW:Addr):Sp:=λZ H Q _=>SWI CW H Q Z
def CI(M:WCl K CW)(F:Fun K "__init__" "Walk.__init__" IA f fd)(mD:e "Doing"=some (.ref CD))(cD:Qs K CD "__init__" g)(k:Yf P w K e base CX0 n g gd ["self","ground","most"] (SH CW))(bD:Binds K gd ["self","ground","most"] []):Yf P w K e base CX0 (n+1) f fd ["self","ground","most"] (SB CW):=by
 refine F.oi zZ λJ2 A z s H vs Q E hr h=>?_;obtain⟨Hm,x,T,a,mo,t,l,o,q⟩:=h;refine⟨_,YY (VQ<|KW rfl mD cD k hr bD .nil Y2 (pa3 (pv 0) (pv 1)<|pv 2))
  (YY (VT (pv 0) (V0) rfl)
  (YY (VT (pv 0) (V0) rfl)
  (YZ<|VT (pv 0) (V0) rfl))),?_⟩
 dsimp only[Vf,Cx.nox,Cx.wish];show let T0:=_;let T1:=Yk _ T0;let T2:=Yk _ T1;Yk _ T2 _ _ _
 intros
 refine⟨x,T,a,mo,o,λr H1 R b1 u g1=>?_⟩;have xu:r≠x:=(Yb o R).symm;intro wr L;have X:wr≠x:=(Yb u L).symm;refine up_in L _ λH2 b g2=>⟨x,CW,T,_,Y,b _ _ u,M.cl,M.wr,(by show 4<1000;decide),?_⟩;refine fld_in x _ λH3 b3 d=>?_;intro v G;have j:v≠x:=(Yb d G).symm;have g3:=b3 _ _ X g2;refine up_in G _ λH4 y g4=>⟨x,CW,T,_,Y,y _ _ d,M.cl,M.wn,(by show 5<1000;decide),?_⟩;refine fld_in x _ λH5 m c=>?_;intro i Z;have p:i≠x:=(Yb c Z).symm;refine up_in Z _ λH6 S g6=>⟨x,CW,T,_,Y,S _ _ c,M.cl,M.hs,(by show 6<1000;decide),?_⟩;refine fld_in x _ λH7 U x7=>?_;have I:=b.sb.trans b3;have D:=(I.trans y.sb).trans m;have B:=(D.trans S.sb).trans U;have J:Same Hm H1:=Uc t l b1;have N:=m _ _ X<|y _ _ g3;have O:=m _ _ j g4
 let A':WA:=⟨x,T,a,r,wr,v,i⟩
 refine q A' H7 Y Y ⟨t,?_,?_,?_,?_,?_,?_,?_⟩ (Uc t J B) ⟨x7,B _ _ xu g1,U _ _ X<|S _ _ N,U _ _ j<|S _ _ O,U _ _ p g6⟩
 .exact l.free R
 .exact J.free L
 .exact J.free (I.free j G)
 .exact J.free (D.free p Z)
 .exact Yb g3 G
 .exact Yb N Z
 .exact Yb O Z
end
end K4
namespace L2
open PySem
def Ji{H:Hp}{o p:HO}(h:H a=some o)(g:H b=some p)(n:o≠p):a≠b:=λz=>n (by rw[z,g]at h;exact(ZT h).symm)
def WS.tb(g:WS H C A mo bg J r n h)(b:SameB A.t H Z)(x:Z A.t=some (.ins C A.dx<|V3 A mo bg')):WS Z C A mo bg' J r n h:=
 ⟨x,b _ _ (Ji g.uw g.ins (by intro z;cases z)) g.uw,b _ _ (Ji g.wr g.ins (by intro z;cases z)) g.wr,b _ _ (Ji g.wn g.ins (by intro z;cases z)) g.wn,b _ _ (Ji g.hs g.ins (by intro z;cases z)) g.hs⟩
def WS.ub(g:WS H C A mo bg J r n h)(b:SameB A.uw H Z)(x:Z A.uw=some (.lst us')):WS Z C A mo bg us' r n h:=
 ⟨b _ _ (Ji g.ins g.uw (by intro z;cases z)) g.ins,x,b _ _ (Ji g.wr g.uw (by intro z;cases z)) g.wr,b _ _ (Ji g.wn g.uw (by intro z;cases z)) g.wn,b _ _ (Ji g.hs g.uw (by intro z;cases z)) g.hs⟩
def WS.rb(g:WS H C A mo bg J r n h)(f:WF G A)(b:SameB A.wr H Z)(x:Z A.wr=some (.dK r')):WS Z C A mo bg J r' n h:=
 ⟨b _ _ (Ji g.ins g.wr (by intro z;cases z)) g.ins,b _ _ (Ji g.uw g.wr (by intro z;cases z)) g.uw,x,b _ _ f.d1.symm g.wn,b _ _ f.d2.symm g.hs⟩
def WS.nb(g:WS H C A mo bg J r n h)(f:WF G A)(b:SameB A.wn H Z)(x:Z A.wn=some (.dK n')):WS Z C A mo bg J r n' h:=
 ⟨b _ _ (Ji g.ins g.wn (by intro z;cases z)) g.ins,b _ _ (Ji g.uw g.wn (by intro z;cases z)) g.uw,b _ _ f.d1 g.wr,x,b _ _ f.d3.symm g.hs⟩
def WS.hb(g:WS H C A mo bg J r n h)(f:WF L A)(b:SameB A.hs H Z)(x:Z A.hs=some (.dK G)):WS Z C A mo bg J r n G:=
 ⟨b _ _ (Ji g.ins g.hs (by intro z;cases z)) g.ins,b _ _ (Ji g.uw g.hs (by intro z;cases z)) g.uw,b _ _ f.d2 g.wr,b _ _ f.d3 g.wn,x⟩
def WS.lb(g:WS H C A mo bg Z r n h)(e:H l=some (.lst L))(J:l≠A.uw)(b:SameB l H G):WS G C A mo bg Z r n h:=
 ⟨b _ _ (Ji g.ins e (by intro z;cases z)) g.ins,b _ _ J.symm g.uw,b _ _ (Ji g.wr e (by intro z;cases z)) g.wr,b _ _ (Ji g.wn e (by intro z;cases z)) g.wn,b _ _ (Ji g.hs e (by intro z;cases z)) g.hs⟩
def Px:Jj O≠V3 B mo bg:=λz=>by
 have Z:some ("number":Str)=some ("most":Str):=congrArg (λl:List (Str×V)=>(l.map (·.1))[1]?) z;exact Zr Z<|by decide +kernel
def Py:TU G≠V3 B mo bg:=λz=>by
 have Z:some ("given":Str)=some ("most":Str):=congrArg (λl:List (Str×V)=>(l.map (·.1))[1]?) z;exact Zr Z<|by decide +kernel
structure UE where
 k:Nat
 F:Str
 b:Bd
 l:List WEn
structure WSt where
 u:List UE
 r:List (Nat×Option Nat)
 h:List Nat
 bg:Nat
 wc:Nat
 s:Ss
def oV:Option Nat->V
 |none=>.non
 |some k=>.int (k:Nat)
def kK(k:Nat):Key:=Sum.inl (k:Int)
def rK(r:List (Nat×Option Nat)):kF:=r.map λp=>(kK p.1,oV p.2)
def avW(B:WA):Addr->Prop:=λa=>a=B.wr\/a=B.wn\/a=B.hs
def WLs(Hm H:Hp)(A:GA)(B:WA)(wc:Nat)(Os:List OM)(v:V):Prop:=∃l Z,v=.ref l/\H l=some (.lst Z)/\Z.all UD=true/\Z.length<=wc/\l≠B.uw/\l≠A.bs/\Hm l=none/\∀O∈Os,l≠O.wl
structure WK(P:Program)(w:World)(Hm H:Hp)(C CK CG CO CW:Addr)(A:GA)(ks:List (Str×Shp))(d:Str->Nat)(ds:List Dd)(B:WA)(mo:Nat)(S:WSt)(Os:List OM):Prop where
 mx:MX P w Hm H C CK CG A ks d ds S.s.1 S.s.2 (avW B)
 gr:B.gr=A.t
 wf:WF Hm B
 n1:¬avW B A.st
 n2:A.bs≠B.uw
 ws:∃nK hK,WS H CW B (mo:Nat) (S.bg:Nat) (Os.map λO=>.ref O.t) (rK S.r) nK hK/\hK.map (·.1)=S.h.map kK/\nK.map (·.1)=S.r.map (λp=>kK p.1)/\∀p∈nK,WLs Hm H A B S.wc Os p.2
 ul:Os.length=S.u.length
 us:∀(i:Nat) O e,Os[i]?=some O->S.u[i]?=some e->RG P w Hm H C CK CG CO A ks d ds (avW B) O e.b e.l S.s/\O.n=e.k/\O.F=e.F
 nd:(Os.map (·.wl)).Nodup
 nu:∀O∈Os,O.wl≠B.uw
def WLs.mono(h:WLs G H A B wc Os v)(s:Same H L):WLs G L A B wc Os v:=let⟨l,Z,e,J,r⟩:=h;⟨l,Z,e,s _ _ J,r⟩
def WK.mono(k:WK P w D H C F CG CO CW A J d T B mo S Os)(s:Same H E):WK P w D E C F CG CO CW A J d T B mo S Os:=by
 obtain⟨Z,G,R,N,M,L⟩:=k.ws;exact⟨k.mx.mono s,k.gr,k.wf,k.n1,k.n2,⟨Z,G,R.mono s,N,M,λp m=>(L p m).mono s⟩,k.ul,λi O e a b=>let⟨r,q⟩:=k.us i O e a b;⟨r.same s,q⟩,k.nd,k.nu⟩
def WK.al(k:WK P w N H C O CG CO CW A G d M B mo S Os):∀a,avW B a->∃o,H a=some o:=by
 obtain⟨J,L,Z,_⟩:=k.ws;rintro a (rfl|rfl|rfl)
 .exact ⟨_,Z.wr⟩
 .exact ⟨_,Z.wn⟩
 .exact ⟨_,Z.hs⟩
structure Fo(Hm H H':Hp)(A:GA)(av:Addr->Prop)(l:Addr):Prop where
 b:SameB l H H'
 x:∃o,H' l=some o
 m:Hm l=none
 t:l≠A.t
 bs:l≠A.bs
 nu:l≠A.nu
 st:l≠A.st
 tk:TK H H'
 kn:∀kn ρ m,KnR A H kn ρ m->¬av kn->kn≠l
def KnR.fo(k:KnR A H kn ρ m)(f:Fo B H T A av l)(M:¬av kn):KnR A T kn ρ m:=by
 obtain⟨n,Z,R,N,O⟩:=id k;exact⟨n,Z,f.b _ _ (f.kn _ _ _ k M) R,N,λx J e=>let⟨v,L,G⟩:=O x J e;⟨v,L,VO f.tk _ (Tg.ti J) G⟩⟩
def GG.fo(g:GG P w H CG A cs sts av)(f:Fo Q H X A av l):GG P w X CG A cs sts av:=by
 obtain⟨L,C,U⟩:=g.bs;obtain⟨T,S,I,G⟩:=g.nu;obtain⟨Z,F,E,D⟩:=g.st;refine⟨f.b _ _ f.t.symm g.ins,⟨L,f.b _ _ f.bs.symm C,JQ f.tk _ (J3 cs) U⟩,⟨T,f.b _ _ f.nu.symm S,I.tk G f.tk,G⟩,g.nd,Z,f.b _ _ f.st.symm F,E,λk st e=>?_⟩;obtain⟨t,p,B,R,O,N,M,J⟩:=D k st e;exact⟨t,p,B,R,f.tk _ _ O,f.tk _ _ N,M.fo f J,J⟩
def MX.fo(m:MX P w Z H C M CG A J d G cs sts av)(f:Fo Z H L A av l):MX P w Z L C M CG A J d G cs sts av:=
 ⟨λa o e=>f.b a o (Yb e f.m)<|m.sm _ _ e,m.bi,m.f1,m.f2,m.f3,m.gg.fo f⟩
def WEm.fo(h:WEm A av H z c)(f:Fo T H R A av l):WEm A av R z c:=by
 obtain⟨t,O,p,J,e,N,M,L,G,Z⟩:=h;exact⟨t,O,p,J,e,f.tk _ _ N,VO f.tk _ (Bd.ti _) M,f.tk _ _ L,G.fo f Z,Z⟩
def RG.fo(g:RG P w J H C E CG CO A N d B av O b l s)(f:Fo J H D A av p)(M:p≠O.t)(L:p≠O.wl):RG P w J D C E CG CO A N d B av O b l s:=by
 obtain⟨G,R,Z⟩:=g.wl;refine⟨g.mx.fo f,λa T=>?_,⟨f.b _ _ M.symm g.gm.ins,VO f.tk _ (Bd.ti _) g.gm.bd,g.gm.ok,g.gm.gr⟩,⟨G,f.b _ _ L.symm R,Z.1,λk z c a b=>(Z.2 k z c a b).fo f⟩,g.wb,g.fw,g.on⟩
 by_cases z:a=p
 .exact z ▸ f.x
 .obtain ⟨o,q⟩:=g.al a T
  exact⟨o,f.b a o z q⟩
def Ll(g:GG P w H CG A cs sts av)(L:H l=some (.lst N))(f:FrW A l H M):TK H M:=λa O h=>by
 obtain⟨G,J,Z⟩:=g.ne h (λ_ z=>by cases z) (λ_ z=>by cases z) λ_=>Ej.symm;exact f a _ G J Z (Yv h L (by intro z;cases z)) h
def RG.frw(g:RG P w U H C Q CG CO A M d S av O1 b1 l1 s)(I:RG P w U X C Q CG CO A M d S av O b l E)(N:H O.wl=some (.lst zs0))(ne:O1.wl≠O.wl)(f:FrW A O.wl H X)(h:s.1.length<=E.1.length):RG P w U X C Q CG CO A M d S av O1 b1 l1 E:=by
 obtain⟨j,R,F⟩:=g.wl;have Z:=Ll g.mx.gg N f;have L:=g.mx.gg.ne g.gm.ins (λ_ z=>by cases z) (λ_ z=>by cases z) λ_=>X0.symm
 have n:O1.wl≠A.nu/\O1.wl≠A.st:=by
  obtain⟨J,T,_⟩:=g.mx.gg.nu;obtain⟨M,e3,_⟩:=g.mx.gg.st;exact⟨Yv R T Uh.symm,Yv R e3 (by intro z;cases z)⟩
 refine⟨I.mx,I.al,⟨f _ _ L.1 L.2.1 L.2.2 (Yv g.gm.ins N (by intro z;cases z)) g.gm.ins,VO Z _ (Bd.ti _) g.gm.bd,g.gm.ok,g.gm.gr⟩,⟨j,f _ _ g.wb n.1 n.2 ne R,F.1,λk z c a b=>?_⟩,g.wb,g.fw,Zb g.on h⟩;obtain⟨t,bv,p,kn,e,u1,u2,i,⟨B,J,G,y,m⟩,o⟩:=F.2 k z c a b;obtain⟨xs,e1,_⟩:=g.mx.gg.bs;obtain⟨J2,T,_⟩:=g.mx.gg.nu;exact⟨t,bv,p,kn,e,Z _ _ u1,VO Z _ (Bd.ti _) u2,Z _ _ i,⟨B,J,f _ _ (Yv G e1 (by intro z;cases z)) (Yv G T We.symm) B (Yv G N (by intro z;cases z)) G,y,λx D q=>let⟨v,r,u⟩:=m x D q;⟨v,r,VO Z _ (Tg.ti D) u⟩⟩,o⟩
def Qv(h:∀p∈nK,WLs M H A B wc Os p.2)(k:List.map (·.1) nK=List.map (λp:Nat×Option Nat=>kK p.1) r)(m:x∈r.map (·.1)):∃v,VC nK (kK x)=some v/\WLs M H A B wc Os v:=by
 have:(nK.any λG=>decide<|G.1=kK x)=true:=by
  obtain⟨p,L,rfl⟩:=ZW.mp m;have:kK p.1∈List.map (·.1) nK:=by rw[k];exact ZW.mpr ⟨p,L,Y⟩
  obtain⟨y,Z,e⟩:=ZW.mp this;exact ji.mpr ⟨y,Z,decide_eq_true e⟩
 rw[JY]at this;obtain⟨v,J⟩:=vR.mp this;exists v,J;unfold VC at J;obtain⟨y,Z,rfl⟩:=Zj.mp J;exact h y<|yp Z
section
variable{P:Program}{w:World}{C CK CG CO CW:Addr}
def WK.get(k:WK P w M H C CK CG CO CW A G d L B mo S Os)(h:O∈Os):∃e:UE,RG P w M H C CK CG CO A G d L (avW B) O e.b e.l S.s:=by
 obtain⟨i,J⟩:=ym.mp h;have Z:=(ZF.mp J).1;rw[k.ul]at Z;exact⟨_,(k.us i O _ J<|ZD Z).1⟩
def WK.usf(k:WK P w Z H C CK CG CO CW A M d N B mo S Os)(f:Fo Z H R A (avW B) l)(J:∀O∈Os,l≠O.t/\l≠O.wl):∀(i:Nat) O e,Os[i]?=some O->S.u[i]?=some e->RG P w Z R C CK CG CO A M d N (avW B) O e.b e.l S.s/\O.n=e.k/\O.F=e.F:=λi O e a b=>by
 obtain⟨r,q⟩:=k.us i O e a b;obtain⟨L,G⟩:=J O<|ZJ a;exact⟨r.fo f L G,q⟩
def WLs.fo(h:WLs G H A B wc Os v)(b:SameB l H L)(n:∀Z,H l≠some (.lst Z)):WLs G L A B wc Os v:=by
 obtain⟨a,Z,e,J,r⟩:=h;exact⟨a,Z,e,b _ _ (λz=>n Z<|z ▸ J) J,r⟩
def WK.foI(k:WK P w N H C CK CG CO CW A R d D B mo S Os)(h:H B.t=some (.ins CW B.dx<|V3 B mo bg))(b:SameB B.t H Z)(x:Z B.t=some o):Fo N H Z A (avW B) B.t:=by
 obtain⟨L,G,J⟩:=k.mx.gg.ne h (λ_ z=>by cases z) (λ_ z=>by cases z) λ_=>X0.symm;refine⟨b,⟨_,x⟩,k.wf.t,λz=>?_,L,G,J,λa O e=>b _ _ (Yv e h (by intro z;cases z)) e,λT ρ m M _=>?_⟩
 .exact (Yv h k.mx.gg.ins (λz=>by injection z with _ _ z;exact Py z.symm)) z
 .obtain ⟨_,kvs,e,_⟩:=M
  exact Yv e h (by intro z;cases z)
def WK.foD(k:WK P w Z H C CK CG CO CW A D d I B mo S Os)(a:avW B l)(h:H l=some (.dK O))(m:Z l=none)(b:SameB l H J)(x:J l=some o):Fo Z H J A (avW B) l:=by
 obtain⟨T,N,_⟩:=k.mx.gg.bs;obtain⟨L,M,_⟩:=k.mx.gg.nu;exact⟨b,⟨_,x⟩,m,Yv h k.mx.gg.ins (by intro z;cases z),Yv h N (by intro z;cases z),Yv h M We.symm,λz=>k.n1<|z ▸ a,λa R e=>b _ _ (Yv e h (by intro z;cases z)) e,λF ρ m E G z=>G<|z ▸ a⟩
def WK.foL(k:WK P w Z H C CK CG CO CW A F d U B mo S Os)(h:H l=some (.lst D))(m:Z l=none)(G:l≠A.bs)(b:SameB l H J)(x:J l=some o):Fo Z H J A (avW B) l:=by
 obtain⟨N,T,_⟩:=k.mx.gg.nu;obtain⟨M,R,_⟩:=k.mx.gg.st;refine⟨b,⟨_,x⟩,m,Yv h k.mx.gg.ins (by intro z;cases z),G,Yv h T Uh.symm,Yv h R (by intro z;cases z),λa E e=>b _ _ (Yv e h (by intro z;cases z)) e,λI ρ m O _=>?_⟩;obtain⟨_,L,e,_⟩:=O;exact Yv e h (by intro z;cases z)
def WK.nD(k:WK P w M H C CK CG CO CW A G d L B mo S Os)(h:H l=some (.dK Z)):∀O∈Os,l≠O.t/\l≠O.wl:=λO m=>by
 obtain⟨e,r⟩:=k.get m;obtain⟨Z,J,_⟩:=r.wl;exact⟨Yv h r.gm.ins (by intro z;cases z),Yv h J (by intro z;cases z)⟩
def WK.bg(k:WK P w I H C CK CG CO CW A M d F B J S Os)(b:SameB B.t H G)(x:G B.t=some (.ins CW B.dx<|V3 B (J:Nat) (bg':Nat))):WK P w I G C CK CG CO CW A M d F B J {S with bg:=bg'} Os:=by
 obtain⟨L,N,Z,E,D,T⟩:=k.ws;have f:=k.foI Z.ins b x;refine⟨k.mx.fo f,k.gr,k.wf,k.n1,k.n2,⟨L,N,Z.tb b x,E,D,λp m=>(T p m).fo b (λX z=>by rw[Z.ins]at z;cases z)⟩,k.ul,k.usf f λO m=>?_,k.nd,k.nu⟩;obtain⟨e,r⟩:=k.get m;obtain⟨U,R,_⟩:=r.wl;exact⟨(Yv r.gm.ins Z.ins (λz=>by injection z with _ _ z;exact Px z)).symm,Yv Z.ins R (by intro z;cases z)⟩
def WK.wr(k:WK P w M H C CK CG CO CW A N d R B T S Os)(U:VC nK' (kK c)=none->True)(b:SameB B.wr H J)(x:J B.wr=some (.dK<|rK<|S.r++[(c,o)])):∃Z G,MX P w M J C CK CG A N d R S.s.1 S.s.2 (avW B)/\WS J CW B (T:Nat) (S.bg:Nat) (Os.map λO=>.ref O.t) (rK<|S.r++[(c,o)]) Z G/\G.map (·.1)=S.h.map kK/\Z.map (·.1)=S.r.map (λp=>kK p.1)/\(∀p∈Z,WLs M J A B S.wc Os p.2)/\(∀(i:Nat) O e,Os[i]?=some O->S.u[i]?=some e->RG P w M J C CK CG CO A N d R (avW B) O e.b e.l S.s/\O.n=e.k/\O.F=e.F):=by
 obtain⟨Z,G,L,F,E,D⟩:=k.ws;have f:=k.foD (.inl rfl) L.wr k.wf.wr b x;exact⟨Z,G,k.mx.fo f,L.rb k.wf b x,F,E,λp m=>(D p m).fo b (λI z=>by rw[L.wr]at z;cases z),k.usf f<|k.nD L.wr⟩
def WK.wn(k:WK P w N H C CK CG CO CW A j d g B mo S Os)(bR:SameB B.wr H T)(n:T B.wr=some (.dK<|rK<|S.r++[(c,o)]))(M:T l=none)(s:Same T R)(U:R l=some (.lst []))(b:SameB B.wn R H3)(x:∀L:kF,R B.wn=some (.dK L)->H3 B.wn=some (.dK<|L++[(kK c,.ref l)])):WK P w N H3 C CK CG CO CW A j d g B mo {S with r:=S.r++[(c,o)]} Os:=by
 obtain⟨L,hK,J,Q,h2,h3,h4,G⟩:=k.wr (nK':=[]) (λ_=>trivial) bR n;have k1:WK P w N T C CK CG CO CW A j d g B mo {S with r:=S.r} Os->True:=λ_=>trivial;have Z:=Q.mono s;have X:=x L Z.wn;obtain⟨h,e1,_⟩:=(J.mono s).gg.bs;obtain⟨J2,e2,_⟩:=(J.mono s).gg.nu;have f:Fo N R H3 A (avW B) B.wn:=⟨b,⟨_,X⟩,k.wf.wn,Yv Z.wn (J.mono s).gg.ins (by intro z;cases z),Yv Z.wn e1 (by intro z;cases z),Yv Z.wn e2 We.symm,λz=>k.n1<|z ▸ .inr (.inl rfl),λa ys e=>b _ _ (Yv e Z.wn (by intro z;cases z)) e,λkn ρ m kr nk z=>nk<|z ▸ .inr (.inl rfl)⟩;have D:H3 l=some (.lst []):=b _ _ (Yv U Z.wn (by intro z;cases z)) U;have G1:=J.gg.bs;obtain⟨v,e3,_⟩:=J.gg.bs;have F:N l=none:=J.sm.free M;refine⟨(J.mono s).fo f,k.gr,k.wf,k.n1,k.n2,⟨_,hK,Z.nb k.wf b X,h2,by rw[ZK,ZK,h3];rfl,λp m=>?_⟩,k.ul,λi O e a b'=>?_,k.nd,k.nu⟩
 .rcases ZX.mp m with m|m
  .exact ((h4 p m).mono s).fo b (λh z=>by rw[Z.wn]at z;cases z)
  .rw [ZQ]at m
   subst m;refine⟨l,[],Y,D,Y,Zc _,(Yb Q.uw M).symm,(Yb e3 M).symm,F,λO m=>?_⟩;obtain⟨i,t⟩:=ym.mp m;have y:=(ZF.mp t).1;rw[k.ul]at y;obtain⟨u,I,_⟩:=(G i O _ t<|ZD y).1.wl;exact(Yb I M).symm
 .obtain ⟨r,q⟩:=G i O e a b'
  have E:=r.same s;obtain⟨u,I,_⟩:=E.wl;exact⟨E.fo f (Yv Z.wn E.gm.ins (by intro z;cases z)) (Yv Z.wn I (by intro z;cases z)),q⟩
def WK.wl(k:WK P w J H C CK CG CO CW A I d c B mo S Os)(h:WLs J H A B S.wc Os (.ref l))(e:H l=some (.lst M))(b:SameB l H G)(x:G l=some (.lst<|M++[y]))(t:UD y=true):WK P w J G C CK CG CO CW A I d c B mo {S with wc:=S.wc+1} Os:=by
 obtain⟨F,U,q,j,Q,X⟩:=k.ws;obtain⟨o,L,g,Z,E,v,D,T,R,N⟩:=h;cases g;rw[e]at Z;cases Z;have f:=k.foL e R T b x;refine⟨k.mx.fo f,k.gr,k.wf,k.n1,k.n2,⟨F,U,q.lb e D b,j,Q,λp m=>?_⟩,k.ul,k.usf f λO m=>?_,k.nd,k.nu⟩
 .obtain ⟨a,ys,v1,v2,v3,v4,v5⟩:=X p m
  by_cases z:a=l
  .subst z
   rw[e]at v2;cases v2;exact⟨a,_,v1,x,by rw[List.all_append,E];simp[t],by rw[ZL,yg];exact ql v4,v5⟩
  .exact ⟨a,ys,v1,b _ _ z v2,v3,jw v4,v5⟩
 .obtain ⟨e2,r⟩:=k.get m
  exact⟨Yv e r.gm.ins (by intro z;cases z),N O m⟩
def WK.wc(k:WK P w X H C CK CG CO CW A R d U B mo S Os):WK P w X H C CK CG CO CW A R d U B mo {S with wc:=S.wc+1} Os:=by
 obtain⟨O,T,I,F,E,D⟩:=k.ws;exact⟨k.mx,k.gr,k.wf,k.n1,k.n2,⟨O,T,I,F,E,λp m=>let⟨a,Z,N,M,L,G,J⟩:=D p m;⟨a,Z,N,M,L,jw G,J⟩⟩,k.ul,k.us,k.nd,k.nu⟩
def WK.hd(k:WK P w E H C CK CG CO CW A O d D B mo S Os)(b:SameB B.hs H M)(x:∀Z:kF,H B.hs=some (.dK Z)->Z.map (·.1)=S.h.map kK->M B.hs=some (.dK<|Z++[(kK c,y)])):WK P w E M C CK CG CO CW A O d D B mo {S with h:=S.h++[c]} Os:=by
 obtain⟨N,Z,J,L,T,R⟩:=k.ws;have G:=x Z J.hs L;have f:=k.foD (.inr<|.inr rfl) J.hs k.wf.hs b G;exact⟨k.mx.fo f,k.gr,k.wf,k.n1,k.n2,⟨N,_,J.hb k.wf b G,by rw[ZK,ZK,L];rfl,T,λp m=>(R p m).fo b (λF z=>by rw[J.hs]at z;cases z)⟩,k.ul,k.usf f<|k.nD J.hs,k.nd,k.nu⟩
def WK.push(k:WK P w X H C CK CG CO CW A F d U B mo S Os)(s:Same H Q)(g:RG P w X Q C CK CG CO A F d U (avW B) O bd l S.s)(E:H O.wl=none)(b:SameB B.uw Q y)(x:y B.uw=some (.lst<|(Os.map λO=>.ref O.t)++[.ref O.t])):WK P w X y C CK CG CO CW A F d U B mo {S with u:=S.u++[⟨O.n,O.F,bd,l⟩]} (Os++[O]):=by
 have M:=k.mono s;obtain⟨nK,hK,D,h2,h3,h4⟩:=M.ws;obtain⟨N,T,I,g2,g3,g4⟩:=k.ws;have f:=M.foL D.uw k.wf.uw k.n2.symm b x;have G:O.wl≠B.uw:=(Yb I.uw E).symm
 have v:∀Z∈Os,Z.wl≠O.wl:=λZ m=>by
  obtain⟨e,r⟩:=k.get m;obtain⟨zs,n,_⟩:=r.wl;exact Yb n E
 refine⟨M.mx.fo f,k.gr,k.wf,k.n1,k.n2,⟨N,T,?_,g2,g3,λp m=>?_⟩,by rw[ZL,ZL,k.ul];rfl,λi Z e a L=>?_,?_,λZ m=>?_⟩
 .rw [ZK]
  exact(I.mono s).ub b x
 .obtain ⟨a,ys,v1,v2,v3,v4,v5,v6,v7,v8⟩:=g4 p m
  refine⟨a,ys,v1,b _ _ v5<|s _ _ v2,v3,v4,v5,v6,v7,λZ J=>?_⟩;rcases ZX.mp J with J|J
  .exact v8 Z J
  .rw [ZQ]at J;subst J;exact Yb v2 E
 .rcases ja i Os.length with q|q
  .rw [yi q]at a
   rw[yi (by rw[<-k.ul];exact q)]at L;have m:=ZJ a;obtain⟨r,t⟩:=M.us i Z e a L;exact⟨r.fo f (Yv D.uw r.gm.ins (by intro z;cases z)) (k.nu Z m).symm,t⟩
  .rw [yh q]at a
   rw[yh (by rw[<-k.ul];exact q),<-k.ul]at L
   cases e0:i-Os.length with
   |zero=>
    rw[e0]at a L;cases a;cases L;exact⟨g.fo f (Yv D.uw g.gm.ins (by intro z;cases z)) G.symm,Y,Y⟩
   |succ j=>rw[e0]at a;simp at a
 .rw [ZK,vx]
  refine⟨k.nd,by simp,λa h c o=>?_⟩;obtain⟨Z,m,rfl⟩:=ZW.mp h;have R:c=O.wl:=by simpa using o
  rw[R];exact v Z m
 .rcases ZX.mp m with m|m
  .exact k.nu Z m
  .rw [ZQ]at m;subst m;exact G
def WK.run(k:WK P w v H C CK CG CO CW A X d t B mo S (Os++[O]))(Q:S.u=u++[e])(f:FrW A O.wl H F)(g:RG P w v F C CK CG CO A X d t (avW B) O e.b l' I)(le:S.s.1.length<=I.1.length):WK P w v F C CK CG CO CW A X d t B mo {S with u:=u++[{e with l:=l'}],s:=I} (Os++[O]):=by
 obtain⟨nK,hK,J,h2,h3,h4⟩:=k.ws;have b:=k.ul;rw[Q,ZL,ZL,yg,yg]at b;have Z:Os.length=u.length:=by omega
 have N:=k.us;rw[Q]at N;obtain⟨o,x,n⟩:=N Os.length O e (by rw[yh (ZG _),yr];rfl) (by rw[Z,yh<|ZG _,yr];rfl);obtain⟨M,L,_⟩:=o.wl;have tk:=Ll k.mx.gg L f;obtain⟨xs,e1,_⟩:=k.mx.gg.bs;obtain⟨G1,E,_⟩:=k.mx.gg.nu;obtain⟨J2,y,_⟩:=k.mx.gg.st;have T:O.wl≠B.uw:=k.nu O<|ZU _<|ZQ.mpr rfl;have D:∀{a M},avW B a->H a=some (.dK M)->F a=some (.dK M):=λha h=>f _ _ (Yv h e1 (by intro z;cases z)) (Yv h E We.symm) (λz=>k.n1<|z ▸ ha) (Yv h L (by intro z;cases z)) h;have R:=k.mx.gg.ne J.ins (λ_ z=>by cases z) (λ_ z=>by cases z) λ_=>X0.symm;have U:=k.nd;rw[ZK,vx]at U;refine⟨g.mx,k.gr,k.wf,k.n1,k.n2,⟨nK,hK,⟨f _ _ R.1 R.2.1 R.2.2 (Yv J.ins L (by intro z;cases z)) J.ins,f _ _ k.n2.symm (Yv J.uw E Uh.symm) (Yv J.uw y (by intro z;cases z)) T.symm J.uw,D (.inl Y) J.wr,D (.inr<|.inl rfl) J.wn,D (.inr<|.inr rfl) J.hs⟩,h2,h3,λp m=>?_⟩,by rw[ZL,ZL,Z];rfl,λi c e' a G=>?_,k.nd,k.nu⟩
 .obtain ⟨a,ys,v1,v2,v3,v4,v5,v6,v7,v8⟩:=h4 p m
  exact⟨a,ys,v1,f _ _ v6 (Yv v2 E Uh.symm) (Yv v2 y (by intro z;cases z)) (v8 O<|ZU _<|ZQ.mpr rfl) v2,v3,v4,v5,v6,v7,v8⟩
 .rcases ja i Os.length with q|q
  .have a':=a
   rw[yi q]at a';rw[yi (by rw[<-Z];exact q)]at G;obtain⟨r,q'⟩:=N i c e' a (by rw[yi (by rw[<-Z];exact q)];exact G);exact⟨r.frw g L (U.2.2 _ (ZW.mpr ⟨c,ZJ a',Y⟩) _<|by simp) f le,q'⟩
  .rw [yh q]at a
   rw[yh (by rw[<-Z];exact q),<-Z]at G
   cases e0:i-Os.length with
   |zero=>
    rw[e0]at a G;cases a;cases G;exact⟨g,x,n⟩
   |succ j=>rw[e0]at a;simp at a
def WK.pop(k:WK P w y H C CK CG CO CW A D d Q B mo S (Os++[O]))(L:S.u=u++[e])(b:SameB B.uw H M)(x:M B.uw=some (.lst<|Os.map λO=>.ref O.t)):WK P w y M C CK CG CO CW A D d Q B mo {S with u:=u} Os:=by
 obtain⟨T,E,J,U,I,F⟩:=k.ws;have N:=k.ul;rw[L,ZL,ZL,yg,yg]at N;have f:=k.foL J.uw k.wf.uw k.n2.symm b x;have G:=k.nd;rw[ZK,vx]at G;refine⟨k.mx.fo f,k.gr,k.wf,k.n1,k.n2,⟨T,E,J.ub b x,U,I,λp m=>?_⟩,by omega,λi Z X a j=>?_,G.1,λZ m=>k.nu Z<|yn _ m⟩
 .obtain ⟨a,ys,v1,v2,v3,v4,v5,v6,v7,v8⟩:=F p m
  exact⟨a,ys,v1,b _ _ v5 v2,v3,v4,v5,v6,v7,λZ m=>v8 Z<|yn _ m⟩
 .have il:=(ZF.mp a).1
  have m:=yn [O]<|ZJ a;obtain⟨r,R⟩:=k.us i Z X (by rw[yi il];exact a) (by rw[L,yi (by omega)];exact j);exact⟨r.fo f (Yv J.uw r.gm.ins (by intro z;cases z)) (k.nu Z m).symm,R⟩
end
def L6{α:Type}{us:List α}{D E:α->V}(L:Itx J H (us.map D))(F:us.length<=10000)(O:∀u (R:V->Hp->Prop),u∈us->R (E u) H->g (D u) s0 H λN B=>te N B R)(T:∀p Z,H p=none->Same H Z->Z p=some (.lst<|us.map E)->Q (.ref p) Z):Tq J g te s0 Q H:=by
 refine Vh us.length (MC<|by omega) (λi G Z=>Z=H/\G=(us.take i).map E/\i<=us.length) ⟨rfl,rfl,Zc _⟩ (λi G Z z=>by rw[z.2.1,ZA,ZN];exact vm z.2.2) ?_ ?_ ?_ ?_
 .rintro i G Z hi ⟨rfl,_⟩
  exact L.go i (by rw[ZA];exact hi)
 .rintro G Z ⟨rfl,_⟩
  have:=L.stop
  rwa [ZA]at this
 .rintro i G Z x H'' R hi ⟨rfl,rfl,z3⟩ yl rT
  obtain⟨rfl,y⟩:=L.yld i x H'' yl;rw[ZH]at y;obtain⟨u,M,rfl⟩:=Zj.mp y;refine O u R (ZJ M)<|rT _ _ ⟨rfl,?_,hi⟩;rw[take_snoc M,ZK]
  rfl
 .rintro G Z p ⟨rfl,rfl,_⟩ hp
  rw[Zg (ZG _)];exact T p _ hp (Yq hp _) Ye
def bD(cs:List Mk1)(n:Nat):Dat:=(Vx cs).getD n<|.tup []
def WK.nums(k:WK P w L H C M CG CO CW A J d G B mo S Os):Os.map (λO=>V.int (O.n:Nat))=S.u.map λe=>V.int (e.k:Nat):=by
 refine List.ext_getElem? λi=>?_;rw[ZH,ZH]
 cases h:Os[i]? with
 |none=>
  have:=vp.mp h;rw[vp.mpr (by rw[<-k.ul];exact this)]
  rfl
 |some O=>
  have Z:=(ZF.mp h).1;rw[k.ul]at Z;have:=k.us i O _ h<|ZD Z;rw[ZD Z];exact congrArg some<|congrArg (λn:Nat=>V.int n) this.2.1
def WK.le(k:WK P w M H C N CG CO CW A G d L B mo S Os)(m:e∈S.u):e.k<=S.s.1.length:=by
 obtain⟨i,J⟩:=ym.mp m;have Z:=(ZF.mp J).1;rw[<-k.ul]at Z;have:=k.us i _ e (ZD Z) J;rw[<-this.2.1];exact this.1.on
theorem RP:∀l:List UE,HasL H (l.map λe=>V.int (e.k:Nat))<|l.map λe=>Dat.int (e.k:Nat)
 |[]=>Z6
 |e::l=>Z4 (by unfold Has;rfl)<|RP l
def itd{Z:kF}(h:H d=some (.frz o<|.dK Z)):Itx (Itd d o Z) H (Z.map λJ=>kV J.1):=⟨λi G=>⟨h,by rw[ZA]at G;exact G⟩,⟨h,by rw[ZA]⟩,λi x M y=>by
 obtain⟨e,J,L,rfl⟩:=y;exact⟨e,by rw[ZH,L];rfl⟩⟩
def EL(K:W.Frag)(Z:PE X e ta)(J:attributeBase e f X.env (eval e X.env)=eval e X.env)(G:X.K=K:=by rfl):PE X (.Attribute e f pos) (Q3 K ta f):=by
 subst G;exact Yn Z J
end L2
namespace K4
open PySem L2
section
variable{C CK CG CO CW CD:Addr}
abbrev sn:ky:=["self","number"]
def QK(A:WA):(V3 A mo bg).lookup ("ground":Str)=some (V.ref A.gr):=rfl
def QJ(A:WA):(V3 A mo bg).lookup ("most":Str)=some (V.int mo):=rfl
def Fz(A:WA):(V3 A mo bg).lookup ("begun":Str)=some (V.int bg):=rfl
def Wo(A:WA):(V3 A mo bg).lookup ("under_way":Str)=some (V.ref A.uw):=rfl
def D6(A:WA):(V3 A mo bg).lookup ("wanters":Str)=some (V.ref A.wr):=rfl
def D7(A:WA):(V3 A mo bg).lookup ("wants":Str)=some (V.ref A.wn):=rfl
def Fx(A:WA):(V3 A mo bg).lookup ("heads":Str)=some (V.ref A.hs):=rfl
def Qw(A:WA):(V3 A mo bg).lookup ("going_of":Str)=none:=rfl
def QL(A:WA):(V3 A mo bg).lookup ("go_into":Str)=none:=rfl
def Fy(A:WA):(V3 A mo bg).lookup ("birth_of":Str)=none:=rfl
def Ag(A:WA):(V3 A mo bg).lookup ("ring_from":Str)=none:=rfl
def AC(A:OM):(Jj A).lookup ("begin":Str)=none:=rfl
def A0:Yh sn sn (Yc Tj):=Y5
def A1:Yh sn sn (Yc Mp):=Y5
def SO:Yh ["self","number","head"] ["self","number","head"] (Yc Qz):=Y5
def A3:Yh sn sn (Yc GU):=Y5
def Ay:Yh ["self","number","numbers"] sn (Yc X8):=Y5
inductive OI(P:Program)(w:World)(CG CW:Addr)(H:Hp)(Q:VK):List V->Prop
 |num (A:GA) (B:WA) (mo bg:Int) (cs:List Mk1) (sts:Nat->Option Sta) (av:Addr->Prop) (k:Nat) (ins:H B.t=some (.ins CW B.dx (V3 B mo bg))) (gr:B.gr=A.t) (gg:GG P w H CG A cs sts av) (hk:k<=cs.length) (q:∀v,Has H v (bD cs k)->Q v H):OI P w CG CW H Q [.ref B.t,.int (k:Nat)]
 |non (B:WA) (q:Q .non H):OI P w CG CW H Q [.ref B.t,.non]
def R0(P:Program)(w:World)(CG CW:Addr):Sp:=λZ H Q _=>OI P w CG CW H Q Z
def PZ(M:WCl K CW)(TG:GCl K CG)(F:Fun K "birth_of" "Walk.birth_of" GU f S):Yf P w K m base CX0 (n+1) f S sn (R0 P w CG CW):=by
 refine F.oi A3 (len:=λO H Q E h=>by cases h <;> rfl) λj A Z s H O Q E g h=>?_;refine⟨_,YY (Y1 (Yr G7 (pv 1) Vs<|Yz _) (YZ<|Ym<|Vs) Yp)
  (YZ<|Ym<|Yo VB (Yn (Yn (pv 0) rfl) rfl) (pv 1) λ_ _=>rfl),?_⟩
 dsimp only[Vf,Cx.nox,Cx.wish];show let z:=_;let y:=_;Yk (VE _ y _) z _ _ _
 intros
 rcases h with⟨r,B,t,u,d,R,v,k,ins,I,L,p,q⟩|⟨B,q⟩
 .refine ⟨rfl,_,rfl,Y0 (by simp) ?_⟩
  exists CW,_,_,_,ins,M.cl,M.gr,QK _;rw[I];obtain⟨N,D,G⟩:=L.bs;have T:=G.length;rw[J4]at T;have J:k<N.length:=by omega
  obtain⟨c,X,U⟩:=G.get<|ZD J;refine⟨CG,_,_,_,L.ins,TG.cl,TG.bs,Mm _,_,_,Z3 D,VG<|ZD J,q _ ?_⟩;unfold bD;rw[y9,X];exact U
 .exact ⟨rfl,_,rfl,VH (by decide +kernel) q⟩
inductive Qp(P:Program)(w:World)(C CK CG CO CW:Addr)(H:Hp)(Q:VK):List V->Prop
 |mk (Hm:Hp) (A:GA) (ks:List (Str×Shp)) (d:Str->Nat) (ds:List Dd) (B:WA) (mo:Nat) (S:WSt) (Os:List OM) (k:Nat) (sta:Sta) (df:Dd) (wk:WK P w Hm H C CK CG CO CW A ks d ds B mo S Os) (hs:S.s.2 k=some sta) (hd:df∈ds) (ef:df.1.1=sta.f) (ok:df.2.ok) (hk:k<=S.s.1.length)
  (q:∀(O:OM) H',O.n=k->O.F=sta.f->Same H H'->H O.wl=none->RG P w Hm H' C CK CG CO A ks d ds (avW B) O df.2 [] S.s->H' O.pl=some (.tup (sta.pl.map V.int))->KnR A H' O.kn sta.ρ (3+sta.pl.length)->¬avW B O.kn->Q (.ref O.t) H'):Qp P w C CK CG CO CW H Q [.ref B.t,.int (k:Nat)]
def BM(P:Program)(w:World)(C CK CG CO CW:Addr):Sp:=λZ H Q _=>Qp P w C CK CG CO CW H Q Z
def PX(I:WCl K CW)(F:Fun K "going_of" "Doing.going_of" Tj f fd)(m:T "Going"=some (.ref CO))(MO:Mk K CO g)(GI:Yf P w K T base CX0 n g a ["self","ground","number"] (IU P w C CK CG CO))(bI:Binds K a ["self","ground","number"] []):Yf P w K T base CX0 (n+2) f fd sn (BM P w C CK CG CO CW):=by
 refine F.oi A0 λJ2 A L s H vs Q E v h=>?_;obtain⟨Hm,A',p,d,ds,B,mo,S,Os,k,G,df,J,u,i,ef,z,l,q⟩:=h;exists _,YZ<|Ym<|Xm MO GI v rfl m bI .nil Y2 (pa2 (Yn (pv 0) rfl)<|pv 1);dsimp only[Vf,Cx.nox,Cx.wish];obtain⟨nK,hK,U,_⟩:=J.ws;refine⟨CW,_,_,_,U.ins,I.cl,I.gr,QK _,λx Z D M r=>?_⟩;have R:Same H (upd (upd H Z<|.own x) x<|.ins CO Z []):=λb o e=>by rw[Yg (Yb e D),Yg (Yb e M)];exact e
 have N:upd (upd H Z<|.own x) x (.ins CO Z []) x=some (.ins CO Z []):=Ye;generalize upd (upd H Z<|.own x) x (.ins CO Z [])=H7 at N R |-;rw[J.gr];refine⟨Hm,H,x,Z,A',p,d,ds,avW B,S.s,k,G,df,D,R,N,J.mx,J.al,u,i,ef,z,l,λO H' e1 e2 e3 X f1 j y c t=>⟨Y,?_⟩⟩;rw[<-e1];exact q O H' e2 e3 X f1 j y c t
inductive OE(P:Program)(w:World)(C CK CG CO CW:Addr)(n:Nat)(H:Hp)(Q:VK):List V->Prop
 |go (Hm:Hp) (A:GA) (ks:List (Str×Shp)) (d:Str->Nat) (ds:List Dd) (B:WA) (mo:Nat) (S:WSt) (Os:List OM) (k:Nat) (sta:Sta) (df:Dd) (m:Nat) (r:Stp) (l':List WEn) (s':Ss) (wk:WK P w Hm H C CK CG CO CW A ks d ds B mo S Os) (hs:S.s.2 k=some sta) (hd:df∈ds) (ef:df.1.1=sta.f) (ok:df.2.ok) (hk:k<=S.s.1.length) (lt:S.bg<mo) (lu:S.u.length<=900) (gs:Gos ds sta.f df.2 k n m (.body sta.pl sta.ρ) [] S.s r l' s') (ls:S.s.1.length<=s'.1.length)
  (q:∀v O H',WK P w Hm H' C CK CG CO CW A ks d ds B mo {S with u:=S.u++[⟨k,sta.f,df.2,l'⟩],bg:=S.bg+1,s:=s'} (Os++[O])->r.on A (avW B) H' v->Q v H'):OE P w C CK CG CO CW n H Q [.ref B.t,.int (k:Nat)]
 |dry (Hm:Hp) (A:GA) (ks:List (Str×Shp)) (d:Str->Nat) (ds:List Dd) (B:WA) (S:WSt) (Os:List OM) (k:Nat) (wk:WK P w Hm H C CK CG CO CW A ks d ds B S.bg S Os) (q:∀t H',Same H H'->H' t=some (.tup [.str "dry"])->Q (.ref t) H'):OE P w C CK CG CO CW n H Q [.ref B.t,.int (k:Nat)]
def BN(P:Program)(w:World)(C CK CG CO CW:Addr)(n:Nat):Sp:=λZ H Q _=>OE P w C CK CG CO CW n H Q Z
def PY(Z:WCl K CW)(TO:OCl K CO)(F:Fun K "go_into" "Doing.go_into" Mp f fd)(m1:VI K CW "going_of" y)(G1:Yf P w K i base CX0 L y d1 sn (BM P w C CK CG CO CW))(p:Binds K d1 sn [])(m2:VI K CO "begin" g2)(G2:Yf P w K i base CX0 L g2 d2 ["self"] (BO P w C CK CG CO n))(b2:Binds K d2 ["self"] []):Yf P w K i base CX0 (L+1) f fd sn (BN P w C CK CG CO CW n):=by
 refine F.oi A1 (len:=λvs H Q E h=>by cases h <;> rfl) λO1 A X s H vs Q E a h=>?_;refine⟨_,YY (Y1 (Yr VZ (Yn (pv 0) Y) (Yn (pv 0) Y)<|Yz _) (YZ<|Ym<|Yi<|pa1<|Yy) Yp)
  (YY (FG (pv 0) Ya AO)
  (YY (VQ<|J1 Zz Z0 Z1 Vu (Yn (pv 0) rfl)<|pa1<|Y6 (pv 0) Z.cl m1 G1 a p .nil Y2<|pa1<|pv 1)
  (YZ<|Ym<|Ve (Yo VB (Yn (pv 0) rfl)<|Wr Ur Ya) TO.cl m2 G2 a b2 .nil Y2))),?_⟩
 dsimp only[Vf,Cx.nox,Cx.wish];show let T0:=_;let T1:=Yk _ T0;let T2:=Yk _ T1;let T3:=_;Yk (VE _ T3 _) T2 _ _ _
 intros
 rcases h with⟨l,b,j,d,z,B,mo,S,c,k,R,I,m,r,l',s',D,hs,hd,ef,ok,hk,lt,lu,gs,ls,q⟩|⟨l,b,j,d,z,B,S,c,k,D,q⟩
 .obtain ⟨nK,hK,ws,_⟩:=id D.ws
  refine⟨CW,_,_,_,ws.ins,Z.cl,Z.bg,Fz _,CW,_,_,_,ws.ins,Z.cl,Z.mo,QJ _,Y,_,Y,Y0 (by simp;omega) ?_⟩;refine⟨_,_,_,_,_,Y,ws.ins,Z.cl,Z.bg,Fz _,_,1,Y,Y,_,_,ws.ins,(by show 7<1000;decide),?_⟩;refine fld_in B.t _ λH1 p x1=>?_;have N:=D.bg (bg':=S.bg+1) p x1;obtain⟨G3,M2,J,_⟩:=id N.ws;refine⟨CW,_,_,_,J.ins,Z.cl,Z.uw,Wo _,.inl ⟨Y,_,Z3 J.uw⟩,_,_,J.ins,Qw _,l,b,j,d,z,B,mo,_,c,k,R,I,N,hs,hd,ef,ok,hk,λO H2 e1 x e f2 r2 p2 k2 n2=>?_⟩;have G:=J.mono e;have lo:=D.ul;refine⟨B.uw,_,_,Y,Y,G.uw,Yj (by rw[ZA];omega),?_⟩;refine fld_in B.uw _ λH3 g x3=>?_;have M:=N.push e r2 f2 g x3;obtain⟨J2,L1,T,_⟩:=id M.ws;have eu:S.u++[⟨O.n,O.F,I.2,[]⟩]=S.u++[(⟨O.n,O.F,I.2,[]⟩:UE)]:=rfl;obtain⟨o,_⟩:=M.us c.length O ⟨O.n,O.F,I.2,[]⟩ (by rw[yh (ZG _),yr];rfl) (by show(S.u++ _)[_]?=_;rw[lo,yh<|ZG _,yr];rfl);have U:=JT g G.uw;exists CW,_,_,_,T.ins,Z.cl,Z.uw,Wo _,1,Y,_,V.ref O.t,Z3 T.uw,by rw[ZK];exact UX _ _,_,_,o.gm.ins,AC _;refine⟨l,b,j,d,z,avW B,O,I.2,R.pl,R.ρ,S.s,m,r,l',s',o,U _ _ p2,k2.lb G.uw g,n2,by rw[e1,x];exact gs,λv H4 f4 r4 hv=>?_⟩;refine q v O H4 ?_ hv;have:=M.run (u:=S.u) rfl f4 r4 ls;rw[e1,x]at this;exact this
 .obtain ⟨nK,hK,ws,_⟩:=id D.ws
  refine⟨CW,_,_,_,ws.ins,Z.cl,Z.bg,Fz _,CW,_,_,_,ws.ins,Z.cl,Z.mo,QJ _,Y,_,Y,VH (by simp) ⟨sl 1,λt ht=>?_⟩⟩;refine up_in ht _ λH1 s1 y=>q t H1 s1 y
inductive OD(P:Program)(w:World)(C CK CG CO CW:Addr)(H:Hp)(Q:VK):List V->Prop
 |mk (Hm:Hp) (A:GA) (ks:List (Str×Shp)) (d:Str->Nat) (ds:List Dd) (B:WA) (mo:Nat) (S:WSt) (Os:List OM) (k:Nat) (y:V) (wk:WK P w Hm H C CK CG CO CW A ks d ds B mo S Os) (nk:k∉S.h) (lh:S.h.length<=900)
  (q:∀H',TK H H'->WK P w Hm H' C CK CG CO CW A ks d ds B mo {S with h:=S.h++[k]} Os->Q .non H'):OD P w C CK CG CO CW H Q [.ref B.t,.int (k:Nat),y]
def Rt(P:Program)(w:World)(C CK CG CO CW:Addr):Sp:=λZ H Q _=>OD P w C CK CG CO CW H Q Z
def V7{Z:kF}{J:List Nat}(h:Z.map (·.1)=J.map kK)(n:k∉J):VC Z (kK k)=none/\putK Z (kK k) v=Z++[(kK k,v)]:=by
 have a:(Z.any λL=>decide<|L.1=kK k)=false:=by
  rw[j9];intro p M z;have:p.1∈Z.map (·.1):=List.mem_map_of_mem M;rw[h]at this;obtain⟨j,G,e⟩:=ZW.mp this;have N:kK j=kK k:=e.trans<|Zt z;have:(j:Int)=k:=Sum.inl.inj N;rw[show j=k by omega]at G;exact n G
 refine⟨?_,by unfold putK;rw[a];rfl⟩;rw[JY]at a
 cases e:VC Z (kK k)with
 |none=>rfl
 |some _=>rw[e]at a;cases a
def Kh(N:WCl K CW)(F:Fun K "end" "Walk.end" Qz f X):Yf P w K u base CX0 (n+1) f X ["self","number","head"] (Rt P w C CK CG CO CW):=by
 refine F.oi SO λj A J s H g Q E D h=>?_;obtain⟨x,A',r,d,o,B,c,S,i,k,y,G,R,v,q⟩:=h;have T:=V9 D;exists _,YZ<|Vc T (Yn (pv 0) rfl) (pv 1) (pv 2) rfl;dsimp only[Vf,Cx.nox,Cx.wish];obtain⟨p,l,Z,L,_⟩:=id G.ws;have I:=congrArg List.length L;rw[ZA,ZA]at I;refine⟨CW,_,_,_,Z.ins,N.cl,N.hs,Fx _,_,Jh.k (k:=kK k) Z.hs<|Yj<|by omega,?_⟩;refine fld_in B.hs _ λt M O=>?_;refine q t (λa m e=>M _ _ (Yv e Z.hs (by intro z;cases z)) e)<|G.hd (y:=y) M λU e b=>?_;rw[Z.hs]at e;cases e;rw[O,(V7 L R).2]
def yH:List.Nodup [("going":Str)]:=by decide +kernel
def Cd:List.Nodup [("other":Str),"self"]:=by decide +kernel
inductive SRF(P:Program)(w:World)(C CK CG CO CW:Addr)(H:Hp)(Q:VK):List V->Prop
 |mk (Hm:Hp) (A:GA) (ks:List (Str×Shp)) (d:Str->Nat) (ds:List Dd) (B:WA) (mo:Nat) (S:WSt) (Os:List OM) (k i:Nat) (wk:WK P w Hm H C CK CG CO CW A ks d ds B mo S Os) (lu:S.u.length<=900) (hi:(S.u.map (·.k))[i]?=some k) (hn:∀j u,j<i->(S.u.map (·.k))[j]?=some u->u≠k)
  (q:∀p vs H',Same H H'->H p=none->H' p=some (.lst vs)->HasL H' vs ((S.u.drop i).map λe=>bD S.s.1 e.k)->Q (.ref p) H'):SRF P w C CK CG CO CW H Q [.ref B.t,.int (k:Nat)]
def SF(P:Program)(w:World)(C CK CG CO CW:Addr):Sp:=λZ H Q _=>SRF P w C CK CG CO CW H Q Z
def CN(TW:WCl K CW)(TO:OCl K CO)(F:Fun K "ring_from" "Walk.ring_from" X8 f fd)(m:VI K CW "birth_of" g)(G:Yf P w K mg base CX0 n g gd sn (R0 P w CG CW))(bG:Binds K gd sn []):Yf P w K mg base CX0 (n+1) f fd sn (SF P w C CK CG CO CW):=by
 refine F.oi Ay λR1 A y s H vs Q E hr h=>?_;obtain⟨Hm,A',ks,d,ds,B,mo,S,Os,k,i,J,lu,b,hn,q⟩:=h;refine⟨_,YY (MT (i0:=2) ["going"] [] Ay.nd Y (Or.inl Y) (JP<|Yn (pv 0) rfl) (Vk (i:=0)<|by decide) (λcl C T s H=>Yl 0 yH rfl (Or.inl rfl) (Or.inr rfl)) (λcl C T s H=>EL K (pv 0) rfl))
  (YZ<|Ym<|JG ["other"] [0] (JP<|Vz Xg (pv 2) (JN<|J1 Zz jE PySem.F.type_list_index LA (pv 2)<|pa1<|pv 1) JO) (Vk (i:=0)<|by decide) (λcl C T s H=>Yl 0 Cd rfl (Or.inl rfl) (Or.inr rfl)) λcl C T s H=>Y6 (pv 1) TW.cl m G hr bG .nil Y2<|pa1<|pv 0),?_⟩
 dsimp only[Vf,Cx.nox,Cx.wish];show let T0:=_;Yk _ T0 _ _ _
 intros
 obtain⟨nK,hK,I,_⟩:=id J.ws;have lo:=J.ul;exists CW,_,_,_,I.ins,TW.cl,TW.uw,Wo _,⟨_,Z3 I.uw⟩;refine L6 (us:=Os) (D:=λO=>.ref O.t) (E:=λO=>.int (O.n:Nat)) (itl<|Z3 I.uw) (by omega) (λO R m a=>?_) λp H1 T X N=>?_
 .obtain ⟨e,r⟩:=J.get m
  exact⟨CO,_,_,_,r.gm.ins,TO.cl,TO.nu,NU _,a⟩
 rw[J.nums]at N;have M:=J.mono X;obtain⟨L1,O1,G2,_⟩:=id M.ws;have il:=(ZF.mp b).1;rw[ZA]at il;rw[ZH]at b;obtain⟨ei,o,G1⟩:=Zj.mp b;exists .inl ⟨Y,_,Z3 N⟩,p,_,_,.int (k:Nat),i,Y,Y,Z3 N,Y,?_,by rw[ZH,o];exact congrArg (λn:Nat=>some<|V.int n) G1,by simp[eqV],λj u hj hu=>?_
 .rw [jg]
  intro v c;obtain⟨e,_,rfl⟩:=ZW.mp c
  rfl
 .rw [ZH]at hu
  obtain⟨e,he,rfl⟩:=Zj.mp hu;have:=hn j e.k hj (by rw[ZH,he];rfl);simp[eqV];omega
 refine⟨(i:Int),Y,p,_,Y,Z3 N,λt ht=>?_⟩;refine up_in ht _ λH2 U g2=>?_
 have ec:Uq (S.u.map λe=>V.int (e.k:Nat)) (some (i:Int)) none=(S.u.drop i).map λe=>V.int (e.k:Nat):=by
  unfold Uq;rw[HT.sIx_nat,HT.sIx_none,ZA,vm<|Zh il,List.map_drop,Zg (by rw[vO,ZA];exact ZG _)]
 rw[ec]at g2;exists ⟨_,Z3 g2⟩;have Z:=M.mono U;obtain⟨G3,M2,L,_⟩:=id Z.ws;refine Nq (us:=S.u.drop i) (D:=λe=>.int (e.k:Nat)) (E:=λe=>bD S.s.1 e.k) (itl<|Z3 g2) ?_ (by rw[vO];omega) (λe x R m hx a=>?_) λvs p2 H3 J2 s3 l z=>?_
 .exact RP _
 .have:x=.int (e.k:Nat):=by unfold Has at hx;exact hx
  subst this;exact⟨_,_,L.ins,Fy _,.num A' B _ _ S.s.1 S.s.2 (avW B) e.k L.ins J.gr Z.mx.gg (Z.le<|jk m) λv c=>a v c⟩
 .exact q p2 vs H3 ((X.trans U).trans s3) ((X.trans U).free J2) l z
end
end K4
namespace L2
open PySem
def Vp(u:List UE):Option Nat:=u.getLast?.map (·.k)
inductive WC(ds:List Dd)(mo n k:Nat)(S:WSt)(Rg:List Dat->Prop)(Dr:WSt->Prop)(Go:WSt->Stp->Prop):Prop
 |ring (i:Nat) (m:k∈S.r.map (·.1)) (hi:(S.u.map (·.k))[i]?=some k) (hn:∀j u,j<i->(S.u.map (·.k))[j]?=some u->u≠k) (q:Rg ((S.u.drop i).map λe=>bD S.s.1 e.k))
 |dry (m:k∉S.r.map (·.1)) (e:S.bg=mo) (q:Dr {S with r:=S.r++[(k,Vp S.u)],wc:=S.wc+1})
 |go (sta:Sta) (df:Dd) (j:Nat) (r:Stp) (l':List WEn) (s':Ss) (m:k∉S.r.map (·.1)) (hs:S.s.2 k=some sta) (hd:df∈ds) (ef:df.1.1=sta.f) (ok:df.2.ok) (hk:k<=S.s.1.length) (lt:S.bg<mo) (gs:Gos ds sta.f df.2 k n j (.body sta.pl sta.ρ) [] S.s r l' s') (ls:S.s.1.length<=s'.1.length)
   (q:Go {S with r:=S.r++[(k,Vp S.u)],wc:=S.wc+1,u:=S.u++[⟨k,sta.f,df.2,l'⟩],bg:=S.bg+1,s:=s'} r)
def WK.insB(k:WK P w L H C M CG CO CW A J d G B Z S Os):H B.t=some (.ins CW B.dx<|V3 B (Z:Nat) (S.bg:Nat)):=let⟨_,_,h,_⟩:=k.ws;h.ins
def MR(r:List (Nat×Option Nat)):(rK r).map (·.1)=(r.map (·.1)).map kK:=by unfold rK;rw[yj,yj];rfl
def OU(h:Z.map (·.1)=(l:List Nat).map kK)(m:k∈l):(VC (Z:kF)<|kK k).isSome=true:=by
 rw[<-JY,ji];have:kK k∈Z.map (·.1):=by rw[h];exact List.mem_map_of_mem m
 obtain⟨p,J,e⟩:=ZW.mp this;exact⟨p,J,decide_eq_true e⟩
def AL{c A B:Prop}[Decidable c](J:c->A)(Z:¬c->B):if c then A else B:=by
 by_cases h:c
 .rw [Zp h];exact J h
 .rw [Zq h];exact Z h
def KF:(rK r).length=r.length:=by unfold rK;rw[ZA]
def TF(h:S.u=u++[e]):Vp (S:WSt).u=some e.k:=by unfold Vp;rw[h,List.getLast?_concat];rfl
end L2
namespace K4
open PySem L2
section
variable{C CK CG CO CW CD:Addr}
def BQ:Yh ["self","number","wanter"] sn (Yc F0):=Y5
inductive OC(P:Program)(w:World)(C CK CG CO CW:Addr)(n:Nat)(H:Hp)(Q:VK):List V->Prop
 |mk (Hm:Hp) (A:GA) (ks:List (Str×Shp)) (d:Str->Nat) (ds:List Dd) (B:WA) (mo:Nat) (S:WSt) (Os:List OM) (k:Nat) (wk:WK P w Hm H C CK CG CO CW A ks d ds B mo S Os) (nh:k∉S.h) (hw:∀e∈S.u,e.k∈S.r.map (·.1)) (lr:S.r.length<=900) (lw:S.wc<=900) (lu:S.u.length<=900)
  (c:WC ds mo n k S (λrs=>∀t p vs H',WK P w Hm H' C CK CG CO CW A ks d ds B mo {S with wc:=S.wc+1} Os->H' t=some (.tup [.str "ring",.ref p])->Hm p=none->H' p=some (.lst vs)->HasL H' vs rs->Q (.ref t) H')
   (λS'=>∀t H',WK P w Hm H' C CK CG CO CW A ks d ds B mo S' Os->H' t=some (.tup [.str "dry"])->Q (.ref t) H')
   (λS' r=>∀v O H',WK P w Hm H' C CK CG CO CW A ks d ds B mo S' (Os++[O])->r.on A (avW B) H' v->Q v H')):OC P w C CK CG CO CW n H Q [.ref B.t,.int (k:Nat)]
def Rq(P:Program)(w:World)(C CK CG CO CW:Addr)(n:Nat):Sp:=λZ H Q _=>OC P w C CK CG CO CW n H Q Z
def Ki(B':Blt mg)(J:WCl K CW)(TO:OCl K CO)(F:Fun K "want" "Walk.want" F0 f fd)(m:VI K CW "go_into" g)(G:Yf P w K mg base CX0 L g gd sn (BN P w C CK CG CO CW n))(bG:Binds K gd sn [])(mR:VI K CW "ring_from" gR)(GR:Yf P w K mg base CX0 L gR gRd sn (SF P w C CK CG CO CW))(bR:Binds K gRd sn []):Yf P w K mg base CX0 (L+1) f fd sn (Rq P w C CK CG CO CW n):=by
 refine F.oi BQ λR1 A G3 s H vs Q E hr h=>?_;obtain⟨Hm,A',ks,d,ds,B,mo,S,x,k,wk,nh,hw,lr,lw,lu,c⟩:=h;have hu:=V9 hr;refine⟨_,YY (Yx 2 BQ.nd<|Vs)
  (YY (Y1 (Yr G8 (VA Y7 rfl B'.len Zu (pa1<|Yn (pv 0) rfl)) Ya<|Yz _) (YY (Yx 2 BQ.nd<|Yn (Yo VB (Yn (pv 0) rfl)<|Wr Ur Ya) rfl)
  (YZ<|Y1 (Yr Ju (pv 1) (Vj hu (Yn (pv 0) rfl) (pv 2) λ_ _=>rfl) rfl) (YZ<|VQ<|J1 Zz Z0 Z1 Vu (Vj hu (Yn (pv 0) rfl) (pv 2) λ_ _=>rfl)<|pa1<|pv 1) Yp)) Yp)
  (YY (Y1 (Jp<|Uw hu (pv 1)<|Yn (pv 0) rfl) JV Yp)
  (YY (Y1 (Jp<|Uw hu (pv 1)<|Yn (pv 0) rfl) (YZ<|Ym<|Yi<|pa2 (Yy)<|Y6 (pv 0) J.cl mR GR hr bR .nil Y2<|pa1<|pv 1) Yp)
  (YY (Vc hu (Yn (pv 0) rfl) (pv 1) (pv 2) rfl)
  (YY (Vc hu (Yn (pv 0) rfl) (pv 1) (V8 VP) rfl)
  (YZ<|Ym<|Y6 (pv 0) J.cl m G hr bG .nil Y2<|pa1<|pv 1)))))),?_⟩
 dsimp only[Vf,Cx.nox,Cx.wish];show let T0:=_;let T1:=Yk _ T0;let T2:=Yk _ T1;let T3:=_;let T4:=Yk (VE _ T3 _) T2;let T5:=Yk (VE _ _ _) T4;let T6:=_;let T7:=VE _ T6 _;let T8:=Yk _ T7;let T9:=Yk (VE _ T8 _) T5;Yk _ T9 _ _ _
 intros
 have lo:=wk.ul;refine Et ?_;refine Jw (λU H'=>∃H1,U=[some (.ref B.t),some<|.int (k:Nat),some (oV<|Vp S.u)]/\WK P w Hm H' C CK CG CO CW A' ks d ds B mo {S with wc:=S.wc+1} x/\H1=H') ?_ ?_
 .rintro U H1 ⟨_,rfl,wk1,-⟩
  obtain⟨nK,hK,Z,h2,h3,h4⟩:=id wk1.ws;have vh:VC hK (kK k)=none:=(V7 (v:=.non) h2 nh).1;refine⟨CW,_,_,_,Z.ins,J.cl,J.hs,Fx _,_,Vg.k (k:=kK k) Z.hs,_,Y,Y0 (by rw[vh];decide) ?_⟩;exists CW,_,_,_,Z.ins,J.cl,J.wr,D6 _,_,Vg.k (k:=kK k) Z.wr,_,Y
  cases c with
  |ring i m hi hn q=>
   refine VH (by rw[OU (MR _) m]) ?_;refine⟨_,_,Z.ins,Ag _,Hm,A',ks,d,ds,B,mo,_,x,k,i,wk1,lu,hi,hn,λp vs H2 s2 fp hp hv=>⟨sl 2,λt ht=>?_⟩⟩;refine up_in ht _ λH3 D g3=>q t p vs H3 (wk1.mono<|s2.trans D) g3 (wk1.mx.sm.free fp) (D _ _ hp)<|hv.mono D
  |dry m e q=>
   obtain⟨vr,pr⟩:=V7 (v:=oV<|Vp S.u) (MR S.r) m;refine Y0 (by rw[vr];decide) ?_;refine⟨CW,_,_,_,Z.ins,J.cl,J.wr,D6 _,_,Jh.k (k:=kK k) Z.wr<|Yj (by rw[KF];exact Zb lr<|by decide),?_⟩;rw[pr];refine fld_in B.wr _ λH2 a x2=>⟨sl 0,λl y=>?_⟩;refine up_in y _ λH3 D g3=>?_;have b:=D _ _<|a _ _ (Yv Z.ins Z.wr (by intro z;cases z)) Z.ins;have T:=D _ _<|a _ _ wk1.wf.d1.symm Z.wn;have e3:rK (S.r++[(k,Vp S.u)])=rK S.r++[(kK k,oV<|Vp S.u)]:=by unfold rK;rw[ZK];rfl
   have R:=congrArg List.length h3;rw[ZA,ZA]at R;refine⟨CW,_,_,_,b,J.cl,J.wn,D7 _,_,Jh.k (k:=kK k) T<|Yj (by rw[R];exact Zb lr<|by decide),?_⟩;have n3:=(V7 (v:=.ref l) (h3.trans (by rw[yj];rfl):nK.map (·.1)=(S.r.map (·.1)).map kK) m).2;rw[n3];refine fld_in B.wn _ λH5 b5 x5=>?_
   have M:=wk1.wn (c:=k) (o:=Vp S.u) (l:=l) a (by rw[e3];exact x2) y D g3 b5 λL1 e=>by
    rw[T]at e;cases e;exact x5
   exists _,_,(M.insB),QL _;have e':mo=({S with r:=S.r++[(k,Vp S.u)],wc:=S.wc+1}:WSt).bg:=e.symm;rw[e']at M;exact .dry Hm A' ks d ds B _ x k M λt H6 s6 g6=>q t H6 (by rw[e'];exact M.mono s6) g6
  |go G2 df j r l' s' m hs hd ef ok hk lt gs ls q=>
   obtain⟨vr,pr⟩:=V7 (v:=oV<|Vp S.u) (MR S.r) m;refine Y0 (by rw[vr];decide) ?_;refine⟨CW,_,_,_,Z.ins,J.cl,J.wr,D6 _,_,Jh.k (k:=kK k) Z.wr<|Yj (by rw[KF];exact Zb lr<|by decide),?_⟩;rw[pr];refine fld_in B.wr _ λH2 a x2=>⟨sl 0,λl y=>?_⟩;refine up_in y _ λH3 D g3=>?_;have b:=D _ _<|a _ _ (Yv Z.ins Z.wr (by intro z;cases z)) Z.ins;have T:=D _ _<|a _ _ wk1.wf.d1.symm Z.wn;have e3:rK (S.r++[(k,Vp S.u)])=rK S.r++[(kK k,oV<|Vp S.u)]:=by unfold rK;rw[ZK];rfl
   have R:=congrArg List.length h3;rw[ZA,ZA]at R;refine⟨CW,_,_,_,b,J.cl,J.wn,D7 _,_,Jh.k (k:=kK k) T<|Yj (by rw[R];exact Zb lr<|by decide),?_⟩;have n3:=(V7 (v:=.ref l) (h3.trans (by rw[yj];rfl):nK.map (·.1)=(S.r.map (·.1)).map kK) m).2;rw[n3];refine fld_in B.wn _ λH5 b5 x5=>?_
   have M:=wk1.wn (c:=k) (o:=Vp S.u) (l:=l) a (by rw[e3];exact x2) y D g3 b5 λL1 e=>by
    rw[T]at e;cases e;exact x5
   exists _,_,(M.insB),QL _;exact .go Hm A' ks d ds B mo _ x k G2 df j r l' s' M hs hd ef ok hk lt lu gs ls q
 .intro N hN
  obtain⟨nK,hK,u,h2,h3,h4⟩:=id wk.ws;exists CW,_,_,_,u.ins,J.cl,J.uw,Wo _,B.uw,_,Y,.inl<|Z3 u.uw,_,rfl
  by_cases u0:S.u=[]
  .have o0:x=[]:=vj (by rw[lo,u0];rfl)
   refine Y0 (by rw[o0];decide)<|hN _ _ ⟨H,?_,wk.wc,rfl⟩;unfold Vp;rw[u0]
   rfl
  .have ne:x≠[]:=λz=>u0<|vj (by rw[<-lo,z];rfl)
   obtain⟨I,O,rfl⟩:∃I O,x=I++[O]:=⟨_,_,(yw ne).symm⟩;obtain⟨u',e,eu⟩:∃u' e,S.u=u'++[e]:=⟨_,_,(yw u0).symm⟩
   have ll:I.length=u'.length:=by
    rw[eu,ZL,ZL]at lo;simpa using lo
   have us:=wk.us I.length O e (by rw[yh (ZG _),yr];rfl) (by rw[eu,ll,yh<|ZG _,yr];rfl);have ek:=TF eu;have em:=hw e (by rw[eu];exact ZU _<|ZQ.mpr rfl);refine VH (by rw[ZA,ZL,yg];exact decide_eq_true<|by omega) ?_;exists CW,_,_,_,u.ins,J.cl,J.uw,Wo _,1,Y,_,V.ref O.t,Z3 u.uw,by rw[ZK];exact UX _ _,CO,_,_,_,us.1.gm.ins,TO.cl,TO.nu,NU _;obtain⟨v,hv,y⟩:=Qv h4 h3 em;obtain⟨l,xs,rfl,X,M2,R,O1⟩:=id y;rw[us.2.1];have dg:=Vg.k (k:=kK e.k) u.wn;rw[hv]at dg;exists CW,_,_,_,u.ins,J.cl,J.wn,D7 _,_,dg;exists l,xs,Y,.inl<|Z3 X,rfl,M2,_,rfl;have J2:∀{H':Hp},WK P w Hm H' C CK CG CO CW A' ks d ds B mo {S with wc:=S.wc+1} (I++[O])->N [some (.ref B.t),some<|.int (k:Nat),some (.int (e.k:Nat))] H':=λG1=>hN _ _ ⟨_,by rw[ek];rfl,G1,rfl⟩;refine AL (λ_=>?_) λ_=>J2 wk.wc;refine⟨CW,_,_,_,u.ins,J.cl,J.wn,D7 _,_,dg,.inl ⟨Y,_,Z3 X⟩,l,_,_,Y,Y,X,Yj<|by omega,?_⟩;refine fld_in l _ λH1 b1 x1=>J2<|wk.wl y X b1 x1 rfl
end
end K4
namespace L2
open PySem
inductive N4 where
 |st (x:Stp)|taken (t:Str)|ring (rs:List Dat)|dry
def N4.on(Hm:Hp)(A:GA)(av:Addr->Prop)(H:Hp)(v:V):N4->Prop
 |.st x=>x.on A av H v
 |.taken t=>Has H v<|.tup [.str "taken",K4.tagD t]
 |.ring rs=>∃t p vs,v=.ref t/\H t=some (.tup [.str "ring",.ref p])/\Hm p=none/\H p=some (.lst vs)/\HasL H vs rs
 |.dry=>∃t,v=.ref t/\H t=some (.tup [.str "dry"])
def Wlk(ds:List Dd)(mo n:Nat):Nat->N4->WSt->N4->WSt->Prop
 |0,_,_,_,_=>False
 |j+1,x,S,R,SR=>match x with
  |.ring rs=>R=.ring rs/\SR=S
  |.dry=>R=.dry/\SR=S
  |.st (.want k)=>k∉S.h/\(∀e∈S.u,e.k∈S.r.map (·.1))/\S.r.length<=900/\S.wc<=900/\S.u.length<=900/\WC ds mo n k S (λrs=>Wlk ds mo n j (.ring rs) {S with wc:=S.wc+1} R SR) (λS'=>Wlk ds mo n j .dry S' R SR) (λS' r=>Wlk ds mo n j (.st r) S' R SR)
  |.st (.head t)=>∃u e,S.u=u++[e]/\e.k∉S.h/\S.h.length<=900/\Wlk ds mo n j (.taken t) {S with u:=u,h:=S.h++[e.k]} R SR
  |.taken t=>∃u e m r l' s',S.u=u++[e]/\Gos ds e.F e.b e.k n m (.head t) e.l S.s r l' s'/\S.s.1.length<=s'.1.length/\Wlk ds mo n j (.st r) {S with u:=u++[{e with l:=l'}],s:=s'} R SR
  |_=>False
def WC.mono{M Z:List Dat->Prop}{O G:WSt->Prop}{N J:WSt->Stp->Prop}(c:WC t mo n k S M O N)(Q:∀r,M r->Z r)(P:∀s,O s->G s)(X:∀s r,N s r->J s r):WC t mo n k S Z G J:=by
 cases c with
 |ring i m U A q=>exact .ring i m U A<|Q _ q
 |dry m e q=>exact .dry m e<|P _ q
 |go L g j r E R m F C z T I B y D q=>exact .go L g j r E R m F C z T I B y D<|X _ _ q
def An(b:SameB p H G)(h:H p=some (.dK J)):TL H G:=⟨λa Z e=>b _ _ (Yv e h (by intro z;cases z)) e,λa Z e=>b _ _ (Yv e h (by intro z;cases z)) e⟩
def owD(cs:List Mk1):Option Nat->Dat
 |none=>.non
 |some j=>bD cs j
def dnL(S:WSt):kM:=S.h.map λk=>.tup [bD S.s.1 k,owD S.s.1 ((S.r.lookup k).getD none)]
structure OK(S:WSt):Prop where
 ok:∀k∈S.h,k<=S.s.1.length/\∃o,S.r.lookup k=some o/\∀j,o=some j->j<=S.s.1.length
 l:S.h.length<=900
theorem KE:∀(r:List (Nat×Option Nat)){k:Nat}{o:Option Nat},r.lookup k=some o->VC (rK r) (kK k)=some (oV o)
 |[],_,_,h=>by simp at h
 |p::r,k,o,h=>by
  rw[yx]at h
  by_cases z:k=p.1
  .subst z
   rw[beq_self_eq_true]at h;cases h;exact Vi Y
  .have zb:(k==p.1)=false:=beq_eq_false_iff_ne.mpr z
   rw[zb]at h;refine(Vr λq=>z ?_).trans<|KE r h;have:(p.1:Int)=k:=Sum.inl.inj q;omega
end L2
namespace K4
open PySem L2
section
variable{C CK CG CO CW CD:Addr}
def Af(A:WA):(V3 A mo bg).lookup ("want":Str)=none:=rfl
def Aj(A:WA):(V3 A mo bg).lookup ("end":Str)=none:=rfl
def Ai(A:WA):(V3 A mo bg).lookup ("head_of_cell":Str)=none:=rfl
def Ci(A:OM):(Jj A).lookup ("take_head":Str)=none:=rfl
def FE:Yh ["self","number","stop","ended"] sn (Yc Wf):=Y5
inductive zG(P:Program)(w:World)(C CK CG CO CW:Addr)(n:Nat)(H:Hp)(Q:VK):List V->Prop
 |mk (Hm:Hp) (A:GA) (ks:List (Str×Shp)) (d:Str->Nat) (ds:List Dd) (B:WA) (mo:Nat) (S:WSt) (Os:List OM) (k j:Nat) (R:N4) (SR:WSt) (wk:WK P w Hm H C CK CG CO CW A ks d ds B mo S Os) (gs:Wlk ds mo n j (.st (.want k)) S R SR)
  (q:∀v Os' H',WK P w Hm H' C CK CG CO CW A ks d ds B mo SR Os'->((∃rs,R=.ring rs)\/R=.dry)->R.on Hm A (avW B) H' v->Q v H'):zG P w C CK CG CO CW n H Q [.ref B.t,.int (k:Nat)]
def IX(P:Program)(w:World)(C CK CG CO CW:Addr)(n:Nat):Sp:=λZ H Q _=>zG P w C CK CG CO CW n H Q Z
def Sx(B':Blt mg)(TW:WCl K CW)(TO:OCl K CO)(F:Fun K "head_of_cell" "Doing.head_of_cell" Wf f fd)(m1:VI K CW "want" g1)(G1:Yf P w K mg base CX0 L g1 d1 sn (Rq P w C CK CG CO CW n))(b1:Binds K d1 sn [])(m2:VI K CW "end" g2)(G2:Yf P w K mg base CX0 L g2 d2 ["self","number","head"] (Rt P w C CK CG CO CW))(b2:Binds K d2 ["self","number","head"] [])(m3:VI K CO "take_head" g3)(G3:Yf P w K mg base CX0 L g3 d3 ["self","head"] (IT P w C CK CG CO n))(b3:Binds K d3 ["self","head"] []):Yf P w K mg base CX0 (L+1) f fd sn (IX P w C CK CG CO CW n):=by
 refine F.oi FE λD1 A R4 s H vs Q E hr h=>?_;obtain⟨Hm,A',ks,d,ds,B,mo,S,y,k,j,R,SR,N,gs,q⟩:=h;refine⟨_,YY (Yx 2 FE.nd<|Yi<|pa2 (Yy)<|pv 1)
  (YZ (NJ Zv (JR Xn) (YZ (Y1 (Yr VZ (Yo (r:=Vb K) Yt (pv 2)<|Ya) Yy<|Yz _) (YZ<|Yx 2 FE.nd<|Y6 (pv 0) TW.cl m1 G1 hr b1 .nil Y2<|pa1<|Yo (r:=Vb K) Yt (pv 2)<|Ya) (YZ (Y1 (Yr VZ (Yo (r:=Vb K) Yt (pv 2)<|Ya) Yy<|Yz _) (YY (Yx 3 FE.nd<|Ka Zz PySem.F.slot_list_pop PySem.F.type_list_pop K9<|Yn (pv 0) rfl)
  (YY (VQ<|Y6 (pv 0) TW.cl m2 G2 hr b2 .nil Y2<|pa2 (Yn (pv 3) rfl)<|Yo (r:=Vb K) Yt (pv 2)<|Ya)
  (YZ<|Yx 2 FE.nd<|Yi<|pa2 (Yy)<|Yo (r:=Vb K) Yt (pv 2)<|Ya)))<|YZ<|Y1 (Yr UR (Yo (r:=Vb K) Yt (pv 2)<|Ya) Yy<|Yz _) (YZ<|Ym<|pv 2)<|YZ<|Y1 (Yr VZ (VA Y7 rfl B'.len Zu (pa1<|Yn (pv 0) rfl)) Ya<|Yz _) JV<|YZ<|Yx 2 FE.nd<|Y6 (Yo VB (Yn (pv 0) rfl)<|Wr Ur Ya) TO.cl m3 G3 hr b3 .nil Y2<|pa1<|Yo (r:=Vb K) Yt (pv 2)<|Ya)))))),?_⟩
 dsimp only[Vf,Cx.nox,Cx.wish];show let T0:=_;let T1:=_;let T2:=Yk _ T1;let T3:=Yk _ T2;let T4:=_;let T5:=_;let T6:=VE _ _ T5;let T7:=VE _ T4 T6;let T8:=VE _ T3 T7;let T9:=VE _ T0 T8;let D0:=BE _ T9;Yk _ D0 _ _ _
 intros
 refine⟨sl 2,λt0 R7=>?_⟩;refine up_in R7 _ λH0 s0 g0=>?_
 let W:kI:=λj U i=>∃x S y v z,U=[some (.ref B.t),some<|.int (k:Nat),some v,z]/\WK P w Hm i C CK CG CO CW A' ks d ds B mo S y/\x.on Hm A' (avW B) i v/\Wlk ds mo n j x S R SR
 refine⟨W,⟨j,.st<|.want k,S,y,_,_,rfl,N.mono s0,Yu g0<|Z4 Y4<|Z5 (by unfold Has;rfl),gs⟩,?_⟩;rintro j U H1 ⟨x,S,y,v,z,rfl,N,G,gs⟩;refine⟨true,Y,VH Y ⟨λU i=>∃j',j'<j/\W j' U i,λU' i z=>z,?_⟩⟩
 cases j with
 |zero=>unfold Wlk at gs;exact gs.elim
 |succ j=>
 unfold Wlk at gs;obtain⟨nK,hK,b,h2,h3,h4⟩:=id N.ws;have a:=N.ul
 match x,gs,G with
 |.ring rs,⟨o,l⟩,G=>
  subst o l;obtain⟨t,p,T,rfl,J,-⟩:=id G;refine⟨_,_,Z2 J,at0,Y,_,Y,Y0 (by decide +kernel) ?_⟩;refine⟨_,_,Z2 J,at0,Y,_,Y,Y0 (by decide +kernel) ?_⟩;refine⟨_,_,Z2 J,at0,Y,_,Y,VH (by decide +kernel)<|q _ _ _ N (.inl ⟨_,rfl⟩) G⟩
 |.dry,⟨o,l⟩,G=>
  subst o l;obtain⟨t,rfl,J⟩:=id G;refine⟨_,_,Z2 J,at0,Y,_,Y,Y0 (by decide +kernel) ?_⟩;refine⟨_,_,Z2 J,at0,Y,_,Y,Y0 (by decide +kernel) ?_⟩;refine⟨_,_,Z2 J,at0,Y,_,Y,VH (by decide +kernel)<|q _ _ _ N (.inr rfl) G⟩
 |.st (.want k'),⟨n1,n2,n3,n4,n5,c⟩,G=>
  have D:Has H1 v (.tup [.str "want",.int (k':Nat)]):=G;obtain⟨t,ys,rfl,J,hl⟩:=Yw D;obtain⟨x1,r1,rfl,o,X⟩:=Yd hl;obtain⟨x2,r2,rfl,l,I⟩:=Yd X;obtain rfl:=VD I;obtain rfl:=has_str o;obtain rfl:x2=.int (k':Nat):=by unfold Has at l;exact l
  refine⟨_,_,Z2 J,at0,Y,_,Y,VH (by decide +kernel) ?_⟩;refine⟨_,_,b.ins,Af _,_,_,Z2 J,at1,Hm,A',ks,d,ds,B,mo,S,y,k',N,n1,n2,n3,n4,n5,c.mono ?_ ?_ ?_⟩
  .exact λrs g t p T i M M2 fp hp L1=>⟨j,yk _,.ring rs,_,y,_,_,rfl,M,⟨t,p,T,rfl,M2,fp,hp,L1⟩,g⟩
  .exact λS' g t i M M2=>⟨j,yk _,.dry,S',y,_,_,rfl,M,⟨t,rfl,M2⟩,g⟩
  .exact λS' r g u O i M L1=>⟨j,yk _,.st r,S',_,_,_,rfl,M,L1,g⟩
 |.st (.head t),⟨u,e,eu,n1,n2,g⟩,G=>
  have D:Has H1 v (.tup [.str "head",tagD t]):=G;obtain⟨t',ys,rfl,J,hl⟩:=Yw D;obtain⟨x1,r1,rfl,o,X⟩:=Yd hl;obtain⟨x2,r2,rfl,l,I⟩:=Yd X;obtain rfl:=VD I;obtain rfl:=has_str o;have ne:y≠[]:=λz=>by rw[z,eu]at a;simp at a
  obtain⟨Z,O,rfl⟩:∃Z O,y=Z++[O]:=⟨_,_,(yw ne).symm⟩
  have ll:Z.length=u.length:=by
   rw[eu,ZL,ZL]at a;simpa using a
  have T:=N.us Z.length O e (by rw[yh (ZG _),yr];rfl) (by rw[eu,ll,yh<|ZG _,yr];rfl);refine⟨_,_,Z2 J,at0,Y,_,Y,Y0 (by decide +kernel) ?_⟩;refine⟨_,_,Z2 J,at0,Y,_,Y,VH (by decide +kernel) ?_⟩;have uw:=b.uw;rw[ZK]at uw;refine⟨CW,_,_,_,b.ins,TW.cl,TW.uw,Wo _,.inl ⟨Y,_,Z3 uw⟩,B.uw,_,_,Y,Y,uw,by rw[ZL,List.map_singleton,yg,Nat.add_sub_cancel,yh<|ZG _,yr];rfl,?_⟩;rw[List.map_singleton,List.dropLast_concat];refine fld_in B.uw _ λH2 b2 g2=>?_;have J2:=JT b2 b.uw;have O1:=N.pop eu b2 g2;have R8:=b2 _ _ (Yv T.1.gm.ins b.uw (by intro z;cases z)) T.1.gm.ins;exists _,_,O1.insB,Aj _,CO,_,_,_,R8,TO.cl,TO.nu,NU _,_,_,Z2<|J2 _ _ J,at1;rw[T.2.1];refine⟨Hm,A',ks,d,ds,B,mo,_,Z,e.k,x2,O1,n1,n2,λH3 R1 R3=>?_⟩;refine⟨_,_,Z2<|R1 _ _<|J2 _ _ J,at1,sl 2,λt4 R6=>?_⟩;refine up_in R6 _ λH4 s4 g4=>?_;refine⟨j,yk _,.taken t,_,Z,_,_,Y,R3.mono s4,?_,g⟩;have ti:(tagD t).ti=true:=by simp[tagD,Dat.ti,Dat.tis]
  exact Yu g4<|Z4 Y4<|Z5<|(VO R1 _ ti<|VO J2 _ ti l).mono s4
 |.taken t,⟨u,e,m,r,l',s',eu,gs',ls,g⟩,G=>
  have D:Has H1 v (.tup [.str "taken",tagD t]):=G;obtain⟨t',ys,rfl,J,hl⟩:=Yw D;obtain⟨x1,r1,rfl,o,X⟩:=Yd hl;obtain⟨x2,r2,rfl,l,I⟩:=Yd X;obtain rfl:=VD I;obtain rfl:=has_str o;have ne:y≠[]:=λz=>by rw[z,eu]at a;simp at a
  obtain⟨Z,O,rfl⟩:∃Z O,y=Z++[O]:=⟨_,_,(yw ne).symm⟩
  have ll:Z.length=u.length:=by
   rw[eu,ZL,ZL]at a;simpa using a
  have T:=N.us Z.length O e (by rw[yh (ZG _),yr];rfl) (by rw[eu,ll,yh<|ZG _,yr];rfl);refine⟨_,_,Z2 J,at0,Y,_,Y,Y0 (by decide +kernel) ?_⟩;refine⟨_,_,Z2 J,at0,Y,_,Y,Y0 (by decide +kernel) ?_⟩;refine⟨_,_,Z2 J,at0,Y,_,Y,Y0 (by decide +kernel) ?_⟩;refine⟨CW,_,_,_,b.ins,TW.cl,TW.uw,Wo _,B.uw,_,Y,.inl<|Z3 b.uw,rfl,_,rfl,Y0 (by rw[ZA,ZL,yg];simp;omega) ?_⟩;exists CW,_,_,_,b.ins,TW.cl,TW.uw,Wo _,1,Y,_,V.ref O.t,Z3 b.uw,by rw[ZK];exact UX _ _,_,_,T.1.gm.ins,Ci _,_,_,Z2 J,at1;refine⟨Hm,A',ks,d,ds,avW B,O,e.b,e.l,S.s,x2,t,m,r,l',s',T.1,l,by rw[T.2.1,T.2.2];exact gs',λv i f rg R5=>?_⟩;exact⟨j,yk _,.st r,_,_,_,_,Y,N.run eu f rg ls,R5,g⟩
def QS:Yh ["self","whole","told"] ["self","whole"] (Yc Ti):=Y5
inductive Qo(P:Program)(w:World)(C CK CG CO CW:Addr)(n:Nat)(H:Hp)(Q:VK):List V->Prop
 |mk (Hm:Hp) (A:GA) (ks:List (Str×Shp)) (d:Str->Nat) (ds:List Dd) (B:WA) (mo:Nat) (S:WSt) (Os:List OM) (j:Nat) (R:N4) (SR:WSt) (y:V) (wk:WK P w Hm H C CK CG CO CW A ks d ds B mo S Os) (gs:Wlk ds mo n j (.st (.want 0)) S R SR)
  (q:∀v Os' H',WK P w Hm H' C CK CG CO CW A ks d ds B mo SR Os'->((∃rs,R=.ring rs)\/R=.dry)->R.on Hm A (avW B) H' v->Q v H'):Qo P w C CK CG CO CW n H Q [.ref B.t,y]
def BJ(P:Program)(w:World)(C CK CG CO CW:Addr)(n:Nat):Sp:=λZ H Q _=>Qo P w C CK CG CO CW n H Q Z
def PN(e:WCl K CW)(F:Fun K "outcome" "Doing.outcome" Ti f k)(U:VI K CW "head_of_cell" g)(G1:Yf P w K I base CX0 L g u sn (IX P w C CK CG CO CW n))(b:Binds K u sn []):Yf P w K I base CX0 (L+1) f k ["self","whole"] (BJ P w C CK CG CO CW n):=by
 refine F.oi QS λl A J s H vs Q E z h=>?_;obtain⟨Hm,A',X,d,c,B,D,S,x,j,R,a,y,N,m,q⟩:=h;refine⟨_,YY (Yx 2 QS.nd<|Y6 (pv 0) e.cl U G1 z b .nil Y2<|pa1<|Ya)
  (YY (Y1 (Yr UR (Yo (r:=Vb K) Yt (pv 2)<|Ya) Yy<|Yz _) (YZ<|Ym<|pv 2) Yp)
  JV),?_⟩
 show let i:=_;let o:=Yk (VE _ i _) _;Yk _ o _ _ _
 intros
 refine⟨_,_,N.insB,Ai _,Hm,A',X,d,c,B,D,S,x,0,j,R,a,N,m,λv M H' Z T G=>?_⟩;have O:=q v M H' Z T G;rcases T with⟨rs,rfl⟩|rfl
 .obtain ⟨t,p,us,rfl,ht,-⟩:=id G
  exact⟨_,_,Z2 ht,at0,Y,_,Y,VH (by decide +kernel) O⟩
 .obtain ⟨t,rfl,ht⟩:=id G
  exact⟨_,_,Z2 ht,at0,Y,_,Y,VH (by decide +kernel) O⟩
def SY:Yh ["self"] ["self"] (Yc IH):=Y5
def Cf:List.Nodup [("number":Str),"self"]:=by decide +kernel
inductive OG(P:Program)(w:World)(C CK CG CO CW:Addr)(H:Hp)(Q:VK):List V->Prop
 |mk (Hm:Hp) (A:GA) (ks:List (Str×Shp)) (d:Str->Nat) (ds:List Dd) (B:WA) (mo:Nat) (S:WSt) (Os:List OM) (wk:WK P w Hm H C CK CG CO CW A ks d ds B mo S Os) (dn:OK S)
  (q:∀p vs H',Same Hm H'->TL H H'->Hm p=none->H' p=some (.lst vs)->HasL H' vs (dnL S)->Q (.ref p) H'):OG P w C CK CG CO CW H Q [.ref B.t]
def Ry(P:Program)(w:World)(C CK CG CO CW:Addr):Sp:=λZ H Q _=>OG P w C CK CG CO CW H Q Z
def Kv(I:WCl K CW)(F:Fun K "done" "Walk.done" IH f fd)(m:VI K CW "birth_of" g)(G:Yf P w K mg base CX0 L g gd sn (R0 P w CG CW))(bG:Binds K gd sn []):Yf P w K mg base CX0 (L+1) f fd ["self"] (Ry P w C CK CG CO CW):=by
 refine F.oi SY λG2 A n s H vs Q E hr h=>?_;obtain⟨Hm,A',ks,d,ds,B,mo,S,Os,M,dn,q⟩:=h;have hu:=V9 hr;refine⟨_,YZ<|Ym<|JG ["number"] [0] (O3<|Yn (pv 0) rfl) (Vk (i:=0)<|by decide) (λcl C fp s H=>Yl 0 Cf rfl (Or.inl rfl) (Or.inr rfl)) λcl C fp s H=>Yi<|pa2 (Y6 (pv 1) I.cl m G hr bG .nil Y2<|pa1<|pv 0)<|Y6 (pv 1) I.cl m G hr bG .nil Y2<|pa1<|Vj hu (EL K (pv 1) rfl) (pv 0) λ_ _=>rfl,?_⟩;dsimp only[Vf,Cx.nox,Cx.wish];obtain⟨nK,hK,J,h2,h3,h4⟩:=id M.ws;refine⟨CW,_,_,_,J.ins,I.cl,I.hs,Fx _,B.hs,_,Y,J.hs,λo=>?_⟩;refine fld_in B.hs _ λH1 r g1=>?_;have f1:=M.foD (.inr<|.inr rfl) J.hs M.wf.hs r g1;have N:=M.mx.fo f1;have J2:=r _ _ (Yv J.ins J.hs (by intro z;cases z)) J.ins;have b:=r _ _ M.wf.d2 J.wr
 have ek:hK.map (λkv=>kV kv.1)=S.h.map λk=>V.int (k:Nat):=by
  rw[show(λkv:Key×V=>kV kv.1)=kV ∘ (·.1)from rfl,<-yj,h2,yj]
  rfl
 have hx:∀l:List Nat,HasL H1 (l.map λk=>V.int (k:Nat)) (l.map λk=>Dat.int (k:Nat)):=λl=>by
  induction l with
  |nil=>exact Z6
  |cons a l ih=>exact Z4 (by unfold Has;rfl) ih
 refine U0 (us:=S.h) (D:=λk=>.int (k:Nat)) (F:=λk=>.tup [bD S.s.1 k,owD S.s.1 ((S.r.lookup k).getD none)]) (λH' s=>itd<|s _ _ g1) (by rw[ek];exact hx _) (by have:=dn.l;omega) (λk x u R hm T X hR=>?_) λvs p u fp T hp G1=>?_
 .obtain rfl:x=.int (k:Nat):=by unfold Has at X;exact X
  obtain⟨d1,o',d2,d3⟩:=dn.ok k hm;have Z:=T _ _ J2;have y:=(N.mono T).gg;refine⟨_,_,Z,Fy _,.num A' B _ _ S.s.1 S.s.2 (avW B) k Z M.gr y d1 λv hv=>?_⟩;have dg:=Vg.k (k:=kK k)<|T _ _ b;rw[KE _ d2]at dg;exists _,_,Z,Fy _,CW,_,_,_,Z,I.cl,I.wr,D6 _,_,dg;have c:∀U,Has u U (owD S.s.1 o')->(∀t,u t=none->R (.ref t) (upd u t<|.tup [v,U])):=λU O t ht=>up_in ht _ λH3 e g3=>hR _ _ e<|Yu g3<|Z4 (hv.mono e)<|Z5 (by rw[d2];exact O.mono e)
  cases o' with
  |none=>exact .non B ⟨sl 2,c _ (by unfold owD Has;rfl)⟩
  |some j=>exact .num A' B _ _ S.s.1 S.s.2 (avW B) j Z M.gr y (d3 j Y) λU O=>⟨sl 2,c U O⟩
 .exact q p vs u (N.sm.trans T) ((An r J.hs).trans T.tl) (N.sm.free fp) hp G1
end
end K4
namespace L2
open PySem PySem.Spec PyProof.Rows
structure N5(K:W.Frag)(x qual:Str)(st:Stmt)(f:Addr)(fd:FuncData):Prop where
 ex:∃(oc:Value)(od:Option Addr)(kV doc pm:Value)(an:Option Addr)(cdv ct:Value)(osl:Array (Option Value))(T:Addr)(tc:Value)(td:Option Addr)(tn:Nat)(tl:Array (Option Value)),
  fd=W.fnOf x qual (JI st) (Vm st) (Yc st) (.ref T) kV doc pm an cdv ct/\K.lookup f=some ⟨oc,od,.func fd,osl⟩/\W.codeIn K cdv qual=true/\K.lookup T=some ⟨tc,td,.seq #[.bool false] tn,tl⟩
 kp:W.keepIn K (.ref f)=true
def N5.oi{K:W.Frag}{st:Stmt}(F:N5 K x qual st f X)(S:Yh N B (Yc st))(L:∀(J:Value)(A:Around)(Z:List Env)(s:Shared)(H:Hp)(G:kH)(Q:VK)(E:XK),Vo k (A.deeper<|PyProof.Rows.envOfC qual (Yc st) s.heap.objs.size f J)->R G H Q E->
   ∃t,PSs (Vf CX0 P w K I base N qual (Yc st) f J A Z s H E).nox (Vm st) t/\t {nx:=λ_ y=>Q .non y,rt:=Q} (start N G) H)(len:∀G H Q E,R G H Q E->G.length=B.length:=by intro G H Q E h;cases h;rfl):Yf P w K I base CX0 (k+1) f X B R:=by
 obtain⟨u,d,kV,j,c,r,J,v,D,T,p,g,z,m,rfl,U,O,_⟩:=F.ex;refine Ql U O S len λA Z s H G Q E C M=>?_;obtain⟨t,h,q⟩:=L J A Z s H G Q E C M;exact⟨t,h.nox,q⟩
def N5.b5{K:W.Frag}{st:Stmt}(F:N5 K x qual st f P)(p B R O N:Str)(h:∀(a b c d e T kV Z G:Value)(M:kD)(J L:Value),∃k:Option (kE)->Sem (List<|Str×Value),bindArgs (W.fnOf x qual (JI st) (Vm st) (Yc st) T kV Z G M J L) ⟨[a,b,c,d,e],[]⟩=seqItems? T >>=k/\k (some #[.bool false])=pure ([p,B,R,O,N].zip [a,b,c,d,e]):=by
   exact λ_ _ _ _ _ _ _ _ _ _ _ _=>⟨_,Y,Y⟩):Binds K P [p,B,R,O,N] []:=λs D X I=>by
 obtain⟨t,q,kV,Z,G,M,J,L,E,T,z,y,Q,j,rfl,m,S,A⟩:=F.ex
 match D,I with
 |[a,b,c,d,e],_=>
  obtain⟨k,C,U⟩:=h a b c d e (.ref T) kV Z G M J L;exact BindsTo.of_defaults Y (X _ _ A) Y C U
def N5.b4{K:W.Frag}{st:Stmt}(F:N5 K x qual st f Q)(p E D B R:Str)(h:∀(a b c d T kV Z G:Value)(N:kD)(J M:Value),∃k:Option (kE)->Sem (List<|Str×Value),bindArgs (W.fnOf x qual (JI st) (Vm st) (Yc st) T kV Z G N J M) ⟨[a,b,c,d],[]⟩=seqItems? T >>=k/\k (some #[.bool false])=pure ([p,E,D,B,R].zip [a,b,c,d,.bool false]):=by
   exact λ_ _ _ _ _ _ _ _ _ _ _=>⟨_,Y,Y⟩):Binds K Q [p,E,D,B,R] [.bool false]:=λs O X S=>by
 obtain⟨m,t,kV,Z,G,N,J,M,A,T,q,z,j,y,rfl,g,U,I⟩:=F.ex;have L:O.length=4:=by simpa using S
 match O,L with
 |[a,b,c,d],_=>
  obtain⟨k,P,C⟩:=h a b c d (.ref T) kV Z G N J M;exact BindsTo.of_defaults Y (X _ _ I) Y P C
def S0(F:Str):WSt:=⟨[],[],[],0,0,([],M7 F)⟩
end L2
namespace K4
open PySem L2
section
variable{C CK CG CO CW CD:Addr}
abbrev wop:ky:=["book","F","worths","most"]
abbrev C9:ky:=["book","F","worths","most","whole"]
def Ah(A:WA):(V3 A mo bg).lookup ("outcome":Str)=none:=rfl
def Ak(A:WA):(V3 A mo bg).lookup ("done":Str)=none:=rfl
def zY:Yh wop wop (Yc MI):=Y5
def Io:Yh ["book","F","worths","most","whole","walk","outcome"] C9 (Yc Bq):=Y5
inductive zB(P:Program)(w:World)(C CK CG CO CW:Addr)(H:Hp)(Q:VK):List V->Prop
 |mk (bk gv:Addr) (ks:List (Str×Shp)) (d:Str->Nat) (ds:List Dd) (df:Dd) (mo:Nat) (bi:BI H C CK bk ks d ds) (hd:df∈ds) (hg:H gv=some (.tup [])) (l0:df.1.2.1=[]) (m1:1<=mo) (m2:mo<=500)
  (q:∀(A:GA)(B:WA) Hm H',Same H Hm->WK P w Hm H' C CK CG CO CW A ks d ds B mo (S0 df.1.1) []->Q (.ref B.t) H'):zB P w C CK CG CO CW H Q [.ref bk,.str df.1.1,.ref gv,.int (mo:Nat)]
def IS(P:Program)(w:World)(C CK CG CO CW:Addr):Sp:=λZ H Q _=>zB P w C CK CG CO CW H Q Z
def Sn(F:Fun K "walk_of" "walk_of" MI f fd)(DA:Df P w K N base (n+1) "check_asking" bfw (E8 C CK .non))(DM:Df P w K N base (n+1) "check_most" ["most","highest"] SL)(hC:N "MOST_CELLS"=some u1)(rC:RelV (.int 500) u1)(mW:N "Walk"=some (.ref CW))(MW:Mk K CW c)(GW:Yf P w K N base CX0 n c d1 ["self","ground","most"] (SB CW))(bW:Binds K d1 ["self","ground","most"] [])(mG:N "Ground"=some (.ref CG))(MG:Mk K CG g2)(GG:Yf P w K N base CX0 n g2 d2 ["self","book","F","worths"] (IY P w C CK CG))(bG:Binds K d2 ["self","book","F","worths"] []):Yf P w K N base CX0 (n+2) f fd wop (IS P w C CK CG CO CW):=by
 refine F.oi zY λG3 A t s H vs Q E U h=>?_;obtain⟨bk,gv,ks,d,ds,df,mo,bi,hd,hg,m,m1,m2,q⟩:=h;refine⟨_,YY (VQ<|VS DA U<|pa3 (pv 0) (pv 1)<|pv 2)
  (YY (VQ<|VS DM U<|pa2 (pv 3)<|JF rfl hC rC)
  (YZ<|Ym<|Xm MW GW U rfl mW bW .nil Y2 (pa2 (Xm MG GG U rfl mG bG .nil Y2 (pa3 (pv 0) (pv 1)<|pv 2))<|pv 3))),?_⟩
 show let T0:=_;let T1:=Yk _ T0;Yk _ T1 _ _ _
 intros
 refine⟨bk,gv,[],ks,d,ds,df,[],bi,hd,hg,Z6,by rw[m];rfl,by rw[m];decide,λi p u _ h=>by simp at h,λR j=>?_⟩;refine⟨mo,500,by omega,by omega,?_⟩;intro x M S k G2;have l:Same R (upd (upd R M<|.own x) x<|.ins CG M []):=λb o e=>by rw[Yg (Yb e S),Yg (Yb e k)];exact e
 have v:upd (upd R M<|.own x) x (.ins CG M []) x=some (.ins CG M []):=Ye;generalize upd (upd R M<|.own x) x (.ins CG M [])=H2 at v l |-;refine⟨R,x,M,bk,gv,ks,d,ds,df,S,l,v,bi.mono j,hd,j _ _ hg,m,λG D e1 e2 J=>⟨Y,?_⟩⟩;intro y L I g J2;have r:Same D (upd (upd D L<|.own y) y<|.ins CW L []):=λb o e=>by rw[Yg (Yb e I),Yg (Yb e g)];exact e
 have ty:upd (upd D L<|.own y) y (.ins CW L []) y=some (.ins CW L []):=Ye;generalize upd (upd D L<|.own y) y (.ins CW L [])=H4 at ty r |-;refine⟨D,y,L,x,mo,I,r,ty,λB H5 f1 f2 Z s5 ws=>⟨Y,?_⟩⟩;rw[<-f1];have T:=J.sm;have X:WF R B:=⟨T.free Z.t,T.free Z.uw,T.free Z.wr,T.free Z.wn,T.free Z.hs,Z.d1,Z.d2,Z.d3⟩
 have na:∀a,avW B a->D a=none:=λa z=>by
  rcases z with rfl|rfl|rfl
  .exact Z.wr
  .exact Z.wn
  .exact Z.hs
 obtain⟨xs,c,_⟩:=J.gg.bs;obtain⟨G1,g3,_⟩:=J.gg.st;refine q G B R H5 j ⟨⟨T.trans s5,J.bi,J.f1,J.f2,J.f3,J.gg.avoids na s5⟩,by rw[f2,e1],X,λz=>?_,Yb c Z.uw,⟨[],[],ws,Y,Y,λp h=>by cases h⟩,Y,λi O e h=>by simp at h,vN,λO h=>by cases h⟩;have:=na _ z;rw[g3]at this;cases this
inductive Qr(P:Program)(w:World)(C CK:Addr)(n:Nat)(H:Hp)(Q:VK):List V->Prop
 |mk (bk gv:Addr) (ks:List (Str×Shp)) (d:Str->Nat) (ds:List Dd) (df:Dd) (mo:Nat) (full:Bool) (j:Nat) (R:N4) (SR:WSt) (bi:BI H C CK bk ks d ds) (hd:df∈ds) (hg:H gv=some (.tup [])) (l0:df.1.2.1=[]) (m1:1<=mo) (m2:mo<=500) (gs:Wlk ds mo n j (.st (.want 0)) (S0 df.1.1) R SR) (dn:OK SR)
  (q1:∀rs,R=.ring rs->∀t r l p vs us H',Same H H'->H' t=some (.tup [.ref r,.ref l])->H' r=some (.tup [.str "ring",.ref p])->H p=none->H' p=some (.lst vs)->HasL H' vs rs->H l=none->H' l=some (.lst us)->HasL H' us (dnL SR)->Q (.ref t) H')
  (q2:R=.dry->∀t r l us H',Same H H'->H' t=some (.tup [.ref r,.ref l])->H' r=some (.tup [.str "dry"])->H l=none->H' l=some (.lst us)->HasL H' us (dnL SR)->Q (.ref t) H'):Qr P w C CK n H Q [.ref bk,.str df.1.1,.ref gv,.int (mo:Nat),.bl full]
def Gf(P:Program)(w:World)(C CK:Addr)(n:Nat):Sp:=λZ H Q _=>Qr P w C CK n H Q Z
def Pb(o:WCl K CW)(F:N5 K "asked" "asked" Bq f fd)(DW:Df P w K I base L "walk_of" wop (IS P w C CK CG CO CW))(m1:VI K CW "outcome" g1)(G1:Yf P w K I base CX0 L g1 d1 ["self","whole"] (BJ P w C CK CG CO CW n))(b1:Binds K d1 ["self","whole"] [])(m2:VI K CW "done" g2)(G2:Yf P w K I base CX0 L g2 d2 ["self"] (Ry P w C CK CG CO CW))(b2:Binds K d2 ["self"] []):Yf P w K I base CX0 (L+1) f fd C9 (Gf P w C CK n):=by
 refine F.oi Io λJ2 A T s H g Q E y h=>?_;obtain⟨bk,gv,X,d,z,df,D,full,j,R,i,bi,hd,hg,l0,U,S,gs,dn,q1,q2⟩:=h;refine⟨_,YY (Yx 5 Io.nd<|VS DW y<|pa4 (pv 0) (pv 1) (pv 2)<|pv 3)
  (YY (Yx 6 Io.nd<|Y6 (pv 5) o.cl m1 G1 y b1 .nil Y2<|pa1<|pv 4)
  (YZ<|Ym<|Yi<|pa2 (pv 6)<|Ve (pv 5) o.cl m2 G2 y b2 .nil Y2)),?_⟩
 show let T0:=_;let T1:=Yk _ T0;Yk _ T1 _ _ _
 intros
 refine⟨bk,gv,X,d,z,df,D,bi,hd,hg,l0,U,S,λA' B a H1 O m=>?_⟩;refine⟨_,_,m.insB,Ah _,a,A',X,d,z,B,D,_,[],j,R,i,_,m,gs,λv q H2 G hR c=>?_⟩;refine⟨_,_,G.insB,Ak _,a,A',X,d,z,B,D,i,q,G,dn,λl k H3 s3 tl e u N=>⟨sl 2,λt ht=>?_⟩⟩;refine up_in ht _ λx J b=>?_;have Z:=tl.trans J.tl;have M:=(O.trans s3).trans J;rcases hR with⟨rs,rfl⟩|rfl
 .obtain ⟨r,p,g,rfl,hr',fp,hp,hvs⟩:=c
  exact q1 rs Y t r l p g k x M b (Z.1 _ _ hr') (O.free fp) (Z.2 _ _ hp) (HasL.tl Z _ hvs) (O.free e) (J _ _ u) (N.mono J)
 .obtain ⟨r,rfl,hr'⟩:=c
  exact q2 Y t r l k x M b (Z.1 _ _ hr') (O.free e) (J _ _ u) (N.mono J)
end
section
variable{f g C CK N fI:Addr}
structure DRt(ks:List (Str×Shp))(ds:List Dd)(x:Dd):Prop where
 ok:ye x
 kd:kdn ks (Vv (ds.map (·.1))) 13 (kvP x.1.2.1) x.2=some x.1.2.2
inductive SBK(C CK:Addr)(H:Hp)(Q:VK):List V->Prop
 |mk (A:BA) (kv:List (Key×V)) (ks:List (Str×Shp)) (c d:Str->Nat) (ds:List Dd) (bd:BD H C CK A kv ks d ds) (kg:KG ks) (kk:KK 30 c d ks) (k6:ks.length<=6) (ho:∀x∈ds,Fq (ks.map (·.1)) c 50 x.1) (dok:∀x∈ds,DRt ks ds x) (q:∀H',Same H H'->Q .non H'):SBK C CK H Q [.ref A.t]
def SN(C CK:Addr):Sp:=λZ H Q _=>SBK C CK H Q Z
def S8(B:Blt j)(me:j "enumerate"=none)(TB:BCl K C)(F:Fun K "check_bodies" "Book.check_bodies" MQ f fd)(mH:VI K C "names" g)(GH:Yf P w K j base CX0 n g gd ["self"] (Uu C CK))(bH:Binds K gd ["self"] [])(DK:Df P w K j base n "kind_or_place" ["book","around","body"] (RB C CK 13)):Yf P w K j base CX0 (n+1) f fd ["self"] (SN C CK):=by
 refine F.oi Jm λR5 A o s H vs Q E hr h=>?_;obtain⟨S,kv,ks,c,d,t,bd,kg,kk,k6,ho,M2,q⟩:=h;have hu:=V9 hr;refine⟨_,YZ (Jb Zv Y (W8 Y me (pa1<|Ve (pv 0) TB.cl mH GH hr bH .nil Y2)) (Vd (n:=2) rfl (Ys (Yl 1 Jm.nd)<|Ys (Yl 2 Jm.nd) VN))
   (YY (Jq (Vj hu (Yn (pv 0) rfl) (pv 2) λ_ _=>rfl)<|Vd (n:=3) rfl (Ys (Yl 3 Jm.nd)<|Ys (Yl 4 Jm.nd)<|Ys (Yl 5 Jm.nd) VN))
   (YY (Jq (VS DK hr<|pa3 (pv 0) (VY (Wh rfl) rfl B.dict Uk (pa1<|pv 3))<|pv 5)<|Vd (n:=2) rfl (Ys (Yl 6 Jm.nd)<|Ys (Yl 7 Jm.nd) VN))
   (YY (Y1 (Yr G7 (pv 6) Vs<|Yz _) (YZ V5) Yp)
   (YZ<|Y1 (Yr UR (pv 6) (pv 4)<|Yz _) (YZ V5) Yp))))),?_⟩
 dsimp only[Vf,Cx.nox,Cx.wish];show let T0:=_;let T1:=VE _ T0 _;let T2:=_;let T3:=Yk (VE _ T2 _) T1;let T4:=Yk _ T3;let T5:=Yk _ T4;XH _ _ T5 _ _ _
 intros
 show let a:=_;let b:=VE _ a _;let c:=_;let d:=Yk (VE _ c _) b;let e:=Yk _ d;let f:=Yk _ e;XH _ _ f _ _ _
 intros
 refine⟨_,_,bd.ins,C3 _,S.t,ks,d,t,Y,⟨S,kv,Y,bd⟩,λnl H1 s1 R1 T=>?_⟩;exists nl,false,_,Y,Z3 T
 let I:kI:=λi U D=>Same H1 D/\∃(z1 z2 z3 z4 z5 z6 z7:kL),U=[some (.ref S.t),z1,z2,z3,z4,z5,z6,z7]
 refine Ec (tp:=false) (xs:=t.map λx=>V.str x.1.1) I ⟨Z8 _,_,_,_,_,_,_,_,Y⟩ (λi U D _ z=>Z3<|z.1 _ _ T) ?_ ?_
 .rintro BB' RR i x U D r hx ⟨si,z1,z2,z3,z4,z5,z6,z7,rfl⟩ hr'
  rw[ZH]at hx
  cases hc:t[i]? with
  |none=>rw[hc]at hx;cases hx
  |some Z=>
   rw[hc]at hx;cases hx;have hm:=ZJ hc;have o1:=ho Z hm;have X:=M2 Z hm;refine up_in hr' _ λHR sR gR=>?_;have M:=bd.mono<|(s1.trans si).trans sR;obtain⟨v,e1,e2⟩:=M.at hm;obtain⟨ta,u,wv,rfl,G2,R,G1⟩:=Xv e2;exists _,Z2 gR,Y;exists C,_,_,_,M.ins,TB.cl,TB.td,FX _,_,e1;exists _,Z2 G2,Y;unfold psD at R;obtain⟨l,xp,rfl,hl,O⟩:=Yw R;obtain⟨tp,rfl,G⟩:=KL (K:=K) O;replace G:OJ K HR tp (kvP Z.1.2.1):=G;have O1:(kvP Z.1.2.1).length=Z.1.2.1.length:=ZA _;have J:=o1.nd
   have J2:((kvP Z.1.2.1).map (·.1)).Nodup:=by
    unfold kvP;rw[yj];unfold List.Nodup at J |-;rw[jx]at J |-;exact J.imp λG3 q=>G3<|Sum.inr.inj q
   refine⟨l,tp,_,Y,hl,G,J2,λaA L1=>?_⟩;refine up_in L1 _ λH3 p g3=>?_;have l3:=o1.len;have R4:=X.ok.dep;have R3:=X.ok.size;refine⟨S.t,aA,wv,ks,c,d,t,kvP Z.1.2.1,Z.2,Y,⟨S,kv,Y,M.mono p⟩,kk,λf ps k e=>?_,λq' hq=>?_,λm L=>(ho m L).len,.inl g3,by omega,G1.mono p,X.ok.ok,by omega,by omega,λr4 p4 H4 s4 y _=>?_⟩
   .obtain ⟨m,L,e'⟩:=ZW.mp<|EX e
    have:=(ho m L).own;rw[e']at this;exact this
   .obtain ⟨pr,hpr,rfl⟩:=ZW.mp hq
    exact⟨pr.1,pr.2,Y,o1.kin pr hpr⟩
   rw[X.kd]at y;replace y:H4 r4=some (.tup [.str Z.1.2.2,p4]):=y;exists _,Z2 y,Y;refine⟨Y,_,Y,Y0 (by simp) ?_⟩;refine⟨Y,_,Y,Y0 (by simp) ?_⟩;exact⟨((si.trans sR).trans p).trans s4,_,_,_,_,_,_,_,Y⟩
 .rintro U D ⟨si,_⟩
  exact q D<|s1.trans si
inductive SBN(C CK:Addr)(H:Hp)(Q:VK):List V->Prop
 |mk (x dx kl dl:Addr) (xs zs:List V) (ks:List (Str×Shp)) (c d:Str->Nat) (ds:List Dd) (hx:H x=some (.ins C dx [])) (hkl:H kl=some (.lst xs)) (hxs:HasL H xs (ks.map NZ)) (kk:KK 30 c d ks) (nd:(ks.map (·.1)).Nodup) (kg:KG ks) (k0:0<ks.length) (k6:ks.length<=6) (hdl:H dl=some (.lst zs)) (hzs:HasL H zs (ds.map Uz)) (d0:0<ds.length) (d8:ds.length<=8) (wd:Wds 97 (ds.map λx=>x.1.1)) (ho:∀x∈ds,Fq (ks.map (·.1)) c 50 x.1) (dok:∀x∈ds,DRt ks ds x)
  (q:∀H',(∀b o,b≠x->H b=some o->H' b=some o)->BI H' C CK x ks d ds->Q .non H'):SBN C CK H Q [.ref x,.ref kl,.ref dl]
def SM(C CK:Addr):Sp:=λZ H Q _=>SBN C CK H Q Z
def S7(hm:m+1<=n)(L:BCl K C)(F:Fun K "__init__" "Book.__init__" Bn f fd)(T6:Mk K CK gi)(mC:mg "Kinds"=some (.ref CK))(GI:Yf P w K mg base CX0 m gi L1 ["self","told"] (BK CK))(bI:Binds K L1 ["self","told"] [])(m1:VI K C "take_heads" g1)(G1:Yf P w K mg base CX0 n g1 d1 ["self","definitions"] (Ic C CK))(b1:Binds K d1 ["self","definitions"] [])(m2:VI K C "check_bodies" g2)(G2:Yf P w K mg base CX0 n g2 d2 ["self"] (SN C CK))(b2:Binds K d2 ["self"] []):
  Yf P w K mg base CX0 (n+1) f fd ["self","kinds","definitions"] (SM C CK):=by
 refine F.oi Ot λT9 A J2 s H vs Q E hr h=>?_;obtain⟨x,J,kl,dl,xs,zs,U,c,d,ds,hx,R3,O1,kk,nd,kg,k0,k6,R5,M2,d0,d8,wd,ho,R6,q⟩:=h;have R1:Vo (m+1) _:=hr.mono hm;refine⟨_,YY (VT (pv 0) (Xm T6 GI R1 Y mC bI .nil Y2 (pa1<|pv 1)) rfl)
  (YY (VT (pv 0) V0 rfl) (YY (VT (pv 0) V0 rfl) (YY (VT (pv 0) V0 rfl)
  (YY (VQ<|Y6 (pv 0) L.cl m1 G1 hr b1 .nil Y2<|pa1<|pv 2)
  (YZ<|VQ<|Ve (pv 0) L.cl m2 G2 hr b2 .nil Y2))))),?_⟩
 dsimp only[Vf,Cx.nox,Cx.wish];show let T0:=_;let T1:=Yk _ T0;let T2:=Yk _ T1;let T3:=Yk _ T2;let T4:=Yk _ T3;Yk _ T4 _ _ _
 intros
 refine λt R ht R4 T8=>?_;have tx:upd (upd H R<|.own t) t (.ins CK R []) t=some (.ins CK R []):=Ye;have l:Same H (upd (upd H R<|.own t) t<|.ins CK R []):=λb o e=>by rw[Yg (Yb e ht),Yg (Yb e R4)];exact e
 generalize upd (upd H R<|.own t) t (.ins CK R [])=H7 at tx l |-;have T7:x≠t:=Yb hx ht;refine⟨t,R,kl,xs,U,c,d,Y,tx,l _ _ R3,O1.mono l,kk,nd,kg,k0,k6,λZ f8 G3=>⟨Y,?_⟩⟩;have s8:Same H Z:=λb o e=>f8 b o (Yb e ht)<|l b o e;have x8:=s8 _ _ hx;refine⟨x,C,J,_,Y,x8,L.cl,L.so,by decide,?_⟩;have u:upd Z x (.ins C J<|VR "sorts" (.ref t) []) x=some (.ins C J<|VR "sorts" (.ref t) []):=Ye;have i:∀b o,b≠x->Z b=some o->upd Z x (.ins C J<|VR "sorts" (.ref t) []) b=some o:=λb o n e=>by rw[Yg n];exact e
 generalize upd Z x (.ins C J<|VR "sorts" (.ref t) [])=H9 at u i |-;intro S B;refine⟨x,C,J,_,Y,by rw[Yg (Yb u B)];exact u,L.cl,L.td,(by show 1<1000;decide),?_⟩;obtain⟨r,a1,n1,r1⟩:=Jg (f:="told") (o:=.dK []) u B;generalize upd (upd H9 S<|.dK []) x (.ins C J<|VR "told" (.ref S)<|VR "sorts" (.ref t) [])=H1 at r a1 r1 |-;intro X O;refine⟨x,C,J,_,Y,by rw[Yg (Yb r O)];exact r,L.cl,L.rd,(by show 2<1000;decide),?_⟩;obtain⟨v,a2,n2,r2⟩:=Jg (f:="rows") (o:=.dK []) r O;generalize upd (upd H1 X<|.dK []) x (.ins C J<|VR "rows" (.ref X)<|VR "told" (.ref S)<|VR "sorts" (.ref t) [])=H2 at v a2 r2 |-;intro p3 j;refine⟨x,C,J,_,Y,by rw[Yg (Yb v j)];exact v,L.cl,L.tn,(by show 3<1000;decide),?_⟩;obtain⟨x3,a3,n3,a⟩:=Jg (f:="turns") (o:=.dK []) v j;generalize upd (upd H2 p3<|.dK []) x (.ins C J<|VR "turns" (.ref p3)<|VR "rows" (.ref X)<|VR "told" (.ref S)<|VR "sorts" (.ref t) [])=H3 at x3 a3 a |-
 let T:BA:=⟨x,J,t,S,X,p3⟩
 have M:∀{b:Addr}{o:HO},Xo Z x b=some o->b≠x/\Z b=some o:=λ{b o} h=>by
  unfold Xo at h
  by_cases e:b=x
  .rw [Zp e]at h;cases h
  .rw [Zq e]at h;exact⟨e,h⟩
 have fr:∀b o,b≠x->Z b=some o->H3 b=some o:=λb o n e=>a b o n<|r2 b o n<|r1 b o n<|i b o n e;have sm:Same (Xo Z x) H3:=λb o h=>fr b o (M h).1 (M h).2
 have free:∀p:Addr,(∀o,p≠x->Z p=some o->False)->Xo Z x p=none:=λp h=>by
  cases e:Xo Z x p with
  |none=>rfl
  |some o=>exact(h o (M e).1 (M e).2).elim
 have T5:=r2 _ _ n1 a1;have R8:=a _ _ n1 T5;have R7:=a _ _ n2 a2;have bb:BB (Xo Z x) H3 C CK T U d:=⟨x3,sm,G3.out x8,free S λo n e=>(by have:=i _ _ n e;rw[B]at this;cases this),free X λo n e=>(by have:=r1 _ _ n<|i _ _ n e;rw[O]at this;cases this),Yb a1 O,Zs n1,Zs n2⟩;have bt:BT H3 T [] [] U []:=⟨R8,R7,rfl,Z6,(λy hy=>nomatch hy),ZG _⟩;have D:∀{b:Addr}{o:HO},H b=some o->o≠.ins C J []->Xo Z x b=some o:=λ{b o} h n=>B4 (JW h hx n)<|s8 _ _ h;have tl:TL H (Xo Z x):=⟨λb xs h=>D h (by intro z;cases z),λb xs h=>D h (by intro z;cases z)⟩;refine⟨_,_,x3,yO T,Xo Z x,T,dl,zs,U,c,d,ds,Y,bb,bt,kk,k6,D R5 (by intro z;cases z),HasL.tl tl _ M2,d0,d8,wd,ho,λH4 kv rv G I=>?_⟩;have k:BD H4 C CK T kv U d ds:=⟨G.ins,G.so.mono G.sm,I.td,I.ke,I.va,wd.nd⟩;refine⟨_,_,G.ins,yS T,T,kv,U,c,d,ds,k,kg,kk,k6,ho,R6,λH5 s5=>?_⟩;exact q H5 (λb o n e=>s5 _ _<|G.sm _ _<|B4 n<|s8 _ _ e) ⟨T,kv,rfl,k.mono s5⟩
end
end K4
namespace L2
open PySem
structure RgP where
 nm:Nat->Str
 tg:List Str
 own:Str
 kd:Str
 ct:Str
 ci:Nat
def inB(R:RgP)(k:Nat)(last:Bool):Bd:=if last=true then .name R.own else .ask (R.nm<|k+1) [.name R.own]
def JX(R:RgP)(w:Nat)(b:Bd):Bd:=if w % 2=1 then .choose b R.tg (R.tg.map Bd.tag)else b
def lkB(R:RgP)(w:Nat)(b:Bd):Bd:=if w / 2=1 then .choose (.ask (R.nm 7) []) R.tg (R.tg.map λ_=>JX R w b)else JX R w b
def onP(w:Nat):kB:=if w % 2=1 then[0]else[]
def lkP(R:RgP)(w:Nat):kB:=if w / 2=1 then(1+(R.ci:Int))::onP w else onP w
def lkD(R:RgP)(k w:Nat)(last:Bool):Dd:=((R.nm k,[(R.own,R.kd)],R.kd),lkB R w<|inB R k last)
def lks(R:RgP):Nat->List Nat->List Dd
 |_,[]=>[]
 |k,w::ws=>lkD R k w ws.isEmpty::lks R (k+1) ws
def d7(R:RgP):Dd:=((R.nm 7,[],R.kd),.tag R.ct)
def d0(R:RgP):Dd:=((R.nm 0,[],R.kd),.letb R.own R.kd (.ask (R.nm 1) [.name R.own])<|.name R.own)
def rds(R:RgP)(ws:List Nat):List Dd:=d7 R::d0 R::lks R 1 ws
def J5(R:RgP):Dat->List Nat->List Dat
 |_,[]=>[]
 |B,w::ws=>B::J5 R (.tup [B,JD (lkP R w)]) ws
def dn1(B:Dat)(w:Nat):kM:=if w / 2=1 then[.tup [.tup [B,JD [0]],B]]else[]
def dns(R:RgP):Dat->List Nat->List Dat
 |_,[]=>[]
 |B,w::ws=>dn1 B w++ dns R (.tup [B,JD (lkP R w)]) ws
def cost:List Nat->Nat
 |[]=>0
 |w::ws=>(1+if w / 2=1 then 1 else 0)+cost ws
abbrev Xk(R:RgP):Rho:=J9 [R.own] [.cell 1]
def Gw(R:RgP):Xk R R.own=some (.cell 1):=by simp[Xk,J9]
structure RgK(R:RgP)(ds:List Dd):Prop where
 t1:1<=R.tg.length
 t4:R.tg.length<=4
 tn:R.tg.Nodup
 ci:R.tg[R.ci]?=some R.ct
 fn:(ds.map λx=>x.1.1).Nodup
 d7:d7 R∈ds
 ok:∀x∈ds,x.2.ok
def B1(K:RgK R M)(h:x∈M):G5 M x.1.1 N->N=x.1.2.1.map (·.1):=by
 rintro⟨y,O,e,rfl⟩;obtain⟨i,J⟩:=ym.mp h;obtain⟨j,Z⟩:=ym.mp O;have L:=(ZF.mp J).1;have G:=(ZF.mp Z).1;have n:=ve.mp K.fn
 have:i=j:=by
  rcases qg i j with q|q|q
  .exact Zr (by rw[vQ,vQ,(ZF.mp J).2,(ZF.mp Z).2];exact e.symm) (n i j (by rw[ZA];exact L) (by rw[ZA];exact G) q)
  .exact q
  .exact Zr (by rw[vQ,vQ,(ZF.mp J).2,(ZF.mp Z).2];exact e) (n j i (by rw[ZA];exact G) (by rw[ZA];exact L) q)
 subst this;rw[J]at Z;cases Z
 rfl
def WX(f:c∉cs)(h:XO cs c n cs'):n=cs.length+1/\cs'=cs++[c]:=by
 rcases h with⟨k,G,_⟩|⟨_,J,Z⟩
 .exact Zr (ZJ G) f
 .exact ⟨J,Z⟩
def LD{Rr:Nat->Ss->Tg->Ss->Prop}(R:∀s G L,Rr 0 s G L->G=th0/\L=s)(M:∀Z,G5 T f Z->Z=[x'])(h:MCp T F ρ Rr (.ask f [.name x]) pl k s s1):s1=(s.1,stP s.2 k ⟨f,[],J9 [x'] [th0]⟩):=by
 obtain⟨J,O,Z,t,p,rfl⟩:=h;obtain rfl:=M Z p;have N:Thr Rr (0+1) s J O:=t
 cases N with
 |snoc h e=>
  cases h;obtain⟨rfl,rfl⟩:=R _ _ _ e
  rfl
def D9(L:b.at pl=some (.name x))(Z:ρ x=some th0)(h:TAp O F b N ρ (n+1) pl s th G):th=th0/\G=s:=by
 unfold TAp at h;obtain⟨c,J,M⟩:=h;rw[L]at J;cases J;obtain⟨e,rfl⟩:=M;rw[Z]at e;cases e;exact⟨Y,Y⟩
def Q1(M:b.at pl=some (.ask f [.name x]))(Z:ρ x=some th0)(A:(N,pl)∉s.1)(R:∀L,G5 I f L->L=[x'])(h:TAp I F b N ρ (n+2) pl s G s1):G=.cell (s.1.length+1)/\s1=(s.1++[(N,pl)],stP s.2 (s.1.length+1) ⟨f,[],J9 [x'] [th0]⟩):=by
 unfold TAp at h;obtain⟨c,O,E⟩:=h;rw[M]at O;cases O;obtain⟨k,S,D,B,T⟩:=E;obtain⟨rfl,rfl⟩:=WX A D;refine⟨B,LD (λs G U q=>?_) R T⟩;have J:b.at (pl++[((0:Nat):Int)])=some (.name x):=Bd.at_snoc pl M (by decide) rfl;exact D9 J Z q
def Q0(R:b.at pl=some (.ask f []))(A:(N,pl)∉s.1)(L:∀Z,G5 I f Z->Z=[])(h:TAp I F b N ρ (n+1) pl s th s1):th=.cell (s.1.length+1)/\s1=(s.1++[(N,pl)],stP s.2 (s.1.length+1) ⟨f,[],J9 [] []⟩):=by
 unfold TAp at h;obtain⟨c,G,E⟩:=h;rw[R]at G;cases G;obtain⟨k,S,D,B,J,O,Z,t,p,T⟩:=E;obtain⟨rfl,rfl⟩:=WX A D;obtain rfl:=L Z p;have M:Thr _ 0 _ J O:=t;cases M;exact⟨B,T⟩
theorem M4:∀Z:ky,Bd.sizes (Z.map Bd.tag)=Z.length
 |[]=>by simp[Bd.sizes]
 |t::Z=>by rw[ZV,Zf];unfold Bd.sizes;rw[M4 Z];simp only[Bd.size];omega
theorem NF:∀Z:ky,Bd.sizes (Z.map λ_=>b)=Z.length*b.size
 |[]=>by simp[Bd.sizes]
 |t::Z=>by rw[ZV,Zf];unfold Bd.sizes;rw[NF Z,vP];omega
def LQ:(inB R k last).size<=2:=by unfold inB;cases last <;> simp[Bd.size,Bd.sizes]
def MZ(Z:R.tg.length<=4)(h:b.size<=2):(JX R w b).size<=7:=by
 unfold JX
 split
 .unfold Bd.size;rw[M4];omega
 .omega
def LG(Z:R.tg.length<=4)(h:b.size<=2):(lkB R w b).size<=100:=by
 unfold lkB;have o:=MZ (w:=w) Z h
 split
 .unfold Bd.size
  rw[NF];have:R.tg.length*(JX R w b).size<=4*7:=Nat.mul_le_mul Z o;simp only[Bd.size,Bd.sizes];omega
 .omega
def sIn(R:RgP)(k:Nat)(last:Bool)(N:Nat)(pl:kB)(s:Ss):Ss:=if last=true then s else(s.1++[(N,pl)],stP s.2 (s.1.length+1) ⟨R.nm<|k+1,[],Xk R⟩)
def wIn(last:Bool)(s:Ss):Nat:=if last=true then 1 else s.1.length+1
def Ld(K:RgK R O)(Z:b.at pl=some (inB R k last))(B:last=false->∃x∈O,x.1.1=R.nm (k+1)/\x.1.2.1=[(R.own,R.kd)])(D:(N,pl)∉s.1)(U:s.1.length<=100)(I:pl.length<=10)(S:l.length<=10):
  ∃m,Gos O F b N 1 m (.body pl<|Xk R) l s (.want<|wIn last s) l (sIn R k last N pl s):=by
 cases last with
 |true=>
  exact⟨_,.name (th:=.cell 1) Z (Gw R) (by omega) (by omega) (by omega)<|.thC .stopW⟩
 |false=>
  obtain⟨x,G,M,J⟩:=B rfl;refine⟨_,.ask (f:=R.nm<|k+1) (as:=[.name R.own]) Z ?_ (by simp[Bd.size,Bd.sizes];omega) (by omega) (by omega) (m:=1) λth E T=>?_⟩
  .unfold OkT
   refine⟨⟨x,G,M,by rw[J];rfl,(by show 1<=3;decide),by rw[J];simp⟩,λa L=>?_⟩;rw[ZQ]at L;subst L;unfold OkT;exact⟨_,Gw R⟩
  .obtain ⟨rfl,rfl⟩:=Q1 (x':=R.own) Z (Gw R) D (λA p=>by have:=B1 K G<|M ▸ p;rw[this,J];rfl) T
   exact .thC .stopW
def PF(R:RgP)(w:Nat)(b:Bd)(pl:kB):List WEn:=if w % 2=1 then[(.choose b R.tg<|R.tg.map Bd.tag,pl,Xk R)]else[]
def Eb(K:RgK R O)(Z:b.at pl=some (JX R w<|inB R k last))(L:last=false->∃x∈O,x.1.1=R.nm (k+1)/\x.1.2.1=[(R.own,R.kd)])(J:(N,pl++ onP w)∉s.1)(M:s.1.length<=100)(T:pl.length<=5)(B:l.length<=5):
  ∃m,Gos O F b N 1 m (.body pl<|Xk R) l s (.want<|wIn last s) (l++ PF R w (inB R k last) pl) (sIn R k last N (pl++ onP w) s):=by
 unfold JX at Z;unfold onP at J;unfold PF onP
 by_cases z:w % 2=1
 .rw [Zp z]at Z J |-
  rw[Zp z];have G:=MZ (w:=w) K.t4<|LQ (R:=R) (k:=k) (last:=last);unfold JX at G;rw[Zp z]at G;obtain⟨m,g⟩:=Ld (l:=l++[(.choose (inB R k last) R.tg<|R.tg.map Bd.tag,pl,Xk R)]) (pl:=pl++[0]) (F:=F) K (Bd.at_snoc pl Z (by decide) rfl) L J M (by rw[ZL,yg];omega) (by rw[ZL,yg];omega);exact⟨_,.push Z (by omega) (by omega) (by omega) g⟩
 .rw [Zq z]at Z J |-
  rw[Zq z,yu,yu];rw[yu]at J;exact Ld K Z L J M (by omega)<|by omega
def Xc(h:n<=cs.length):bD (cs++[c]) n=bD cs n:=by
 unfold bD;rw[UF,y9,y9,yi (by rw[J4];omega)]
def Dv:bD (cs++[c]) (cs.length+1)=.tup [bD cs c.1,JD c.2]:=by
 unfold bD;rw[UF,y9,yh (by rw[J4];exact ZG _),J4,yr]
 rfl
def Xb(cs:List Mk1)(r:List (Nat×Option Nat))(k:Nat):Dat:=.tup [bD cs k,owD cs ((r.lookup k).getD none)]
def DQ{r q:List (Nat×Option Nat)}(h:x∈r.map (·.1)):∃o,r.lookup x=some o/\(r++ q).lookup x=some o:=by
 have:(r.lookup x).isSome:=by
  rw[List.lookup_isSome_iff];obtain⟨p,J,e⟩:=ZW.mp h;exact⟨p,J,by rw[e];exact beq_self_eq_true _⟩
 obtain⟨o,Z⟩:=vR.mp this;exact⟨o,Z,by rw[List.lookup_append,Z];rfl⟩
def AD{r:List (Nat×Option Nat)}(h:∀p∈r,p.1≠x):(r++[(x,o)]).lookup x=some o:=by
 have:r.lookup x=none:=by
  cases e:r.lookup x with
  |none=>rfl
  |some J=>
   have:(r.lookup x).isSome:=by rw[e];rfl
   rw[List.lookup_isSome_iff]at this;obtain⟨p,Z,q⟩:=this;exact Zr (beq_iff_eq.mp q).symm<|h p Z
 rw[List.lookup_append,this];show List.lookup x [(x,o)]=some o;rw[yx,beq_self_eq_true]
def LF{r:List (Nat×Option Nat)}(h:r.lookup x=some o):(x,o)∈r:=by
 induction r with
 |nil=>simp at h
 |cons p r ih=>
  rw[yx]at h
  by_cases z:x=p.1
  .subst z
   rw[beq_self_eq_true]at h;cases h;exact Za
  .rw [beq_eq_false_iff_ne.mpr z]at h
   exact ZM _<|ih h
def P8{h:List Nat}(J:∀x∈h,x∈r.map (·.1)):h.map (Xb cs<|r++ q)=h.map (Xb cs r):=by
 refine vC λx Z=>?_;obtain⟨o,L,G⟩:=DQ (q:=q)<|J x Z;unfold Xb;rw[L,G]
def Aa{h:List Nat}(L:∀x∈h,x∈r.map (·.1))(G:∀p∈r,p.1<=cs.length/\∀j,p.2=some j->j<=cs.length):h.map (Xb (cs++[c]) r)=h.map (Xb cs r):=by
 refine vC λx J=>?_;obtain⟨o,Z,_⟩:=DQ (q:=[])<|L x J;have m:=G _<|LF Z;unfold Xb;rw[Z,Xc m.1]
 cases o with
 |none=>rfl
 |some j=>show Dat.tup [_,bD _ j]=Dat.tup [_,bD _ j];rw[Xc (m.2 j rfl)]
structure RI(R:RgP)(B:Dat)(acc dacc:List Dat)(k N:Nat)(S:WSt):Prop where
 len:S.s.1.length=N
 n1:1<=N
 nb:N<=2*k
 mks:∀c∈S.s.1,c.1<N
 st:S.s.2 N=some ⟨R.nm k,[],Xk R⟩
 bN:bD S.s.1 N=B
 ul:S.u.length=k
 uk:∃ns,S.u.map (·.k)=0::ns/\(ns++[N])[0]?=some 1/\ns.map (bD S.s.1)=acc/\∀n∈ns,n<N
 ur:∀e∈S.u,e.k∈S.r.map (·.1)
 rk:∀p∈S.r,p.1<N/\∀j,p.2=some j->j<N
 hk:∀x∈S.h,x∈S.r.map (·.1)/\2<=x
 hd:S.h.map (Xb S.s.1 S.r)=dacc
 rl:S.r.length<=2*k
 wl:S.wc<=2*k
 hl:S.h.length<=k
structure RM(R:RgP)(B:Dat)(acc dacc:List Dat)(k N:Nat)(pl:List Int)(S:WSt):Prop where
 le:N<=S.s.1.length
 n1:1<=N
 nb:S.s.1.length<=2*k+1
 mks:∀c∈S.s.1,c.1<=N
 bN:bD S.s.1 N=B
 ul:S.u.length=k+1
 uk:∃ns,S.u.map (·.k)=0::(ns++[N])/\(ns++[N])[0]?=some 1/\ns.map (bD S.s.1)=acc/\∀n∈ns,n<N
 ur:∀e∈S.u,e.k∈S.r.map (·.1)
 rk:∀p∈S.r,p.1<=S.s.1.length/\∀j,p.2=some j->j<=S.s.1.length
 hk:∀x∈S.h,x∈S.r.map (·.1)/\2<=x
 hd:S.h.map (Xb S.s.1 S.r)=dacc
 rl:S.r.length<=2*k+2
 wl:S.wc<=2*k+2
 hl:S.h.length<=k+1
def Lw(M:∀x∈S.h,x∈S.r.map (·.1))(J:∀p∈(S:WSt).r,p.1<=S.s.1.length/\∀j,p.2=some j->j<=S.s.1.length)(L:S.h.length<=900):OK S:=by
 refine⟨λx G=>?_,L⟩;obtain⟨o,Z,_⟩:=DQ (q:=[])<|M x G;have m:=J _<|LF Z;exact⟨m.1,o,Z,m.2⟩
def Out(mo bg c:Nat)(rg dn:kM)(dacc:kM)(Rr:N4)(SR:WSt):Prop:=OK SR/\((bg+c<=mo/\Rr=.ring rg/\dnL SR=dacc++ dn)\/(mo<bg+c/\Rr=.dry/\∃m,dnL SR=dacc++ dn.take m))
def RM.last(m:RM R B acc dacc k N pl S)(F:k<=6):∃j M J,Wlk ds mo 1 j (.st<|.want 1) S M J/\M=.ring (acc++[B])/\OK J/\dnL J=dacc:=by
 obtain⟨D,Z,T,O,Q⟩:=m.uk;have q:=m.nb;have y:=m.rl;have C:=m.wl;have P:=m.ul;have t:=m.hl;have G:(S.u.map (·.k))[1]?=some 1:=by rw[Z];exact T
 have E:1∈S.r.map (·.1):=by
  have:=ZJ G;obtain⟨e,A,U⟩:=ZW.mp this;have:=m.ur e A;rw[U]at this;exact this
 have I:(S.u.drop 1).map (λe=>bD S.s.1 e.k)=acc++[B]:=by
  rw[show(λe:UE=>bD S.s.1 e.k)=bD S.s.1 ∘ (·.k)from rfl,<-yj,List.map_drop,Z];show(D++[N]).map (bD S.s.1)=_;rw[ZK,O];show acc++[bD S.s.1 N]=_;rw[m.bN]
 refine⟨2,_,{S with wc:=S.wc+1},?_,Y,Lw (λx h=>(m.hk x h).1) m.rk (by show S.h.length<=900;omega),m.hd⟩;unfold Wlk;refine⟨λz=>by have:=(m.hk 1 z).2;omega,m.ur,by omega,by omega,by omega,.ring 1 E G (λj u g L=>?_) ?_⟩
 .have:j=0:=by omega
  subst this;rw[Z]at L;cases L
  decide
 .rw [I]
  unfold Wlk;exact⟨Y,Y⟩
def RM.next(m:RM R B acc dacc k N pl S):RI R (.tup [B,JD pl]) (acc++[B]) dacc (k+1) (S.s.1.length+1) {S with s:=sIn R k false N pl S.s}:=by
 obtain⟨G,O,M,L,J⟩:=m.uk;have U:=m.nb;have I:=m.rl;have A:=m.wl;have C:=m.hl;have T:=m.le;refine⟨by show(S.s.1++[(N,pl)]).length=_;rw[ZL];rfl,by omega,by omega,λc F=>?_,?_,?_,m.ul,⟨G++[N],O,?_,?_,λn Z=>?_⟩,m.ur,λp D=>?_,m.hk,?_,by show S.r.length<=_;omega,by show S.wc<=_;omega,by show S.h.length<=_;omega⟩
 .have hc':c∈S.s.1++[(N,pl)]:=F
  rcases ZX.mp hc' with q|q
  .have:=m.mks c q;omega
  .rw [ZQ]at q;subst q;show N<_;omega
 .show stP S.s.2 (S.s.1.length+1) _ (S.s.1.length+1)=_
  unfold stP;rw[Zp rfl]
 .show bD (S.s.1++[(N,pl)]) (S.s.1.length+1)=_
  rw[Dv,m.bN]
 .rw [yi (by rw[ZL,yg];omega)]
  exact M
 .show (G++[N]).map (bD<|S.s.1++[(N,pl)])=_
  rw[ZK,<-L]
  congr 1
  .refine vC λn Z=>Xc ?_
   have:=J n Z;omega
  .show [bD (S.s.1++[(N,pl)]) N]=_
   rw[Xc T,m.bN]
 .rcases ZX.mp Z with q|q
  .have:=J n q;omega
  .rw [ZQ]at q;omega
 .have:=m.rk p D
  exact⟨by omega,λj E=>by have:=this.2 j E;omega⟩
 .show S.h.map (Xb (S.s.1++[(N,pl)]) S.r)=_
  rw[Aa (λx h=>(m.hk x h).1) m.rk];exact m.hd
def RI.go(i:RI R B acc dacc k N S)(U:kB)(F:Str)(b:Bd)(l:List WEn)(O:Nat):RM R B acc dacc k N U {S with r:=S.r++[(N,Vp S.u)],wc:=S.wc+1,u:=S.u++[⟨N,F,b,l⟩],bg:=O}:=by
 obtain⟨C,I,A,E,D⟩:=i.uk;have X:=i.len;have t:=i.nb;have z:=i.rl;have y:=i.wl;have m:=i.hl;have T:=i.ul;refine⟨by show N<=S.s.1.length;omega,i.n1,by show S.s.1.length<=_;omega,λc Q=>Zh<|i.mks c Q,i.bN,by show(S.u++ _).length=_;rw[ZL,T];rfl,⟨C,?_,A,E,D⟩,λe M=>?_,λp J=>?_,λx P=>?_,?_,?_,by show S.wc+1<=_;omega,by show S.h.length<=_;omega⟩
 .show (S.u++ _).map (·.k)=_
  rw[ZK,I]
  rfl
 .show e.k∈(S.r++ _).map (·.1)
  rw[ZK];have L:e∈S.u++[⟨N,F,b,l⟩]:=M;rcases ZX.mp L with q|q
  .exact yn _ (i.ur e q)
  .rw [ZQ]at q;subst q;exact ZU _<|by simp
 .have hp':p∈S.r++[(N,Vp S.u)]:=J
  show p.1<=S.s.1.length/\_;rcases ZX.mp hp' with q|q
  .have:=i.rk p q
   exact⟨by omega,λj G=>by have:=this.2 j G;show j<=S.s.1.length;omega⟩
  .rw [ZQ]at q
   subst q;refine⟨by show N<=_;omega,λj G=>?_⟩;have Z:Vp S.u=some j:=G;unfold Vp at Z;obtain⟨e,M,rfl⟩:=Zj.mp Z;have:=i.ur e<|List.mem_of_getLast? M;obtain⟨p,J,g⟩:=ZW.mp this;have:=(i.rk p J).1;show e.k<=S.s.1.length;omega
 .have:=i.hk x P
  refine⟨?_,this.2⟩;show x∈(S.r++ _).map (·.1);rw[ZK];exact yn _ this.1
 .show S.h.map (Xb S.s.1<|S.r++ _)=_
  rw[P8 λx h=>(i.hk x h).1];exact i.hd
 .show (S.r++ _).length<=_
  rw[ZL];simp;omega
def RM.con(m:RM R B acc dacc k N pl S)(Q:S.s.1.length=N)(u:N<=2*k)(d:S.r.length<=2*k+1)(g:S.wc<=2*k+1)(f:S.h.length<=k)(D:Nat)(Z:Nat->Option Sta):RM R B acc (dacc++[.tup [.tup [B,JD [0]],B]]) k N pl {S with r:=S.r++[(N+1,some N)],wc:=S.wc+1,h:=S.h++[N+1],bg:=D,s:=(S.s.1++[(N,[0])],Z)}:=by
 obtain⟨T,A,F,E,O⟩:=m.uk;have I:=m.n1;have U:∀p∈S.r,p.1≠N+1:=λp L z=>by have:=(m.rk p L).1;omega
 have G:∀x∈S.h,x∈S.r.map (·.1):=λx h=>(m.hk x h).1;refine⟨by show N<=(S.s.1++ _).length;rw[ZL];omega,I,by show(S.s.1++ _).length<=_;rw[ZL,yg];omega,λc P=>?_,?_,m.ul,⟨T,A,F,?_,O⟩,λe X=>?_,λp L=>?_,λx J=>?_,?_,by show(S.r++ _).length<=_;rw[ZL,yg];omega,by show S.wc+1<=_;omega,by show(S.h++ _).length<=_;rw[ZL,yg];omega⟩
 .have hc':c∈S.s.1++[(N,[0])]:=P
  rcases ZX.mp hc' with q|q
  .exact m.mks c q
  .rw [ZQ]at q;subst q;exact ZG _
 .show bD (S.s.1++[(N,[0])]) N=B
  rw[Xc m.le];exact m.bN
 .show T.map (bD<|S.s.1++[(N,[0])])=_
  rw[<-E];refine vC λn C=>Xc ?_;have:=O n C;have:=m.le;omega
 .show e.k∈(S.r++ _).map (·.1)
  rw[ZK];exact yn _<|m.ur e X
 .have hp':p∈S.r++[(N+1,some N)]:=L
  show p.1<=(S.s.1++[(N,[0])]).length/\∀j,p.2=some j->j<=(S.s.1++[(N,[0])]).length;rw[ZL,yg];rcases ZX.mp hp' with q|q
  .have:=m.rk p q
   exact⟨by omega,λj M=>by have:=this.2 j M;omega⟩
  .rw [ZQ]at q
   subst q;exact⟨by show N+1<=_;omega,λj M=>by cases M;omega⟩
 .have hx2:x∈S.h++[N+1]:=J
  show x∈(S.r++ _).map (·.1)/\_;rw[ZK];rcases ZX.mp hx2 with q|q
  .exact ⟨yn _<|G x q,(m.hk x q).2⟩
  .rw [ZQ]at q;subst q;exact⟨ZU _ (by simp),by omega⟩
 .show (S.h++[N+1]).map (Xb (S.s.1++[(N,[0])])<|S.r++[(N+1,some N)])=_
  rw[ZK]
  congr 1
  .rw [P8 G,Aa G m.rk]
   exact m.hd
  .show [Xb _ _ (N+1)]=_
   unfold Xb;rw[AD U]
   have t:bD (S.s.1++[(N,[0])]) (N+1)=.tup [bD S.s.1 N,JD [0]]:=by
    have:=Dv (cs:=S.s.1) (c:=(N,[0]));rw[Q]at this;exact this
   have y:owD (S.s.1++[(N,[0])]) ((some<|some N).getD none)=bD S.s.1 N:=by
    show bD _ N=_;exact Xc m.le
   rw[t,y,m.bN]
def RW(R:RgP)(ds:List Dd)(mo:Nat)(ws:List Nat):Prop:=∀(w k N:Nat)(B:Dat)(J Z:kM)(S:WSt),1<=k->k+ws.length<=6->(∀x∈lks R k (w::ws),x∈ds)->RI R B J Z k N S->S.bg<=mo->
 ∃j L G,Wlk ds mo 1 j (.st<|.want N) S L G/\Out mo S.bg (cost (w::ws)) (J++ J5 R B (w::ws)) (dns R B (w::ws)) Z L G
def RE(h:Z=[] \/ ∃M J,Z=M::J/\RW R ds mo J)(m:RM R B acc dacc k N pl S)(E:1<=k)(O:k+Z.length<=6)(D:∀x∈lks R (k+1) Z,x∈ds)(T:S.bg<=mo):
  ∃j L G,Wlk ds mo 1 j (.st<|.want<|wIn Z.isEmpty S.s) {S with s:=sIn R k Z.isEmpty N pl S.s} L G/\Out mo S.bg (cost Z) (acc++ B::J5 R (.tup [B,JD pl]) Z) (dns R (.tup [B,JD pl]) Z) dacc L G:=by
 rcases h with rfl|⟨M,J,rfl,ih⟩
 .obtain ⟨j,L,G,g,e1,e2,e3⟩:=m.last (ds:=ds) (mo:=mo) (by simp at O;omega)
  exact⟨j,L,G,g,e2,.inl ⟨T,e1,by rw[e3];exact(yu _).symm⟩⟩
 .obtain ⟨j,L,G,g,o1,o2⟩:=ih M (k+1) _ _ _ _ _ (by omega) (by rw[Zf]at O;omega) D m.next T
  exists j,L,G,g,o1;rw[vk]at o2;exact o2
def Mu(b:Bd):b.at []=some b:=by unfold Bd.at;rfl
def LO(h:J.isEmpty=false):∃G Z,(J:List Nat)=G::Z:=by
 cases J with
 |nil=>cases h
 |cons a b=>exact⟨a,b,Y⟩
def RD(K:RgK R I)(h:Z=[] \/ ∃M U,Z=M::U/\RW R I mo U):RW R I mo Z:=by
 intro w k N B R4 O1 S G2 G1 hm i hb;have O:=i.len;have nb:=i.nb;have rl:=i.rl;have wl:=i.wl;have hl:=i.hl;have ul:=i.ul
 have nh:N∉S.h:=λz=>by
  obtain⟨p,A,e⟩:=ZW.mp (i.hk N z).1;have:=(i.rk p A).1;omega
 have nr:N∉S.r.map (·.1):=λz=>by
  obtain⟨p,A,e⟩:=ZW.mp z;have:=(i.rk p A).1;omega
 have hx:∀x∈S.h,x∈S.r.map (·.1):=λx h=>(i.hk x h).1
 have R6:∀p∈S.r,p.1<=S.s.1.length/\∀j,p.2=some j->j<=S.s.1.length:=λp A=>by
  have:=i.rk p A;exact⟨by omega,λj hj=>by have:=this.2 j hj;omega⟩
 have md:lkD R k w Z.isEmpty∈I:=hm _ Za;have y:∀x∈lks R (k+1) Z,x∈I:=λx hx=>hm x<|ZM _ hx
 have nx:Z.isEmpty=false->∃x∈I,x.1.1=R.nm (k+1)/\x.1.2.1=[(R.own,R.kd)]:=λz=>by
  obtain⟨M,U,rfl⟩:=LO z;exact⟨_,y _ Za,Y,Y⟩
 have t:∀pl,(N,pl)∉S.s.1:=λpl z=>by have:=i.mks _ z;omega
 by_cases e0:S.bg=mo
 .refine ⟨2,.dry,{S with r:=S.r++[(N,Vp S.u)],wc:=S.wc+1},?_,?_,.inr ⟨by rw[<-e0];unfold cost;omega,rfl,0,?_⟩⟩
  .unfold Wlk
   refine⟨nh,i.ur,by omega,by omega,by omega,.dry nr e0 ?_⟩;unfold Wlk;exact⟨Y,Y⟩
  .have m:=i.go [] "" (.name "") [] 0
   exact Lw (S:={S with r:=S.r++[(N,Vp S.u)],wc:=S.wc+1}) (λx h=>(m.hk x h).1) m.rk (by show S.h.length<=900;omega)
  .rw [vE,yu]
   show S.h.map (Xb S.s.1<|S.r++ _)=_;rw[P8 hx];exact i.hd
 have lt:S.bg<mo:=by omega
 by_cases M:w / 2=1
 .-- a constant ahead
  have eb:lkB R w (inB R k Z.isEmpty)=.choose (.ask (R.nm 7) []) R.tg (R.tg.map λ_=>JX R w<|inB R k Z.isEmpty):=by unfold lkB;rw[Zp M]
  have ep:lkP R w=(1+(R.ci:Int))::onP w:=by unfold lkP;rw[Zp M]
  have R8:=(ZF.mp K.ci).1;have sz:=LG (w:=w) K.t4<|LQ (R:=R) (k:=k) (last:=Z.isEmpty)
  let G:=lkB R w<|inB R k Z.isEmpty
  have T:G.at []=some (.choose (.ask (R.nm 7) []) R.tg<|R.tg.map λ_=>JX R w<|inB R k Z.isEmpty):=by rw[Mu];exact congrArg some eb
  let b:List WEn:=[]++[(.choose (.ask (R.nm 7) []) R.tg<|R.tg.map λ_=>JX R w<|inB R k Z.isEmpty,[],Xk R)]
  let J:Ss:=(S.s.1++[(N,[0])],stP S.s.2 (S.s.1.length+1) ⟨R.nm 7,[],J9 [] []⟩)
  have l1:J.1.length=N+1:=by show(S.s.1++[(N,[0])]).length=_;rw[ZL,O];rfl
  have g1:Gos I (R.nm k) G N 1 3 (.body []<|Xk R) [] S.s (.want<|S.s.1.length+1) b J:=by
   have G3:G.at ([]++[0])=some (.ask (R.nm 7) []):=Bd.at_snoc [] T (by decide) rfl;refine .push T (by rw[<-eb];omega) (by show 0+1<=400;omega) (by show 0<=400;omega)<|.ask G3 ?_ (by simp[Bd.size,Bd.sizes];omega) (by show 1+1<=400;omega) (by show 1<=400;omega) λth s2 ta=>?_
   .unfold OkT
    exact⟨⟨d7 R,K.d7,Y,Y,by decide,vN⟩,λa ha=>by cases ha⟩
   .obtain ⟨rfl,rfl⟩:=Q0 G3 (t _) (λns p=>B1 K K.d7 p) ta
    exact .thC .stopW
  have D:=i.go (lkP R w) (R.nm k) G b<|S.bg+1
  let L:WSt:={S with r:=S.r++[(N,Vp S.u)],wc:=S.wc+1,u:=S.u++[⟨N,R.nm k,G,b⟩],bg:=S.bg+1,s:=J}
  have J2:Vp L.u=some N:=TF (S:=L) (u:=S.u) (e:=⟨N,R.nm k,G,b⟩) rfl
  have X:N+1∉S.h:=λz=>by
   obtain⟨p,A,e⟩:=ZW.mp<|hx _ z;have:=(i.rk p A).1;omega
  have n:N+1∉L.r.map (·.1):=λz=>by
   obtain⟨p,A,e⟩:=ZW.mp z;have:=(D.rk p A).1;have:p.1<=S.s.1.length:=this;omega
  have R7:L.r.length=S.r.length+1:=by show(S.r++ _).length=_;rw[ZL];rfl
  have R5:L.u.length=k+1:=D.ul
  have M2:∀{j v f},Wlk I mo 1 j (.st<|.want<|N+1) L v f->Wlk I mo 1 (j+1) (.st<|.want N) S v f:=λg=>by
   unfold Wlk;refine⟨nh,i.ur,by omega,by omega,by omega,.go ⟨R.nm k,[],Xk R⟩ (lkD R k w Z.isEmpty) 3 _ b J nr i.st md Y (K.ok _ md) (by omega) lt g1 (by omega) ?_⟩;rw[O];exact g
  by_cases e1:S.bg+1=mo
  .refine ⟨3,.dry,{L with r:=L.r++[(N+1,Vp L.u)],wc:=L.wc+1},M2 ?_,?_,.inr ⟨by rw[<-e1];unfold cost;rw[Zp M];omega,rfl,0,?_⟩⟩
   .unfold Wlk
    refine⟨X,D.ur,by omega,by show S.wc+1<=900;omega,by omega,.dry n e1 ?_⟩;unfold Wlk;exact⟨Y,Y⟩
   .have m2:=D.con O nb (by show(S.r++ _).length<=_;rw[ZL,yg];omega) (by show S.wc+1<=_;omega) hl 0 J.2
    rw[J2];refine Lw (S:={L with r:=L.r++[(N+1,some N)],wc:=L.wc+1}) (λx h=>?_) m2.rk (by show S.h.length<=900;omega);exact(m2.hk x<|yn _ h).1
   .rw [vE,yu]
    show S.h.map (Xb (S.s.1++[(N,[0])])<|(S.r++[(N,Vp S.u)])++ _)=_;rw[P8 λx h=>(D.hk x h).1];have:=Aa (cs:=S.s.1) (c:=(N,[0])) (r:=S.r++[(N,Vp S.u)]) (h:=S.h) (λx h=>(D.hk x h).1) D.rk;rw[this];exact D.hd
  .-- behind the constant
   have eT:(R.tg.map λ_=>JX R w<|inB R k Z.isEmpty)[R.ci]?=some (JX R w<|inB R k Z.isEmpty):=by rw[ZH,K.ci];rfl
   have R1:G.at ([]++[1+(R.ci:Int)])=some (JX R w<|inB R k Z.isEmpty):=Bd.at_snoc [] T (by omega) (by
    show(_::_)[(1+(R.ci:Int)).toNat]?=_;rw[show(1+(R.ci:Int)).toNat=R.ci+1 by omega];exact eT)
   have R3:(N,[1+(R.ci:Int)]++ onP w)∉J.1:=λz=>by
    have z':(N,[1+(R.ci:Int)]++ onP w)∈S.s.1++[(N,[0])]:=z;rcases ZX.mp z' with q|q
    .exact t _ q
    .rw [ZQ]at q
     have E:[1+(R.ci:Int)]++ onP w=[0]:=congrArg Prod.snd q;have:=(List.cons.inj E).1;omega
   obtain⟨m2,g2⟩:=Eb (l:=[]) (s:=J) (N:=N) (F:=R.nm k) (pl:=[]++[1+(R.ci:Int)]) (w:=w) K R1 nx R3 (by omega) (by show 1<=5;omega) (by show 0<=5;omega);have mm:=D.con O nb (by show(S.r++ _).length<=_;rw[ZL,yg];omega) (by show S.wc+1<=_;omega) hl (S.bg+2) J.2
   let Q:List WEn:=[]++ PF R w (inB R k Z.isEmpty) ([]++[1+(R.ci:Int)])
   let S4:WSt:={S with r:=S.r++[(N,Vp S.u)]++[(N+1,some N)],wc:=S.wc+1+1,u:=S.u++[⟨N,R.nm k,G,Q⟩],h:=S.h++[N+1],bg:=S.bg+2,s:=J}
   have m4:RM R B R4 (O1++[.tup [.tup [B,JD [0]],B]]) k N (lkP R w) S4:=by
    have a:=(i.go (lkP R w) (R.nm k) G Q<|S.bg+1).con O nb (by show(S.r++ _).length<=_;rw[ZL,yg];omega) (by show S.wc+1<=_;omega) hl (S.bg+2) J.2;exact a
   obtain⟨j,v,f,g,o1,o⟩:=RE h m4 G2 G1 y (by show S.bg+2<=mo;omega);exists _,v,f,M2 (j:=j+1+1+1) ?_,o1
   .unfold Wlk
    refine⟨X,D.ur,by omega,by show S.wc+1<=900;omega,by omega,.go ⟨R.nm 7,[],J9 [] []⟩ (d7 R) 1 (.head R.ct) [] J n ?_ K.d7 Y (K.ok _ K.d7) (by show N+1<=J.1.length;omega) (by show S.bg+1<mo;omega) (.tag (Mu _) (by omega) (by show 0+1<=400;omega) (by show 0<=400;omega) .stopH) (ZG _) ?_⟩
    .show stP S.s.2 (S.s.1.length+1) _ (N+1)=_
     unfold stP;rw[Zp (by omega)]
    rw[J2];unfold Wlk;refine⟨L.u,⟨N+1,R.nm 7,.tag R.ct,[]⟩,Y,X,by show S.h.length<=900;omega,?_⟩;unfold Wlk;exists S.u,⟨N,R.nm k,G,b⟩,_,_,Q,_,Y,.cho (j:=R.ci) K.tn (by have:=K.t4;omega) (by rw[ZA]) K.ci (by show 0<=400;omega) g2,?_
    .show J.1.length<=(sIn R k Z.isEmpty N _ J).1.length
     unfold sIn
     split
     .exact ZG _
     .exact List.Sublist.length_le (List.sublist_append_left _ _)
    .have e4:[]++[1+(R.ci:Int)]++ onP w=lkP R w:=ep.symm
     rw[e4];exact g
   .have cw:cost (w::Z)=2+cost Z:=by conv=>lhs;unfold cost;rw[Zp M]
    have dw:dns R B (w::Z)=.tup [.tup [B,JD [0]],B]::dns R (.tup [B,JD (lkP R w)]) Z:=by
     conv=>lhs;unfold dns dn1;rw[Zp M]
     rfl
    rw[cw,dw];have d:S4.bg=S.bg+2:=rfl;rw[d]at o;rcases o with⟨q1,E,C⟩|⟨q1,E,P,C⟩
    .exact .inl ⟨by omega,E,by rw[C,vk];rfl⟩
    .exact .inr ⟨by omega,E,P+1,by rw[C,vk];rfl⟩
 .-- no constant
  have eb:lkB R w (inB R k Z.isEmpty)=JX R w (inB R k Z.isEmpty):=by unfold lkB;rw[Zq M]
  have ep:lkP R w=onP w:=by unfold lkP;rw[Zq M]
  let G:=lkB R w<|inB R k Z.isEmpty
  have T:G.at []=some (JX R w<|inB R k Z.isEmpty):=by rw[Mu];exact congrArg some eb
  obtain⟨m2,g2⟩:=Eb (l:=[]) (s:=S.s) (N:=N) (F:=R.nm k) (pl:=[]) (w:=w) K T nx (t _) (by omega) (by show 0<=5;omega) (by show 0<=5;omega)
  let Q:List WEn:=[]++ PF R w (inB R k Z.isEmpty) []
  have m4:=i.go (lkP R w) (R.nm k) G Q<|S.bg+1;obtain⟨j,v,f,g,o1,o⟩:=RE h m4 G2 G1 y (by show S.bg+1<=mo;omega);exists j+1,v,f,?_,o1
  .unfold Wlk
   refine⟨nh,i.ur,by omega,by omega,by omega,.go ⟨R.nm k,[],Xk R⟩ (lkD R k w Z.isEmpty) m2 _ Q (sIn R k Z.isEmpty N ([]++ onP w) S.s) nr i.st md Y (K.ok _ md) (by omega) lt g2 ?_ ?_⟩
   .unfold sIn
    split
    .exact ZG _
    .exact List.Sublist.length_le (List.sublist_append_left _ _)
   .have e4:[]++ onP w=lkP R w:=ep.symm
    rw[e4];exact g
  .have cw:cost (w::Z)=1+cost Z:=by conv=>lhs;unfold cost;rw[Zq M]
   have dw:dns R B (w::Z)=dns R (.tup [B,JD (lkP R w)]) Z:=by
    conv=>lhs;unfold dns dn1;rw[Zq M]
    rfl
   rw[cw,dw];have d:({S with r:=S.r++[(N,Vp S.u)],wc:=S.wc+1,u:=S.u++[⟨N,R.nm k,G,Q⟩],bg:=S.bg+1}:WSt).bg=S.bg+1:=rfl;rw[d]at o;rcases o with⟨q1,E,C⟩|⟨q1,E,P,C⟩
   .exact .inl ⟨by omega,E,C⟩
   .exact .inr ⟨by omega,E,P,C⟩
theorem NG(K:RgK R J):∀Z:List Nat,RW R J mo Z
 |[]=>RD K<|.inl rfl
 |w::Z=>RD K<|.inr ⟨w,Z,rfl,NG K Z⟩
abbrev B0:Dat:=.tup [.tup [],JD [0]]
theorem X2(R:RgP):∀(Z:List Nat)(B:Dat),(J5 R B Z).length=Z.length
 |[],_=>by simp[J5]
 |w::Z,B=>by simp[J5,X2 R Z]
theorem GQ(R:RgP):∀(Z:List Nat)(B:Dat),cost Z=Z.length+(dns R B Z).length
 |[],_=>by simp[dns,cost]
 |w::Z,B=>by
  have:=GQ R Z<|.tup [B,JD (lkP R w)];simp only[dns,dn1,cost,Zf,ZL]
  split <;> simp <;> omega
def Gv(K:RgK R L)(S:d0 R∈L)(A:∀x∈lks R 1 (w::J),x∈L)(Q:1+J.length<=6)(u:1<=mo):∃j Rr M,Wlk L mo 1 j (.st<|.want 0) (S0<|R.nm 0) Rr M/\Out mo 1 (cost (w::J)) (J5 R B0 (w::J)) (dns R B0 (w::J)) [] Rr M:=by
 have F:=A _ Za
 let Z:Bd:=.letb R.own R.kd (.ask (R.nm 1) [.name R.own])<|.name R.own
 let N:Ss:=([(0,[0])],stP (M7<|R.nm 0) 1 ⟨R.nm 1,[],Xk R⟩)
 have E:Z.at []=some Z:=Mu _;have D:Z.at ([]++[0])=some (.ask (R.nm 1) [.name R.own]):=Bd.at_snoc [] E (by decide) rfl;have G:∀i:Nat,i=0->Z.at ([]++[0]++[(i:Int)])=some (.name R.own):=λi z=>by subst z;exact Bd.at_snoc _ D (by decide) Y
 have B:Z.at ([]++[1])=some (.name R.own):=Bd.at_snoc [] E (by decide) rfl;have O:∀k,Up KA R.own (.cell k) R.own=some (.cell k):=λk=>by unfold Up;rw[Zp rfl]
 have g:Gos L (R.nm 0) Z 0 1 3 (.body [] KA) [] ([],M7<|R.nm 0) (.want 1) [] N:=by
  refine .letb E trivial (λk=>?_) (by simp[Bd.size,Bd.sizes]) (by show 0+1<=400;omega) (by show 0<=400;omega) (m:=2) λk r b X P=>?_
  .unfold OkT
   refine⟨⟨_,F,Y,Y,(by show 1<=3;decide),by simp[lkD]⟩,λa I=>?_⟩;rw[ZQ]at I;subst I;unfold OkT;exact⟨_,O k⟩
  .obtain ⟨rfl,rfl⟩:=WX (by simp) X
   have e:=LD (th0:=.cell 1) (x':=R.own) (Rr:=λi=>TAp L (R.nm 0) Z 0 (Up KA R.own<|.cell 1) 1<|[]++[0]++[(i:Int)]) (λs l s' q=>D9 (G 0 rfl) (O 1) q) (λns p=>B1 K F p) P;subst e;exact .name B (O _) (by show 1+1<=900;omega) (by show 1+1<=400;omega) (by show 0<=400;omega)<|.thC .stopW
 let U:WSt:=⟨[⟨0,R.nm 0,Z,[]⟩],[(0,none)],[],1,1,N⟩
 have C:RI R B0 [] [] 1 1 U:=by
  refine⟨Y,ZG _,by omega,λc f=>?_,?_,?_,Y,⟨[],Y,Y,Y,λn h=>by cases h⟩,λe T=>?_,λp t=>?_,λx y=>(nomatch y),Y,by show 1<=2;omega,by show 1<=2;omega,by show 0<=1;omega⟩
  .have:c=(0,[0]):=ZQ.mp f
   subst this
   decide
  .show stP (M7<|R.nm 0) 1 ⟨R.nm 1,[],Xk R⟩ 1=_
   unfold stP;rw[Zp rfl]
  .show bD ([]++[(0,[0])]) (([]:List Mk1).length+1)=_
   rw[Dv]
   rfl
  .have:e=⟨0,R.nm 0,Z,[]⟩:=ZQ.mp T
   subst this;show 0∈ [0];exact ZQ.mpr Y
  .have:p=(0,none):=ZQ.mp t
   subst this;exact⟨by decide,λj d=>by cases d⟩
 obtain⟨j,Rr,M,v,o⟩:=NG (mo:=mo) K J w 1 1 B0 [] [] U (ZG _) Q A C u;exists j+1,Rr,M,?_
 .unfold Wlk
  refine⟨by show 0 ∉ [];simp,λe T=>(nomatch T),by show 0<=900;omega,by show 0<=900;omega,by show 0<=900;omega,.go ⟨R.nm 0,[],KA⟩ (d0 R) 3 _ [] N (by show 0 ∉ [];simp) ?_ S Y (K.ok _ S) (by show 0<=0;omega) (by show 0<mo;omega) g (by show 0<=1;omega) ?_⟩
  .show M7 _ 0=_
   unfold M7 stP;rw[Zp rfl]
  .exact v
 .rw [List.nil_append]at o
  exact o
def QC{K:W.Frag}{Q:VK}(G:H a=some (.tup [.int i]))(L:H b=some (.tup<|Z.map V.int))(l:Z.length<=900)(q:∀u J,Same H J->J u=some (.tup<|(i::Z).map V.int)->Q (.ref u) J):UO K (.ref a) (.ref b) H Q\/UN K (.ref a) (.ref b) H Q:=by
 refine .inr ⟨a,b,_,_,Y,Y,Z2 G,Z2 L,(by simp),?_,λz=>?_,λ_ p M=>?_⟩
 .show 1+(Z.map V.int).length<=sizeLine
  rw[ZA];exact Zh<|Yj<|by omega
 .obtain rfl:=List.map_eq_nil_iff.mp z
  exact q _ _ (Z8 _) G
 .exact q _ _ (Yq M _) Ye
theorem Ny{b:Bd}:∀Z:ky,Bd.brs (Z.map λ_=>b) Z=Z.map λt=>.tup [.str t,b.dat]
 |[]=>by unfold List.map Bd.brs;rfl
 |t::Z=>by rw[ZV,ZV];unfold Bd.brs;rw[Ny Z]
theorem Nx:∀Z:ky,Bd.brs (Z.map Bd.tag) Z=Z.map λt=>.tup [.str t,.tup [.str "tag",.str t]]
 |[]=>by unfold List.map Bd.brs;rfl
 |t::Z=>by rw[ZV,ZV];unfold Bd.brs;rw[Nx Z];conv=>lhs;unfold Bd.dat
theorem U3:∀Z:ky,HasL H (Z.map V.str)<|Z.map Dat.str
 |[]=>Z6
 |w::Z=>Z4 (by unfold Has;rfl)<|U3 Z
def Mt{Z:ky}{k:Nat}{x:Str}(h:Z[k]?=some x):atI (Z.map V.str) (k:Int)=some (.str x):=VG (by rw[ZH,h];rfl)
end L2
namespace K4
open PySem L2
section
abbrev lkp:ky:=["way","own","tags","constant"]
def BR:Yh ["way","own","tags","constant","inner","place"] lkp (Yc LJ):=Y5
def S9:List.Nodup [("tag":Str)]:=by decide +kernel
def Cb:List.Nodup [("tag":Str),"inner"]:=by decide +kernel
inductive SLk(H:Hp)(Q:VK):List V->Prop
 |mk (R:RgP) (w:Nat) (x:V) (b:Bd) (tl ca:Addr) (hw:w<4) (hx:Has H x b.dat) (htl:H tl=some (.lst (R.tg.map V.str))) (hc:H ca=some (.tup [.str (R.nm 7),.str R.ct])) (ci:R.tg[R.ci]?=some R.ct) (nd:R.tg.Nodup) (l4:R.tg.length<=4)
  (q:∀r v pa H',Same H H'->H' r=some (.tup [v,.ref pa])->Has H' v (lkB R w b).dat->H' pa=some (.tup ((lkP R w).map V.int))->Q (.ref r) H'):SLk H Q [.int (w:Nat),x,.ref tl,.ref ca]
def SG:Sp:=λZ H Q _=>SLk H Q Z
def CT(B:Blt mg)(F:Fun K "_law_link" "_law_link" LJ f fd):Yf P w K mg base CX0 (n+1) f fd lkp SG:=by
 refine F.oi BR λR6 A M2 s H vs Q E hr h=>?_;obtain⟨R,Z,x,b,tl,ca,hw,hx,G,hc,ci,nd,l4,q⟩:=h;refine⟨_,YY (Yx 4 BR.nd (pv 1) (hx:=Or.inr Y))
  (YY (Yx 5 BR.nd<|Yi<|VP)
  (YY (Y1 (Yr VZ (Y9 Jr (pv 0) Ya) Ya<|Yz _) (YY (Yx 4 BR.nd (Yi<|pa3 (Yy) (pv 1)<|VY JL rfl B.tuple JB (pa1<|JG ["tag"] [] (JP<|pv 2) (Vk (i:=0)<|by decide) (λcl C fp s H=>Yl 0 S9 rfl (Or.inl rfl) (Or.inr rfl)) λcl C fp s H=>Yi<|pa2 (pv 0)<|Yi<|pa2 (Yy)<|pv 0)) (hx:=Or.inr rfl))
  (YZ<|Yx 5 BR.nd<|Yi<|pa1<|Ya)) Yp)
  (YY (Y1 (Yr VZ (Y9 W9 (pv 0) Ya) Ya<|Yz _) (YY (Yx 5 BR.nd<|Y9 (r:=λx y H Q=>UO K x y H Q\/UN K x y H Q) UA (Yi<|pa1<|Y9 Vn Ya<|J1 Zz jE PySem.F.type_list_index LA (pv 2)<|pa1<|Yo (r:=Vb K) Yt (pv 3)<|Ya)<|pv 5)
  (YZ<|Yx 4 BR.nd (Yi<|pa3 (Yy) (Yi<|pa3 (Yy) (Yo (r:=Vb K) Yt (pv 3)<|Ya)<|Yi<|VP)<|VY JL rfl B.tuple JB (pa1<|JG ["tag"] [4] (JP<|pv 2) (Vk (i:=0)<|by decide) (λcl C fp s H=>Yl 0 Cb rfl (Or.inl rfl) (Or.inr rfl)) λcl C fp s H=>Yi<|pa2 (pv 0)<|pv 1)) (hx:=Or.inr rfl))) Yp)
  (YZ<|Ym<|Yi<|pa2 (pv 4)<|pv 5)))),?_⟩
 dsimp only[Vf,Cx.nox,Cx.wish];show let T0:=_;let T1:=_;let T2:=Yk _ T1;let T3:=Yk (VE _ T2 _) T0;let T4:=_;let T5:=Yk _ T4;let T6:=Yk (VE _ T5 _) T3;let T7:=Yk _ T6;Yk _ T7 _ _ _
 intros
 refine⟨sl 0,λe he=>?_⟩;refine up_in he _ λH1 s1 g1=>?_;dsimp only[Vl];refine Jw (λU I=>∃v T,U=[some (.int (Z:Nat)),some x,some<|.ref tl,some<|.ref ca,some v,some (.ref T)]/\Same H I/\Has I v (JX R Z b).dat/\I T=some (.tup<|(onP Z).map V.int)) ?_ ?_
 .rintro U H2 ⟨v,T,rfl,s2,hv,hpa⟩
  have R5:(onP Z).length<=1:=by unfold onP;split <;> simp
  refine Jw (λU I=>∃v T,U=[some (.int (Z:Nat)),some x,some<|.ref tl,some<|.ref ca,some v,some (.ref T)]/\Same H I/\Has I v (lkB R Z b).dat/\I T=some (.tup<|(lkP R Z).map V.int)) ?_ ?_
  .rintro U H3 ⟨v,T,rfl,s3,hv,hpa⟩
   refine⟨sl 2,λr O1=>?_⟩;refine up_in O1 _ λH4 s4 g4=>?_;exact q r v T H4 (s3.trans s4) g4 (hv.mono s4)<|s4 _ _ hpa
  .intro N hN
   by_cases z:Z / 2=1
   .have eb:lkB R Z b=.choose (.ask (R.nm 7) []) R.tg (R.tg.map λ_=>JX R Z b):=by unfold lkB;rw[Zp z]
    have o:lkP R Z=(1+(R.ci:Int))::onP Z:=by unfold lkP;rw[Zp z]
    refine⟨⟨by decide,by decide⟩,Y,_,Y,VH (by simp;omega) ?_⟩;have R4:=(ZF.mp ci).1;exists .inl ⟨Y,_,Z3<|s2 _ _ G⟩,_,_,Z2<|s2 _ _ hc,at1,tl,_,_,.str R.ct,R.ci,rfl,rfl,Z3<|s2 _ _ G,rfl,?_,by rw[ZH,ci];rfl,by simp[eqV],λi u hi hu=>?_
    .rw [jg]
     intro v hv;obtain⟨t,_,rfl⟩:=ZW.mp hv
     rfl
    .rw [ZH]at hu
     obtain⟨t,ht,rfl⟩:=Zj.mp hu
     have:t≠R.ct:=λe=>by
      subst e;have il:=(ZF.mp ht).1;exact ve.mp nd i R.ci il R4 hi<|(ZF.mp ht).2.trans (ZF.mp ci).2.symm
     simp[eqV,this]
    refine⟨sl 1,λa ha=>?_⟩;refine up_in ha _ λH3 s3 g3=>?_;refine QC g3 (s3 _ _ hpa) (by omega) λu H4 s4 g4=>?_;have G2:=s3.trans s4;have J2:=s2.trans G2;refine⟨_,_,Z2<|J2 _ _ hc,at0,sl 0,λe5 R1=>?_⟩;refine up_in R1 _ λH5 s5 g5=>⟨sl 3,λt6 c=>?_⟩;refine up_in c _ λH6 s6 g6=>?_;have X:=s5.trans s6;have S:=J2.trans X;exists ⟨_,Z3<|S _ _ G⟩;refine U0 (us:=R.tg) (D:=Dat.str) (F:=λt=>.tup [.str t,(JX R Z b).dat]) (λI s=>itl<|Z3<|s _ _<|S _ _ G) (U3 _) (by omega) (λt y H7 Rr m O hy hR=>?_) λvs p H7 fp O hp j=>?_
    .obtain rfl:=has_str hy
     refine⟨sl 2,λt8 k=>?_⟩;refine up_in k _ λH8 J l=>hR _ _ J ?_;exact Yu l<|Z4 Y4<|Z5<|hv.mono<|(G2.trans X).trans<|O.trans J
    .refine ⟨p,vs,rfl,.inl ⟨Z3 hp,λp1 d=>?_⟩⟩
     refine up_in d _ λH8 J l=>⟨sl 3,λt9 g=>?_⟩;refine up_in g _ λH9 M g9=>hN _ _ ⟨_,u,Y,S.trans<|O.trans<|J.trans M,?_,?_⟩
     .rw [eb]
      conv=>arg 3;unfold Bd.dat
      rw[Ny];have G1:=O.trans<|J.trans M;refine Yu g9 (Z4 Y4<|Z4 ?_<|Z5<|Yu (M _ _ l)<|j.mono<|J.trans M)
      conv=>arg 3;unfold Bd.dat
      refine Yu (G1 _ _ g6)<|Z4 Y4<|Z4 Y4<|Z5<|Yu (G1 _ _<|s6 _ _ g5) ?_;unfold Bd.dats;exact Z6
     .rw [o]
      exact(X.trans<|O.trans<|J.trans M) _ _ g4
   .have eb:lkB R Z b=JX R Z b:=by unfold lkB;rw[Zq z]
    have o:lkP R Z=onP Z:=by unfold lkP;rw[Zq z]
    refine⟨⟨by decide,by decide⟩,Y,_,Y,Y0 (by simp;omega)<|hN _ _ ⟨v,T,rfl,s2,?_,?_⟩⟩
    .rw [eb];exact hv
    .rw [o];exact hpa
 .intro N hN
  by_cases z:Z % 2=1
  .have eb:JX R Z b=.choose b R.tg (R.tg.map Bd.tag):=by unfold JX;rw[Zp z]
   have o:onP Z=[0]:=by unfold onP;rw[Zp z]
   refine⟨(by show(0:Int)<2;decide),Y,_,Y,VH (by simp;omega) ⟨⟨_,Z3<|s1 _ _ G⟩,?_⟩⟩;refine U0 (us:=R.tg) (D:=Dat.str) (F:=λt=>.tup [.str t,.tup [.str "tag",.str t]]) (λI s=>itl<|Z3<|s _ _<|s1 _ _ G) (U3 _) (by omega) (λt y H7 Rr m O hy hR=>?_) λvs p H7 fp O hp j=>?_
   .obtain rfl:=has_str hy
    refine⟨sl 2,λt6 c=>?_⟩;refine up_in c _ λH6 s6 g6=>⟨sl 2,λt8 k=>?_⟩;refine up_in k _ λH8 J l=>hR _ _ (s6.trans J) ?_;exact Yu l<|Z4 Y4<|Z5<|Yu (J _ _ g6)<|Z4 Y4<|Z5 Y4
   .refine ⟨p,vs,rfl,.inl ⟨Z3 hp,λp1 d=>?_⟩⟩
    refine up_in d _ λH8 J l=>⟨sl 3,λt9 g=>?_⟩;refine up_in g _ λH9 M g9=>?_;refine Et ⟨sl 1,λL1 G3=>?_⟩;refine up_in G3 _ λR7 L R3=>hN _ _ ⟨_,L1,Y,s1.trans<|O.trans<|J.trans<|M.trans L,?_,?_⟩
    .rw [eb]
     conv=>arg 3;unfold Bd.dat
     rw[Nx];exact Yu (L _ _ g9)<|Z4 Y4<|Z4 (hx.mono<|s1.trans<|O.trans<|J.trans<|M.trans L)<|Z5<|Yu ((M.trans L) _ _ l)<|j.mono<|J.trans<|M.trans L
    .rw [o];exact R3
  .have eb:JX R Z b=b:=by unfold JX;rw[Zq z]
   have o:onP Z=[]:=by unfold onP;rw[Zq z]
   refine⟨(by show(0:Int)<2;decide),Y,_,Y,Y0 (by simp;omega)<|hN _ _ ⟨x,e,rfl,s1,?_,?_⟩⟩
   .rw [eb];exact hx.mono s1
   .rw [o];exact g1
end
end K4
namespace L2
open PySem PySem.Spec PyProof.Rows
def yV(K:W.Frag)(n:Nat)(t:TGs):TG:=λv U H Q=>V6 v λa=>∃Z,SqL K H a Z/\Z.length=n/\t Z U H Q
def Sg(F:X.calm=true)(h:PGs X M t)(D:(assignEach M X.env).length=n:=by rfl)(L:(assignEach M X.env).findIdx? (·.1)=none:=by rfl):PG X (.Tuple M k pos) (yV X.K n t):=by
 intro Z s U H v u Q I r J;replace J:=V6.old J;obtain⟨a,C,O,B,E,J⟩:=J;subst C;cases r;obtain⟨G,N,T,j⟩:=I.list B;rw[assign_Tuple];refine Zl<|vF ?_;unfold unpack;have S:n=G.toArray.size:=by rw[ZO,<-E,N.length]
 rw[D,L,S];refine Zl<|wpAny_holding<|W.kun_itemsOf (I.ok.hd F) T.isList λA R=>?_;have P:Inv X Z U H {s with heap:=A}:=I.kept (t':=s.toks) λb o e=>R b o (Ze<|ZP e) e;exact h Z _ U H O _ Q P (by simpa using N) J
abbrev ks1(R:RgP):kO:=[(R.kd,.tags R.tg)]
structure RgO(R:RgP)(ws:List Nat):Prop where
 t1:1<=R.tg.length
 t4:R.tg.length<=4
 ci:R.tg[R.ci]?=some R.ct
 wk:Wds 97 [R.kd,R.own]
 wt:∃tgs r,Wds 65 tgs/\r<4/\R.tg=tgs.take (1+r)
 wn:∃ns,Wds 97 ns/\ns.length=8/\∀k,k<8->ns[k]?=some (R.nm k)
 w0:ws≠[]
 w6:ws.length<=6
theorem Md{R:RgP}:∀{Z:List Nat}{k:Nat}{x:Dd},x∈lks R k Z->∃j w last,k<=j/\j<k+Z.length/\x=lkD R j w last/\(last=false->j+1<k+Z.length)
 |[],_,_,h=>by cases h
 |w::Z,k,x,h=>by
  rcases Zd.mp h with rfl|h
  .refine ⟨k,w,Z.isEmpty,ZG _,by rw[Zf];omega,rfl,λz=>?_⟩
   cases Z with
   |nil=>cases z
   |cons a b=>rw[Zf,Zf];omega
  .obtain ⟨j,w',last,h1,h2,h3,h4⟩:=Md h
   rw[Zf];exact⟨j,w',last,by omega,by omega,h3,λz=>by have:=h4 z;omega⟩
theorem Mc{R:RgP}:∀{ws:List Nat}{k j:Nat},k<=j->j<k+ws.length->∃w last,lkD R j w last∈lks R k ws
 |[],k,j,h1,h2=>by simp at h2;omega
 |w::ws,k,j,h1,h2=>by
  by_cases z:j=k
  .subst z
   exact⟨w,ws.isEmpty,Za⟩
  .rw [Zf]at h2
   obtain⟨Z,last,h⟩:=Mc (ws:=ws) (k:=k+1) (j:=j) (by omega) (by omega);exact⟨Z,last,ZM _ h⟩
theorem RJ{R:RgP}:∀(Z:List Nat)(k:Nat),(lks R k Z).map (λx=>x.1.1)=(List.range Z.length).map λi=>R.nm<|k+i
 |[],k=>rfl
 |w::Z,k=>by
  rw[Zf,jH,ZV,yj];show R.nm k::(lks R (k+1) Z).map (λx=>x.1.1)=_;rw[RJ Z (k+1)]
  congr 1
  refine vC λi _=>?_;show R.nm (k+1+i)=R.nm (k+(i+1));rw[show k+1+i=k+(i+1) by omega]
def RgO.inj(o:RgO R M)(L:i<8)(G:j<8)(e:R.nm i=R.nm j):i=j:=by
 obtain⟨N,w,l,a⟩:=o.wn;have Z:=a i L;have J:=a j G;rw[e]at Z;have T:=(ZF.mp Z).1;have O:=(ZF.mp J).1;exact(List.getElem_inj w.nd).mp<|(ZF.mp Z).2.trans (ZF.mp J).2.symm
def RF(R:RgP)(Z:List Nat):(rds R Z).map (λx=>x.1.1)=R.nm 7::(List.range<|Z.length+1).map R.nm:=by
 show R.nm 7::R.nm 0::(lks R 1 Z).map (λx=>x.1.1)=_;rw[RJ,jH,ZV,yj]
 congr 2
 refine vC λi _=>?_;show R.nm (1+i)=R.nm (i+1);rw[qa]
def Bv(o:RgO R G):Wds 97 ((rds R G).map λx=>x.1.1):=by
 rw[RF];have T:=o.w6
 have N:(R.nm 7::(List.range<|G.length+1).map R.nm).Nodup:=by
  rw[vK];exists λz=>?_
  .obtain ⟨i,J,e⟩:=ZW.mp z
   have:=vL.mp J;have:=o.inj (by omega) (by omega) e;omega
  .unfold List.Nodup
   rw[jx];refine List.Pairwise.imp_of_mem (λ{i j} J O n e=>n ?_) List.nodup_range;have:=vL.mp J;have:=vL.mp O;exact o.inj (by omega) (by omega) e
 obtain⟨M,w,l,a⟩:=o.wn
 have Z:∀y∈R.nm 7::(List.range<|G.length+1).map R.nm,y∈M:=λy L=>by
  rcases Zd.mp L with rfl|L
  .exact ZJ (a 7<|by omega)
  .obtain ⟨i,J,rfl⟩:=ZW.mp L
   have:=vL.mp J;exact ZJ<|a i<|by omega
 exact⟨N,λy h=>w.len y<|Z y h,λy h=>w.abc y<|Z y h⟩
def Kf:kvP [(x,y)]=[((Sum.inr x:Key),V.str y)]:=rfl
def Kd.tags{g:kF}(o:RgO R G):∀b∈R.tg.map Bd.tag,Kd (ks1 R) L g R.kd b:=λb J=>by
 obtain⟨t,Z,rfl⟩:=ZW.mp J;exact Kd.tag (ts:=R.tg) (by simp[Va]) Z
def sh1:Va (ks1 R) R.kd=some (.tags R.tg):=by simp[Va]
def LV(o:RgO R Z)(h:x∈rds R Z):Vv ((rds R Z).map (·.1)) x.1.1=some x.1.2:=LT (Bv o).nd h
def Cu{g:kF}(o:RgO R ws)(e:VC g (Sum.inr R.own)=some (.str R.kd))(G:last=false->k+1<1+ws.length):Kd (ks1 R) (Vv<|(rds R ws).map (·.1)) g R.kd (inB R k last):=by
 unfold inB
 cases last with
 |true=>exact Kd.name e
 |false=>
  have L:=G rfl;obtain⟨w,l,m⟩:=Mc (R:=R) (ws:=ws) (k:=1) (j:=k+1) (by omega) L;refine Kd.ask (ps:=[(R.own,R.kd)]) (LV o<|ZM _<|ZM _ m) rfl λi a p Z J=>?_
  match i,Z,J with
  |0,Z,J=>cases Z;cases J;exact Kd.name e
  |i+1,Z,J=>simp at Z
def LM{g:kF}{Z:Hds}(o:RgO R J)(h:Kd (ks1 R) Z g R.kd b):Kd (ks1 R) Z g R.kd (JX R w b):=by
 unfold JX
 split
 .exact Kd.choose sh1 h (by rw[ZA]) (Kd.tags o)
 .exact h
def Ct{g:kF}(o:RgO R Z)(h:Kd (ks1 R) (Vv<|(rds R Z).map (·.1)) g R.kd b):Kd (ks1 R) (Vv<|(rds R Z).map (·.1)) g R.kd (lkB R w b):=by
 unfold lkB
 split
 .refine Kd.choose sh1 (Kd.ask (ps:=[]) (LV o (x:=d7 R) Za) rfl λi a p G _=>by simp at G) (by rw[ZA]) λc J=>?_
  obtain⟨t,_,rfl⟩:=ZW.mp J;exact LM o h
 .exact LM o h
structure BOk(b:Bd)(n m:Nat):Prop where
 ok:b.ok
 dep:b.dep<=n
 size:b.size<=m
theorem Ma{α:Type}{f:α->Bd}:∀l:List α,(∀x∈l,(f x).ok)->Bd.oks (l.map f)
 |[],_=>by simp[Bd.oks]
 |x::l,h=>by rw[ZV];unfold Bd.oks;exact⟨h x Za,Ma l λy Z=>h y<|ZM _ Z⟩
theorem Th{α:Type}{f:α->Bd}{n:Nat}:∀l:List α,(∀x∈l,(f x).dep<=n)->Bd.deps (l.map f)<=n
 |[],_=>by simp[Bd.deps]
 |x::l,h=>by
  rw[ZV];unfold Bd.deps;have G:=h x Za;have J:=Th l λy Z=>h y<|ZM _ Z;omega
def AQ:BOk (inB R k last) 1 2:=by
 unfold inB;cases last <;> exact⟨by simp[Bd.ok,Bd.oks],by simp[Bd.dep,Bd.deps],by simp[Bd.size,Bd.sizes]⟩
def PH(o:RgO R G)(h:BOk b 1 2):BOk (JX R w b) 2 7:=by
 have J:=o.t1;have Z:=o.t4;refine⟨?_,?_,MZ Z h.size⟩
 .unfold JX
  split
  .unfold Bd.ok
   exact⟨h.ok,by rw[ZA],⟨J,by omega⟩,Ma _ λt _=>by unfold Bd.ok;trivial⟩
  .exact h.ok
 .unfold JX
  have:=h.dep
  split
  .unfold Bd.dep
   have:=Th (f:=Bd.tag) (n:=0) R.tg λt _=>by simp[Bd.dep]
   omega
  .omega
def AE(o:RgO R L)(h:BOk b 1 2):BOk (lkB R w b) 3 100:=by
 have G:=o.t1;have J:=o.t4;have Z:=PH (w:=w) o h;refine⟨?_,?_,LG J h.size⟩
 .unfold lkB
  split
  .unfold Bd.ok
   exact⟨by simp[Bd.ok,Bd.oks],by rw[ZA],⟨G,by omega⟩,Ma _ λt _=>Z.ok⟩
  .exact Z.ok
 .unfold lkB
  have:=Z.dep
  split
  .unfold Bd.dep
   have:=Th (f:=λ_=>JX R w b) (n:=2) R.tg λt _=>Z.dep;simp only[Bd.dep,Bd.deps];omega
  .omega
def KB(o:RgO R J):∀x∈rds R J,BOk x.2 3 100:=λx Z=>by
 rcases Zd.mp Z with rfl|Z
 .exact ⟨by simp[d7,Bd.ok],by simp[d7,Bd.dep],by simp[d7,Bd.size]⟩
 rcases Zd.mp Z with rfl|Z
 .exact ⟨by simp[d0,Bd.ok,Bd.oks],by simp[d0,Bd.dep,Bd.deps],by simp[d0,Bd.size,Bd.sizes]⟩
 .obtain ⟨j,w,last,h1,h2,rfl,_⟩:=Md Z
  exact AE o AQ
def RgO.tn(o:RgO R J):R.tg.Nodup:=by
 obtain⟨Z,r,w,h,e⟩:=o.wt;rw[e];exact w.nd.sublist<|vv _ _
def RgO.k(o:RgO R Z):RgK R (rds R Z):=⟨o.t1,o.t4,o.tn,o.ci,(Bv o).nd,Za,λx h=>(KB o x h).ok⟩
def c1(R:RgP):kP:=λ_=>1+R.tg.length
def RgO.kk(o:RgO R Z):KK 30 (c1 R) (λ_=>0) (ks1 R):=by
 rintro i y s h
 match i,h with
 |0,h=>
  cases h;exact⟨o.t1,o.t4,Y,Y,o.tn⟩
 |i+1,h=>simp at h
def RgO.kg(o:RgO R G):KG (ks1 R):=by
 obtain⟨Z,r,w,h,e⟩:=o.wt;have J:=o.wk;exists ⟨by simp,λy h=>J.len y ?_,λy h=>J.abc y ?_⟩,⟨Z,w,?_⟩
 .have:y=R.kd:=by simpa using h
  rw[this];exact Za
 .have:y=R.kd:=by simpa using h
  rw[this];exact Za
 .rintro i y ts hh
  match i,hh with
  |0,hh=>cases hh;exact⟨r,h,by rw[e];rfl⟩
  |i+1,hh=>simp at hh
 .rintro i1 i2 y1 y2 a b h1 h2
  match i1,h1 with
  |0,h1=>cases h1
  |i+1,h1=>simp at h1
def RgO.hd(o:RgO R G):∀x∈rds R G,Fq ((ks1 R).map (·.1)) (c1 R) 50 x.1:=by
 have M:=o.t4;have J:∀n,Fq ((ks1 R).map (·.1)) (c1 R) 50 (n,[],R.kd):=λn=>⟨(by show 0<=3;decide),λp h=>(by cases h),by simp,vN,λp h=>(by cases h),(by show 1<=50;decide)⟩
 have L:∀n,Fq ((ks1 R).map (·.1)) (c1 R) 50 (n,[(R.own,R.kd)],R.kd):=λn=>by
  exists by show 1<=3;decide,λp h=>?_,by simp,by simp,λp h=>?_
  .rw [ZQ]at h;subst h;simp
  .rw [ZQ]at h;subst h
   have m:R.own∈ [R.kd,R.own]:=by simp
   exact⟨(o.wk.len _ m).1,(o.wk.len _ m).2,o.wk.abc _ m⟩
  .show 1*(1+R.tg.length)<=50
   omega
 intro x Z;rcases Zd.mp Z with rfl|Z
 .exact J _
 rcases Zd.mp Z with rfl|Z
 .exact J _
 .obtain ⟨j,w,last,_,_,rfl,_⟩:=Md Z
  exact L _
def RgO.rt(o:RgO R ws):∀x∈rds R ws,K4.DRt (ks1 R) (rds R ws) x:=by
 have O:∀z M,Va (ks1 R) z=some (.tags M)->1<=M.length:=λz M e=>(o.kk.at e).1;have Z:R.kd∈(ks1 R).map (·.1):=by simp
 intro x J;have b:=KB o x J;refine⟨⟨b.ok,by have:=b.dep;omega,b.size⟩,?_⟩;refine Kd.kdn o.kg O 13 _ _ _ ?_ (by have:=b.dep;omega);rcases Zd.mp J with rfl|J
 .exact Kd.tag sh1 (ZJ o.ci)
 rcases Zd.mp J with rfl|J
 .have w1:1<1+ws.length:=by
   have:=List.length_pos_iff.mpr o.w0;omega
  have N:VC (putK (kvP []) (Sum.inr R.own)<|V.str R.kd) (Sum.inr R.own)=some (.str R.kd):=by rw[Vy,Zp rfl]
  obtain⟨w,l,m⟩:=Mc (R:=R) (ws:=ws) (k:=1) (j:=1) (by omega) w1;refine Kd.letb Y Z (Kd.ask (ps:=[(R.own,R.kd)]) (LV o<|ZM _<|ZM _ m) rfl λi a p G L=>?_) (Kd.name N)
  match i,G,L with
  |0,G,L=>cases G;cases L;exact Kd.name N
  |i+1,G,L=>simp at G
 .obtain ⟨j,w,last,G,L,rfl,h3⟩:=Md J
  exact Ct o<|Cu o (by show VC (kvP [(R.own,R.kd)]) _=_;rw[Kf];exact Vi Y) h3
end L2
namespace L2
open PySem
def Uy(R:RgP)(m:Nat):Nat->List Nat->List Dd
 |_,[]=>[]
 |k,w::ws=>lkD R k w (decide<|k=m)::Uy R m (k+1) ws
theorem RK:∀(Z:List Nat)(k:Nat),Uy R m k (Z++[w])=Uy R m k Z++[lkD R (k+Z.length) w (decide<|k+Z.length=m)]
 |[],k=>rfl
 |v::Z,k=>by
  show _::Uy R m (k+1) (Z++[w])=_::_;rw[RK Z (k+1),Zf,show k+1+Z.length=k+(Z.length+1) by omega]
  rfl
theorem NX:∀(Z:List Nat)(k:Nat),k+Z.length=m+1->Uy R m k Z=lks R k Z
 |[],k,_=>rfl
 |w::Z,k,h=>by
  rw[Zf]at h;show _::Uy R m (k+1) Z=_::_;rw[NX Z (k+1) (by omega)]
  congr 2
  cases Z with
  |nil=>simp at h;simp[h]
  |cons a b=>rw[Zf]at h;simp;omega
def BL(R:RgP):Dat->List Nat->Dat
 |B,[]=>B
 |B,w::ws=>BL R (.tup [B,JD (lkP R w)]) ws
theorem Ex:∀(Z:List Nat)(B:Dat),BL R B (Z++[w])=.tup [BL R B Z,JD (lkP R w)]
 |[],B=>rfl
 |v::Z,B=>Ex Z _
theorem Wi:∀(Z:List Nat)(B:Dat),J5 R B (Z++[w])=J5 R B Z++[BL R B Z]
 |[],B=>rfl
 |v::Z,B=>congrArg (B:: ·)<|Wi Z _
theorem Tf:∀(Z:List Nat)(B:Dat),dns R B (Z++[w])=dns R B Z++ dn1 (BL R B Z) w
 |[],B=>yu _
 |v::Z,B=>by
  show dn1 B v++ dns R _ (Z++[w])=(dn1 B v++ dns R _ Z)++ _;rw[Tf Z _,vk]
  rfl
def X3(R:RgP)(m:Nat)(ws:List Nat):kM:=if ws.length<m then J5 R B0 ws++[BL R B0 ws]else J5 R B0 ws
theorem OL:∀(Z:List Nat)(B:Dat),B.ti=true->(BL R B Z).ti=true
 |[],B,h=>h
 |w::Z,B,h=>OL Z _<|by simp[Dat.ti,Dat.tis,h,X7]
theorem Wz:∀(a:kM){b:kM},Dat.tis a=true->Dat.tis b=true->Dat.tis (a++ b)=true
 |[],b,_,h=>h
 |d::a,b,h1,h2=>by
  unfold Dat.tis at h1;have Z:=vw.mp h1;show Dat.tis (d::(a++ b))=true;unfold Dat.tis;rw[Z.1,Wz a Z.2 h2]
  rfl
def ON:B0.ti=true:=by simp[Dat.ti,Dat.tis,X7]
def Lx(x:Dd):(Uz x).ti=true:=by
 have:∀l:List (Str×Str),Dat.tis (l.map λp=>Dat.tup [.str p.1,.str p.2])=true:=λl=>by
  induction l with
  |nil=>simp[Dat.tis]
  |cons a l ih=>rw[ZV];unfold Dat.tis;rw[ih];simp[Dat.ti,Dat.tis]
 simp[Uz,Dat.ti,Dat.tis,this,Bd.ti]
structure LsT(H:Hp)(a:Addr)(ds:List Dat):Prop where
 ex:∃xs,H a=some (.lst xs)/\HasL H xs ds
 ti:Dat.tis ds=true
def LsT.mono(h:LsT H a L)(s:Same H M):LsT M a L:=⟨let⟨Z,G,J⟩:=h.ex;⟨Z,s _ _ G,J.mono s⟩,h.ti⟩
def LsT.tk(h:LsT H a M)(n:a≠p)(b:SameB p H Z)(t:TK H Z):LsT Z a M:=⟨let⟨J,L,G⟩:=h.ex;⟨J,b _ _ n L,JQ t _ h.ti G⟩,h.ti⟩
structure RS(H1 H:Hp)(p dl bl dn:Addr)(D1 D2 D3:List Dat):Prop where
 fr:∀b o,b≠p->b≠dl->b≠bl->b≠dn->H1 b=some o->H b=some o
 st:JJ H p
 l1:LsT H dl D1
 l2:LsT H bl D2
 l3:LsT H dn D3
 n:dl≠p/\bl≠p/\dn≠p/\dl≠bl/\dl≠dn/\bl≠dn
def RS.mono(r:RS M H p dl bl dn D1 D2 D3)(s:Same H N):RS M N p dl bl dn D1 D2 D3:=⟨λb o L G J Z e=>s _ _<|r.fr b o L G J Z e,r.st.sm s,r.l1.mono s,r.l2.mono s,r.l3.mono s,r.n⟩
def RS.but(r:RS N H p dl bl dn D1 D2 D3)(b:SameB p H J)(st:JJ J p):RS N J p dl bl dn D1 D2 D3:=
 have t:=r.st.tkB b
 ⟨λc o Z M L G e=>b _ _ Z<|r.fr c o Z M L G e,st,r.l1.tk r.n.1 b t,r.l2.tk r.n.2.1 b t,r.l3.tk r.n.2.2.1 b t,r.n⟩
def GY(s:JJ H p)(b:SameB a H Z)(n:a≠p):JJ Z p:=let⟨w,x,y,z,h⟩:=s;⟨w,x,y,z,b _ _ n.symm h⟩
def RS.app1(r:RS E H p dl bl dn D1 D2 D3)(e:H dl=some (.lst N))(O:Has H v d)(Z:d.ti=true)(b:SameB dl H M)(x:M dl=some (.lst<|N++[v])):RS E M p dl bl dn (D1++[d]) D2 D3:=by
 have t:=JT b e;obtain⟨⟨F,G,R⟩,J⟩:=r.l1;rw[e]at G;cases G;exact⟨λc o D L B T e=>b _ _ L<|r.fr c o D L B T e,GY r.st b r.n.1,⟨⟨_,x,Z7 (JQ t _ J R)<|Z5<|VO t _ Z O⟩,Wz _ J<|by simp[Dat.tis,Z]⟩,r.l2.tk r.n.2.2.2.1.symm b t,r.l3.tk r.n.2.2.2.2.1.symm b t,r.n⟩
def RS.app2(r:RS E H p dl bl dn D1 D2 D3)(e:H bl=some (.lst N))(O:Has H v d)(Z:d.ti=true)(b:SameB bl H M)(x:M bl=some (.lst<|N++[v])):RS E M p dl bl dn D1 (D2++[d]) D3:=by
 have t:=JT b e;obtain⟨⟨F,G,R⟩,J⟩:=r.l2;rw[e]at G;cases G;exact⟨λc o D B L T e=>b _ _ L<|r.fr c o D B L T e,GY r.st b r.n.2.1,r.l1.tk r.n.2.2.2.1 b t,⟨⟨_,x,Z7 (JQ t _ J R)<|Z5<|VO t _ Z O⟩,Wz _ J<|by simp[Dat.tis,Z]⟩,r.l3.tk r.n.2.2.2.2.2.symm b t,r.n⟩
def RS.app3(r:RS E H p dl bl dn D1 D2 D3)(e:H dn=some (.lst N))(O:Has H v d)(Z:d.ti=true)(b:SameB dn H M)(x:M dn=some (.lst<|N++[v])):RS E M p dl bl dn D1 D2 (D3++[d]):=by
 have t:=JT b e;obtain⟨⟨F,G,R⟩,J⟩:=r.l3;rw[e]at G;cases G;exact⟨λc o D B T L e=>b _ _ L<|r.fr c o D B T L e,GY r.st b r.n.2.2.1,r.l1.tk r.n.2.2.2.2.1 b t,r.l2.tk r.n.2.2.2.2.2 b t,⟨⟨_,x,Z7 (JQ t _ J R)<|Z5<|VO t _ Z O⟩,Wz _ J<|by simp[Dat.tis,Z]⟩,r.n⟩
def RS.tk(r:RS Z H p dl bl dn D1 D2 D3)(N:JJ Z p)(T:LsT Z dl E1)(R:LsT Z bl E2)(O:LsT Z dn E3):TK Z H:=λc B e=>by
 obtain⟨A,M,_⟩:=T.ex;obtain⟨F,L,_⟩:=R.ex;obtain⟨E,G,_⟩:=O.ex;obtain⟨D,J⟩:=N.at;exact r.fr c _ (Yv e J (by intro z;cases z)) (Yv e M (by intro z;cases z)) (Yv e L (by intro z;cases z)) (Yv e G (by intro z;cases z)) e
def NY{H:Hp}{Z:kH}{G:kM}(h:HasL H Z (G++[d])):∃M v,Z=M++[v]/\Has H v d:=by
 have l:=h.length;rw[ZL,yg]at l;have J:Z≠[]:=λz=>by rw[z]at l;simp at l
 exists Z.dropLast,Z.getLast J,(yw J).symm
 have e:Z[G.length]?=some (Z.getLast J):=by
  rw[List.getLast_eq_getElem,show G.length=Z.length-1 by omega];exact ZD _
 obtain⟨O,L,N⟩:=h.get e;rw[yh (ZG _),yr]at L;cases L;exact N
def Pe(ns:ky)(k:Nat):Str:=(ns[k]?).getD<|Str.ofString ""
def Pd{Z:ky}(h:k<Z.length):Z[k]?=some (Pe Z k):=by
 unfold Pe;rw[ZD h]
 rfl
def Xr(h:H a=some (.tup [.str "name",.str x])):Has H (.ref a) (Bd.name x).dat:=by
 unfold Bd.dat;exact Yu h<|Z4 Y4<|Z5 Y4
def Nz(h:H c=some (.tup [.str "ask",.str f,.ref b]))(J:H b=some (.tup [.ref a]))(Z:Has H (.ref a) (Bd.name x).dat):Has H (.ref c) (Bd.ask f [.name x]).dat:=by
 conv=>arg 3;unfold Bd.dat
 refine Yu h<|Z4 Y4<|Z4 Y4<|Z5<|Yu J ?_;unfold Bd.dats;refine Z4 Z ?_;unfold Bd.dats;exact Z6
end L2
namespace K4
open PySem L2
section
variable{C CK:Addr}
def Uv:Yh ["stream","names","tags","kind","own","constant","many","first","definitions","births","done","k","way","inner","body","place"] ["stream"] (Yc LI):=Y5
inductive SRg(C CK:Addr)(H:Hp)(Q:VK):List V->Prop
 |mk (p:Addr) (st:JJ H p)
  (q:∀r bk bl dn R ws d H',SameB p H H'->JJ H' p->H' r=some (.tup [.ref bk,.str (R.nm 0),.ref bl,.ref dn])->BI H' C CK bk (ks1 R) d (rds R ws)->RgO R ws->LsT H' bl (J5 R B0 ws)->LsT H' dn (dns R B0 ws)->bl≠p->dn≠p->Q (.ref r) H'):SRg C CK H Q [.ref p]
def SD(C CK:Addr):Sp:=λZ H Q _=>SRg C CK H Q Z
def CM(B:Blt mg)(F:Fun K "_law_ring" "_law_ring" LI f fd)(DT:Df P w K mg base (n+2) "_law_take" ["stream","many"] Gb)(DW:Df P w K mg base (n+2) "_law_words" ["stream","many","letters","ways"] W1)(DS:Df P w K mg base (n+2) "_law_small" ["stream","many"] Ru)(DL:Df P w K mg base (n+2) "_law_link" lkp SG)(mB:mg "Book"=some (.ref C))(MB:Mk K C g)(GB:Yf P w K mg base CX0 (n+1) g gd ["self","kinds","definitions"] (SM C CK))(bB:Binds K gd ["self","kinds","definitions"] []):Yf P w K mg base CX0 (n+3) f fd ["stream"] (SD C CK):=by
 refine F.oi Uv λcdv A outer s H vs Q E hr h=>?_;obtain⟨p,st,q⟩:=h;refine⟨_,YY (Yx 1 Uv.nd<|VS DS hr<|pa2 (pv 0)<|Ya)
  (YY (Yx 2 Uv.nd<|Vz Xg (VS DW hr<|pa4 (pv 0) (Ya) (Yy)<|Ya) JO<|JN<|Y9 Vn (Ya)<|VS DT hr<|pa2 (pv 0)<|Ya)
  (YY (Jq (VS DS hr<|pa2 (pv 0)<|Ya)<|Sg (n:=2) rfl (Ys (Yl 3 Uv.nd)<|Ys (Yl 4 Uv.nd) VN))
  (YY (Yx 5 Uv.nd<|Yi<|pa2 (Yo VB (pv 1)<|Ya)<|Yo VB (pv 2) (VS DT hr<|pa2 (pv 0)<|VA Y7 rfl B.len Zu (pa1<|pv 2)) λ_ _=>rfl)
  (YY (Yx 6 Uv.nd<|Y9 Vn (Ya)<|VS DT hr<|pa2 (pv 0)<|Ya)
  (YY (Yx 7 Uv.nd<|Yi<|pa5 (Yy) (pv 4) (pv 3) (Yi<|pa3 (Yy) (Yo VB (pv 1)<|Ya)<|Yi<|pa1<|Yi<|pa2 (Yy)<|pv 4)<|Yi<|pa2 (Yy)<|pv 4)
  (YY (Yx 8 Uv.nd<|V8<|pa2 (Yi<|pa4 (Yo VB (pv 1)<|Ya) (Yi<|VP) (pv 3)<|Yi<|pa2 (Yy)<|Yo (r:=Vb K) Yt (pv 5)<|Ya)<|Yi<|pa4 (Yo VB (pv 1)<|Ya) (Yi<|VP) (pv 3)<|pv 7)
  (YY (Yx 9 Uv.nd<|V8<|pa1<|Yi<|pa2 (Yi<|VP)<|Yi<|pa1<|Ya)
  (YY (Yx 10 Uv.nd<|V8<|VP)
  (YY (Jb Zv rfl (FI rfl B.range (pa2 Ya<|Y9 Vn (pv 6)<|Ya)) (Yl 11 Uv.nd)
   (YY (Yx 12 Uv.nd<|VS DT hr<|pa2 (pv 0)<|Ya)
  (YY (Yx 13 Uv.nd<|Yi<|pa2 (Yy)<|pv 4)
  (YY (Y1 (Yr QW (pv 11) (pv 6)<|Yz _) (YZ<|Yx 13 Uv.nd<|Yi<|pa3 (Yy) (Yo VB (pv 1) (Y9 Vn (pv 11)<|Ya) λ_ _=>rfl)<|Yi<|pa1<|Yi<|pa2 (Yy)<|pv 4) Yp)
  (YY (Jq (VS DL hr<|pa4 (pv 12) (pv 13) (pv 2)<|pv 5)<|Vd (n:=2) rfl (Ys (Yl 14 Uv.nd)<|Ys (Yl 15 Uv.nd) VN))
  (YY (VQ<|J1 Zz Z0 Z1 Vu (pv 8)<|pa1<|Yi<|pa4 (Yo VB (pv 1) (pv 11) λ_ _=>rfl) (Yi<|pa1<|Yi<|pa2 (pv 4)<|pv 3) (pv 3)<|pv 14)
  (YY (Y1 (Yr VZ (Y9 W9 (pv 12) Ya) Ya<|Yz _) (YZ<|VQ<|J1 Zz Z0 Z1 Vu (pv 10)<|pa1<|Yi<|pa2 (Yi<|pa2 (Yo VB (pv 9)<|Wr Ur Ya)<|Yi<|pa1<|Ya)<|Yo VB (pv 9)<|Wr Ur Ya) Yp)
  (YZ<|Y1 (Yr QW (pv 11) (pv 6)<|Yz _) (YZ<|VQ<|J1 Zz Z0 Z1 Vu (pv 9)<|pa1<|Yi<|pa2 (Yo VB (pv 9)<|Wr Ur Ya)<|pv 15) Yp))))))))
  (YZ<|Ym<|Yi<|pa4 (Xm MB GB hr rfl mB bB .nil Y2 (pa2 (V8<|pa1<|Yi<|pa2 (pv 3)<|Yi<|pa2 (Yy)<|VY JL rfl B.tuple JB (pa1<|pv 2))<|pv 8)) (Yo VB (pv 1)<|Ya) (pv 9)<|pv 10)))))))))),?_⟩
 dsimp only[Vf,Cx.nox,Cx.wish];show let T0:=_;let T1:=_;let T2:=VE _ T1 _;let T3:=_;let T4:=Yk (VE _ T3 _) T2;let T5:=Yk _ T4;let T6:=Yk _ T5;let T7:=_;let T8:=Yk (VE _ T7 _) T6;let T9:=Yk _ T8;let T10:=Yk _ T9;let T11:=Yk (XH _ _ T10) T0;let T12:=Yk _ T11;let T13:=Yk _ T12;let T14:=Yk _ T13;let T15:=Yk _ T14;let T16:=Yk _ T15;let T17:=Yk _ T16;let T18:=Yk _ T17;let T19:=Yk _ T18;Yk _ T19 _ _ _
 intros
 refine⟨p,8,Y,st,by decide,λnl ns H1 s1 st1 fnl O1 hnl l8 wn=>?_⟩;refine⟨p,4,65,2,?_,st1,.inr Y,by decide,.inl ⟨by decide,by decide⟩,λtl0 D H2 b2 st2 ft nt ht l4 wt=>?_⟩
 .rw [<-RQ];rfl
 refine⟨p,4,Y,st2,by decide,by decide,λr H3 r0 r4 b3 st3=>?_⟩;obtain⟨rr,rfl⟩:=vY r0;refine⟨_,Y,tl0,_,Y,Z3<|b3.sb _ _ nt ht,λtl htl=>?_⟩;dsimp only;rw[show(1:Int)+(rr:Int)=((1+rr:Nat):Int) by omega,Np _ _ (by rw[ZA,l4];omega),<-j3];refine up_in htl _ λH4 s4 g4=>?_;have st4:=st3.sm s4;have F6:tl≠p:=st3.ne htl;have lt:(D.take<|1+rr).length=1+rr:=by rw[ZN];omega
 refine⟨p,2,Y,st4,by decide,λkl ks2 H5 b5 st5 fkl nkl hkl l2 wk=>?_⟩
 obtain⟨kd,own,rfl⟩:∃kd own,ks2=[kd,own]:=by
  match ks2,l2 with
  |[a,b],_=>exact⟨a,b,Y⟩
 exists _,Z3 hkl,Y;have hnl5:H5 nl=some (.lst<|ns.map V.str):=b5 _ _ O1<|s4 _ _<|b3.sb _ _ O1<|b2 _ _ O1 hnl;have htl5:H5 tl=some (.lst<|(D.take<|1+rr).map V.str):=b5 _ _ F6 g4;have nmk:∀k:Nat,k<8->ns[k]?=some (Pe ns k):=λk hk=>Pd (by omega);refine⟨_,_,Z3 hnl5,Mt<|nmk 7<|by decide,?_⟩;refine⟨tl,_,Y,.inl<|Z3 htl5,p,_,rfl,st5,by rw[ZA];omega,by rw[ZA];omega,λci H6 c0 cl b6 st6=>?_⟩;obtain⟨ci,rfl⟩:=vY c0;rw[ZA]at cl;have cl':ci<(D.take<|1+rr).length:=by omega
 have hci:(D.take<|1+rr)[ci]?=some ((D.take<|1+rr)[ci]):=ZD cl';have htl6:=b6.sb _ _ F6 htl5;have hnl6:=b6.sb _ _ O1 hnl5;refine⟨_,_,Z3 htl6,Mt hci,sl 2,λca hca=>?_⟩;refine up_in hca _ λH7 s7 g7=>?_;have st7:=st6.sm s7;refine⟨p,6,Y,st7,by decide,by decide,λm H8 m0 m6 b8 st8=>?_⟩;obtain⟨m,rfl⟩:=vY m0
 let R:RgP:=⟨Pe ns,D.take<|1+rr,own,kd,(D.take<|1+rr)[ci],ci⟩
 have tk8:TK H7 H8:=st7.tkB b8.sb;have I3:H8 ca=some (.tup [.str (R.nm 7),.str R.ct]):=tk8 _ _ g7;have T:H8 nl=some (.lst<|ns.map V.str):=b8.sb _ _ O1<|s7 _ _ hnl6;have L1:H8 tl=some (.lst<|R.tg.map V.str):=b8.sb _ _ F6<|s7 _ _ htl6;have y:∀k:Nat,k<8->atI (ns.map V.str) (k:Int)=some (.str<|R.nm k):=λk hk=>Mt<|nmk k hk;have mk:(1:Int)+(m:Int)=((1+m:Nat):Int):=by omega
 refine⟨_,_,Z3 T,y 1<|by decide,sl 2,λa1 ha1=>?_⟩;refine up_in ha1 _ λH9 s9 g9=>⟨sl 1,λa2 ha2=>?_⟩;refine up_in ha2 _ λH10 s10 g10=>⟨sl 3,λa3 ha3=>?_⟩;refine up_in ha3 _ λH11 s11 g11=>⟨sl 2,λa4 ha4=>?_⟩;refine up_in ha4 _ λH12 I8 g12=>⟨sl 5,λfi hfi=>?_⟩;refine up_in hfi _ λH13 F2 g13=>?_;have L:=s9.trans<|s10.trans<|s11.trans<|I8.trans F2
 have I1:Has H13 (.ref fi) (d0 R).2.dat:=by
  show Has H13 _ (Bd.letb own kd (.ask (R.nm 1) [.name own])<|.name own).dat
  conv=>arg 3;unfold Bd.dat
  exact Yu g13<|Z4 Y4<|Z4 Y4<|Z4 Y4<|Z4 (Nz (F2 _ _<|I8 _ _ g11) (F2 _ _<|I8 _ _<|s11 _ _ g10)<|Xr<|F2 _ _<|I8 _ _<|s11 _ _<|s10 _ _ g9)<|Z5<|Xr<|F2 _ _ g12
 refine⟨_,_,Z3<|L _ _ T,y 7<|by decide,sl 0,λe1 he1=>?_⟩;refine up_in he1 _ λH14 s14 g14=>⟨_,_,Z2<|s14 _ _<|L _ _ I3,at1,sl 2,λa5 ha5=>?_⟩;refine up_in ha5 _ λH15 s15 g15=>⟨sl 4,λa6 ha6=>?_⟩;refine up_in ha6 _ λH16 s16 g16=>?_;have J:=s14.trans<|s15.trans s16;refine⟨_,_,Z3<|J _ _<|L _ _ T,y 0<|by decide,sl 0,λe2 he2=>?_⟩;refine up_in he2 _ λH17 F1 g17=>⟨sl 4,λa7 ha7=>?_⟩;refine up_in ha7 _ λH18 D0 g18=>⟨sl 2,λdl I2=>?_⟩;refine up_in I2 _ λH19 s19 g19=>?_;have G:=F1.trans<|D0.trans s19
 have hd7:Has H19 (.ref a6) (Uz<|d7 R):=by
  refine Yu (G _ _ g16)<|Z4 Y4<|Z4 (Yu (G _ _<|s16 _ _<|s15 _ _ g14) Z6)<|Z4 Y4<|Z5 ?_;show Has H19 _ (Bd.tag R.ct).dat;unfold Bd.dat;exact Yu (G _ _<|s16 _ _ g15)<|Z4 Y4<|Z5 Y4
 have hd0:Has H19 (.ref a7) (Uz<|d0 R):=Yu (s19 _ _ g18)<|Z4 Y4<|Z4 (Yu (s19 _ _<|D0 _ _ g17) Z6)<|Z4 Y4<|Z5<|I1.mono<|J.trans G;refine⟨sl 0,λe3 he3=>?_⟩;refine up_in he3 _ λH20 R8 g20=>⟨sl 1,λa8 ha8=>?_⟩;refine up_in ha8 _ λH21 M2 g21=>⟨sl 2,λa9 ha9=>?_⟩;refine up_in ha9 _ λH22 G3 g22=>⟨sl 1,λbl D1=>?_⟩;refine up_in D1 _ λH23 R7 g23=>⟨sl 0,λdn R1=>?_⟩;refine up_in R1 _ λR4 J2 g24=>?_;have M:=R8.trans<|M2.trans<|G3.trans R7;have R5:=L.trans<|J.trans<|G.trans<|M.trans J2;have st13:=st8.sm L;have st19:=(st13.sm J).sm G;have st23:=st19.sm M;have st24:=st23.sm J2;have nel:∀{H:Hp}{a b:Addr}{o:HO},H a=some o->H b=none->b≠a:=λh1 h2=>(Yb h1 h2).symm;have st18:=st8.sm<|L.trans<|J.trans<|F1.trans D0;have st22:=st19.sm<|R8.trans<|M2.trans G3;have G1:H22 dl=some (.lst [.ref a6,.ref a7]):=G3 _ _<|M2 _ _<|R8 _ _ g19;have eB0:X3 R (1+m) []=[B0]:=by unfold X3;rw[Zp (by simp;omega)];rfl
 have rs:RS R4 R4 p dl bl dn ((d7 R::d0 R::Uy R (1+m) 1 []).map Uz) (X3 R (1+m) []) (dns R B0 []):=by
  refine⟨λb o _ _ _ _ e=>e,st24,⟨⟨_,J2 _ _<|R7 _ _ G1,Z4 (hd7.mono<|M.trans J2)<|Z5<|hd0.mono<|M.trans J2⟩,by simp[Uy,Dat.tis,Lx]⟩,⟨⟨_,J2 _ _ g23,?_⟩,?_⟩,⟨⟨_,g24,Z6⟩,by simp[dns,Dat.tis]⟩,⟨st18.ne I2,st22.ne D1,st23.ne R1,?_,?_,?_⟩⟩
  .rw [eB0]
   exact Z5<|Yu (J2 _ _<|R7 _ _ g22)<|Z4 (Yu (J2 _ _<|R7 _ _<|G3 _ _<|M2 _ _ g20) Z6)<|Z5<|JC<|J2 _ _<|R7 _ _<|G3 _ _ g21
  .rw [eB0]
   unfold Dat.tis;rw[ON]
   rfl
  .exact Yb G1 D1
  .exact Yb (R7 _ _ G1) R1
  .exact Yb g23 R1
 have F9:=R5 _ _ T;have F7:=R5 _ _ L1;have hca24:=R5 _ _ I3;have o1:nl≠dl/\nl≠bl/\nl≠dn:=⟨Yb (D0 _ _<|F1 _ _<|J _ _<|L _ _ T) I2,Yb ((L.trans<|J.trans<|G.trans<|R8.trans<|M2.trans G3) _ _ T) D1,Yb ((L.trans<|J.trans<|G.trans M) _ _ T) R1⟩;have o2:tl≠dl/\tl≠bl/\tl≠dn:=⟨Yb (D0 _ _<|F1 _ _<|J _ _<|L _ _ L1) I2,Yb ((L.trans<|J.trans<|G.trans<|R8.trans<|M2.trans G3) _ _ L1) D1,Yb ((L.trans<|J.trans<|G.trans M) _ _ L1) R1⟩;clear T L1 I3 hd7 hd0 I1 G1 g23 g24 g22 g21 g20 g19 g18 g17 g16 g15 g14 g13 g12 g11 g10 g9;have sb24:SameB p H R4:=(s1.trans<|b2.trans<|b3.sb.trans<|s4.sb.trans<|b5.trans<|b6.sb.trans<|s7.sb.trans b8.sb).trans R5.sb
 have bld:∀{x:Addr}{o:HO},H x=some o->x≠p->x≠dl/\x≠bl/\x≠dn:=λh n=>by
  have h8:H8 _=some _:=b8.sb _ _ n<|s7 _ _<|b6.sb _ _ n<|b5 _ _ n<|s4 _ _<|b3.sb _ _ n<|b2 _ _ n<|s1 _ _ n h;exact⟨Yb ((L.trans<|J.trans<|F1.trans D0) _ _ h8) I2,Yb ((L.trans<|J.trans<|G.trans<|R8.trans<|M2.trans G3) _ _ h8) D1,Yb ((L.trans<|J.trans<|G.trans M) _ _ h8) R1⟩
 refine⟨1,_,Y,⟨by omega,by omega,by omega,by omega⟩,?_⟩;rw[mk,show(((1+m:Nat):Int)+1-1).toNat=1+m by omega];have tn:R.tg.Nodup:=wt.nd.sublist<|vv _ _;have I9:=rs
 let I:kI:=λi U H'=>∃Z z11 z12 z13 I6 I5,U=[some (.ref p),some<|.ref nl,some<|.ref tl,some<|.str kd,some<|.str own,some<|.ref ca,some<|.int ((1+m:Nat):Int),some<|.ref fi,some<|.ref dl,some<|.ref bl,some<|.ref dn,z11,z12,z13,I6,I5]/\Z.length=i/\RS R4 H' p dl bl dn ((d7 R::d0 R::Uy R (1+m) 1 Z).map Uz) (X3 R (1+m) Z) (dns R B0 Z)
 refine Tb (n:=1+m) I ⟨[],_,_,_,_,_,Y,Y,rs⟩ ?_ ?_
 .rintro BB RR i U H25 hi ⟨Z,z11,z12,z13,I6,I5,rfl,lw,rs⟩
  have fr:∀{H'},RS R4 H' p dl bl dn ((d7 R::d0 R::Uy R (1+m) 1 Z).map Uz) (X3 R (1+m) Z) (dns R B0 Z)->H' nl=some (.lst<|ns.map V.str)/\H' tl=some (.lst<|R.tg.map V.str)/\H' ca=some (.tup [.str (R.nm 7),.str R.ct]):=λr=>⟨r.fr _ _ O1 o1.1 o1.2.1 o1.2.2 F9,r.fr _ _ F6 o2.1 o2.2.1 o2.2.2 F7,(r.tk I9.st I9.l1 I9.l2 I9.l3) _ _ hca24⟩;have ki:(1:Int)+(i:Int)=((1+i:Nat):Int):=by omega
  rw[ki];refine⟨p,4,Y,rs.st,by decide,by decide,λw H26 w0 w4 b26 st26=>?_⟩;obtain⟨w,rfl⟩:=vY w0;have rs26:=rs.but b26.sb st26;refine⟨sl 2,λx1 hx1=>?_⟩;refine up_in hx1 _ λH27 I7 g27=>?_;have F5:=rs26.mono I7;dsimp only[Vl];refine Jw (λU H'=>∃x,U=[some (.ref p),some<|.ref nl,some<|.ref tl,some<|.str kd,some<|.str own,some<|.ref ca,some<|.int ((1+m:Nat):Int),some<|.ref fi,some<|.ref dl,some<|.ref bl,some<|.ref dn,some<|.int ((1+i:Nat):Int),some<|.int (w:Nat),some x,I6,I5]/\RS R4 H' p dl bl dn ((d7 R::d0 R::Uy R (1+m) 1 Z).map Uz) (X3 R (1+m) Z) (dns R B0 Z)/\Has H' x (inB R (1+i)<|decide<|1+i=1+m).dat) ?_ ?_
  .rintro U H28 ⟨x,rfl,rs28,hx⟩
   obtain⟨f1,f2,f3⟩:=fr rs28;refine⟨R,w,x,_,tl,ca,by omega,hx,f2,f3,hci,tn,by show(D.take<|1+rr).length<=4;omega,λr v pa R3 X hr hv hpa=>?_⟩;have O:=rs28.mono X;exists _,Z2 hr,Y;obtain⟨xs,e,_⟩:=O.l1.ex;exists .inl ⟨Y,_,Z3 e⟩;refine⟨_,_,Z3<|X _ _ f1,y _<|by omega,sl 2,λy1 hy1=>?_⟩;refine up_in hy1 _ λI4 E2 g30=>⟨sl 1,λy2 hy2=>?_⟩;refine up_in hy2 _ λE1 s31 g31=>⟨sl 4,λy3 hy3=>?_⟩;refine up_in hy3 _ λH32 t g32=>?_;have u:=E2.trans<|s31.trans t;have rs32:=O.mono u;have e32:=u _ _ e
   have lx:xs.length<=20:=by
    obtain⟨xs',e',h'⟩:=O.l1.ex;rw[e]at e';cases e';have:=h'.length
    have ll:∀(Z:List Nat)(k:Nat),(Uy R (1+m) k Z).length=Z.length:=λZ=>by
     induction Z with
     |nil=>intro k;rfl
     |cons a b ih=>intro k;show(Uy R (1+m) (k+1) b).length+1=_;rw[ih];rfl
    rw[ZA,Zf,Zf,ll]at this;omega
   refine⟨dl,_,_,Y,Y,e32,Yj<|by omega,?_⟩;refine fld_in dl _ λH33 b33 g33=>?_
   have hd:Has H32 (.ref y3) (Uz<|lkD R (1+i) w<|decide<|1+i=1+m):=by
    refine Yu g32<|Z4 Y4<|Z4 (Yu (t _ _ g31)<|Z5<|Yu (t _ _<|s31 _ _ g30)<|Z4 Y4<|Z5 Y4)<|Z4 Y4<|Z5<|hv.mono u
   have j:=rs32.app1 e32 hd (Lx _) b33 g33
   have eD:((d7 R::d0 R::Uy R (1+m) 1 Z).map Uz)++[Uz (lkD R (1+i) w<|decide<|1+i=1+m)]=(d7 R::d0 R::Uy R (1+m) 1 (Z++[w])).map Uz:=by
    rw[RK,lw];simp
   rw[eD]at j;have tk33:=JT b33 e32;have F8:H33 pa=some (.tup<|(lkP R w).map V.int):=tk33 _ _<|u _ _ hpa;have eB:X3 R (1+m) Z=J5 R B0 Z++[BL R B0 Z]:=by unfold X3;rw[Zp (by omega)]
   rw[eB]at j;dsimp only[QO];refine Jw (λU H'=>U=[some (.ref p),some<|.ref nl,some<|.ref tl,some<|.str kd,some<|.str own,some<|.ref ca,some<|.int ((1+m:Nat):Int),some<|.ref fi,some<|.ref dl,some<|.ref bl,some<|.ref dn,some<|.int ((1+i:Nat):Int),some<|.int (w:Nat),some x,some v,some (.ref pa)]/\RS R4 H' p dl bl dn ((d7 R::d0 R::Uy R (1+m) 1 (Z++[w])).map Uz) (J5 R B0 Z++[BL R B0 Z]) (dns R B0<|Z++[w])/\H' pa=some (.tup<|(lkP R w).map V.int)) ?_ ?_
   .rintro U H34 ⟨rfl,rs34,hpa34⟩
    have lw':(Z++[w]).length=i+1:=by rw[ZL,yg,lw]
    refine⟨_,Y,AL (λzc=>?_) λzc=>?_⟩
    .have zc':1+i<1+m:=by have:=Zt zc;omega
     obtain⟨bs,D2,S2⟩:=rs34.l2.ex;obtain⟨ys,vl,rfl,S1⟩:=NY S2;have lb:=S2.length;rw[ZL,ZL,X2]at lb;simp only[yg]at lb;refine⟨.inl ⟨Y,_,Z3 D2⟩,1,Y,_,vl,Z3 D2,UX _ _,sl 2,λy4 hy4=>?_⟩;refine up_in hy4 _ λH35 G2 g35=>?_;have rs35:=rs34.mono G2;have e35:=G2 _ _ D2;refine⟨bl,_,_,Y,Y,e35,Yj (by rw[ZL,yg];omega),?_⟩;refine fld_in bl _ λH36 b36 g36=>?_
     have hb:Has H35 (.ref y4) (BL R B0<|Z++[w]):=by
      rw[Ex];exact Yu g35<|Z4 (S1.mono G2)<|Z5<|JC<|G2 _ _ hpa34
     have F4:=rs35.app2 e35 hb (OL _ _ ON) b36 g36;exists Z++[w],_,_,_,_,_,Y,lw';have eN:X3 R (1+m) (Z++[w])=J5 R B0 Z++[BL R B0 Z]++[BL R B0 (Z++[w])]:=by unfold X3;rw[Zp (by omega),Wi]
     rw[eN];exact F4
    .have zc':¬1+i<1+m:=λz=>zc<|decide_eq_true<|by omega
     exists Z++[w],_,_,_,_,_,Y,lw';have eN:X3 R (1+m) (Z++[w])=J5 R B0 Z++[BL R B0 Z]:=by unfold X3;rw[Zq (by omega),Wi]
     rw[eN];exact rs34
   .intro N hN
    by_cases z:w / 2=1
    .refine ⟨⟨by decide,by decide⟩,rfl,_,rfl,VH (by simp;omega) ?_⟩
     obtain⟨bs,D2,S2⟩:=j.l2.ex;obtain⟨ys,vl,rfl,S1⟩:=NY S2;obtain⟨ds',e33,h33⟩:=j.l3.ex;have ld:=h33.length;have lc:=GQ R Z B0
     have lc2:∀Z:List Nat,cost Z<=2*Z.length:=λZ=>by
      induction Z with
      |nil=>simp[cost]
      |cons a b ih=>unfold cost;rw[Zf];split <;> omega
     have lc3:=lc2 Z;refine⟨.inl ⟨Y,_,Z3 e33⟩,1,Y,_,vl,Z3 D2,UX _ _,sl 1,λy4 hy4=>?_⟩;refine up_in hy4 _ λH34 s34 g34=>⟨sl 2,λy5 hy5=>?_⟩;refine up_in hy5 _ λH35 G2 g35=>⟨1,Y,_,vl,Z3<|G2 _ _<|s34 _ _ D2,UX _ _,sl 2,λy6 hy6=>?_⟩;refine up_in hy6 _ λH36 s36 g36=>?_;have S:=s34.trans<|G2.trans s36;have F4:=j.mono S;have e36:=S _ _ e33;refine⟨dn,_,_,Y,Y,e36,Yj<|by omega,?_⟩;refine fld_in dn _ λH37 b37 g37=>?_;have hdd:Has H36 (.ref y6) (.tup [.tup [BL R B0 Z,JD [0]],BL R B0 Z]):=Yu g36<|Z4 (Yu (s36 _ _ g35)<|Z4 (S1.mono S)<|Z5<|JC<|s36 _ _<|G2 _ _ g34)<|Z5<|S1.mono S;have rs37:=F4.app3 e36 hdd (by simp[Dat.ti,Dat.tis,OL _ _ ON,X7]) b37 g37;refine hN _ _ ⟨Y,?_,(JT b37 e36) _ _<|S _ _ F8⟩;have eN:dns R B0 (Z++[w])=dns R B0 Z++[.tup [.tup [BL R B0 Z,JD [0]],BL R B0 Z]]:=by rw[Tf];unfold dn1;rw[Zp z]
     rw[eN];exact rs37
    .refine ⟨⟨by decide,by decide⟩,rfl,_,rfl,Y0 (by simp;omega)<|hN _ _ ⟨rfl,?_,F8⟩⟩
     have eN:dns R B0 (Z++[w])=dns R B0 Z:=by rw[Tf];unfold dn1;rw[Zq z,yu]
     rw[eN];exact j
  .intro N hN
   obtain⟨f1,f2,f3⟩:=fr F5;refine⟨_,Y,AL (λzc=>?_) λzc=>?_⟩
   .have zc':1+i<1+m:=by have:=Zt zc;omega
    have eb:inB R (1+i) (decide<|1+i=1+m)=.ask (R.nm<|1+i+1) [.name R.own]:=by
     rw[show decide (1+i=1+m)=false from Zy (by omega)]
     rfl
    refine⟨_,_,Z3 f1,by rw[show(((1+i:Nat):Int)+1)=((1+i+1:Nat):Int) by omega];exact y _<|by omega,sl 2,λy1 hy1=>?_⟩;refine up_in hy1 _ λH28 E3 g28=>⟨sl 1,λy2 hy2=>?_⟩;refine up_in hy2 _ λR3 X g29=>⟨sl 3,λy3 hy3=>?_⟩;refine up_in hy3 _ λI4 E2 g30=>hN _ _ ⟨_,Y,F5.mono<|E3.trans<|X.trans E2,?_⟩;rw[eb];exact Nz g30 (E2 _ _ g29)<|Xr<|E2 _ _<|X _ _ g28
   .have zc':¬1+i<1+m:=λz=>zc<|decide_eq_true<|by omega
    have eb:inB R (1+i) (decide<|1+i=1+m)=.name R.own:=by
     rw[show decide (1+i=1+m)=true from decide_eq_true (by omega)]
     rfl
    refine hN _ _ ⟨_,Y,F5,?_⟩;rw[eb];exact Xr g27
 .rintro U H25 ⟨Z,z11,z12,z13,I6,I5,rfl,lw,rs⟩
  have eB:X3 R (1+m) Z=J5 R B0 Z:=by unfold X3;rw[Zq (by omega)]
  have eL:Uy R (1+m) 1 Z=lks R 1 Z:=NX Z 1 (by omega);rw[eB,eL]at rs;have hnl':=rs.fr _ _ O1 o1.1 o1.2.1 o1.2.2 F9;have htl':=rs.fr _ _ F6 o2.1 o2.2.1 o2.2.2 F7;have rg:RgO R Z:=⟨by show 1<=(D.take<|1+rr).length;omega,by show(D.take<|1+rr).length<=4;omega,hci,wk,⟨D,rr,wt,by omega,rfl⟩,⟨ns,wn,l8,nmk⟩,λz=>by rw[z]at lw;simp at lw;omega,by omega⟩;refine⟨tl,_,Y,.inl ⟨Z3 htl',λt1 ht1=>?_⟩⟩;refine up_in ht1 _ λH26 s26 g26=>⟨sl 2,λt2 ht2=>?_⟩;refine up_in ht2 _ λH27 I7 g27=>⟨sl 2,λt3 ht3=>?_⟩;refine up_in ht3 _ λH28 E3 g28=>⟨sl 1,λkl2 hkl2=>?_⟩;refine up_in hkl2 _ λR3 X g29=>?_;have l:=s26.trans<|I7.trans<|E3.trans X;have O:=rs.mono l;intro x dx hx hdx hne;have sX:Same R3 (upd (upd R3 dx<|.own x) x<|.ins C dx []):=λb o e=>by rw[Yg (Yb e hx),Yg (Yb e hdx)];exact e
  have tx:upd (upd R3 dx<|.own x) x (.ins C dx []) x=some (.ins C dx []):=Ye;generalize upd (upd R3 dx<|.own x) x (.ins C dx [])=I4 at tx sX |-;have R6:=O.mono sX;obtain⟨zs,e30,h30⟩:=R6.l1.ex
  have hk:HasL I4 [.ref t3] ((ks1 R).map NZ):=by
   refine Z5<|Yu (sX _ _<|X _ _ g28)<|Z4 Y4<|Z5 ?_;unfold Shp.dat;exact Yu (sX _ _<|X _ _<|E3 _ _ g27)<|Z4 Y4<|Z5<|Yu (sX _ _<|X _ _<|E3 _ _<|I7 _ _ g26)<|U3 _
  have lr:(rds R Z).length=2+Z.length:=by
   have:=congrArg List.length<|RF R Z;rw[ZA,Zf,ZA,qd]at this;omega
  refine⟨x,dx,kl2,dl,_,zs,ks1 R,c1 R,λ_=>0,rds R Z,tx,sX _ _ g29,hk,rg.kk,by simp,rg.kg,by simp,by simp,e30,h30,by omega,by omega,Bv rg,rg.hd,rg.rt,λE1 keep bi=>⟨Y,?_⟩⟩;have D3:SameB x I4 E1:=keep;have F3:∀{b o},R3 b=some o->b≠x:=λh=>Yb h hx;have S4:TK I4 E1:=λa ys h=>D3 _ _ (Yv h tx (by intro z;cases z)) h;refine⟨_,_,Z3<|D3 _ _ (F3<|l _ _ hnl')<|sX _ _<|l _ _ hnl',y 0<|by decide,sl 4,λr hr=>?_⟩;refine up_in hr _ λH32 t g32=>?_;obtain⟨xs2,e2,h2⟩:=O.l2.ex;obtain⟨xs3,e3,h3⟩:=O.l3.ex;have l2':LsT E1 bl (J5 R B0 Z):=R6.l2.tk (F3 e2) D3 S4;have l3':LsT E1 dn (dns R B0 Z):=R6.l3.tk (F3 e3) D3 S4;obtain⟨y4,hp29⟩:=O.st.at;have px:p≠x:=F3 hp29;have st31:JJ E1 p:=let⟨a,b,c,d,h⟩:=R6.st;⟨a,b,c,d,D3 _ _ px h⟩
  refine q r x bl dn R Z _ H32 ?_ (st31.sm t) g32 (bi.mono t) rg (l2'.mono t) (l3'.mono t) rs.n.2.1 rs.n.2.2.1;intro b o n0 e;obtain⟨n1,n2,n3⟩:=bld e n0;have e25:=rs.fr b o n0 n1 n2 n3<|sb24 _ _ n0 e;have e29:=l _ _ e25;exact t _ _<|D3 _ _ (F3 e29)<|sX _ _ e29
end
end K4
namespace L2
open PySem
theorem Dat.sm_up:∀(n:Nat)(d:Dat),d.sm n->d.sm (n+1)
 |0,d,h=>by unfold Dat.sm at h;exact h.elim
 |n+1,.tup ds,h=>by
  unfold Dat.sm at h |-;exact⟨h.1,λd Z=>Dat.sm_up n d<|h.2 d Z⟩
 |n+1,.lst ds,h=>by
  unfold Dat.sm at h |-;exact⟨h.1,λd Z=>Dat.sm_up n d<|h.2 d Z⟩
 |n+1,.str _,h=>by unfold Dat.sm;trivial
 |n+1,.int _,h=>by unfold Dat.sm;trivial
 |n+1,.bl _,h=>by unfold Dat.sm;trivial
 |n+1,.non,h=>by unfold Dat.sm;trivial
structure Gd(n:Nat)(d:Dat):Prop where
 dep:d.dep<=n
 sm:d.sm (n+1)
 nt:d.nt=true
def Gd.up(g:Gd n d):Gd (n+1) d:=⟨jw g.dep,Dat.sm_up _ _ g.sm,g.nt⟩
theorem Gd.ups(g:Gd n d):∀k,Gd (n+k) d
 |0=>g
 |k+1=>(g.ups k).up
def Gd.le(g:Gd n d)(h:n<=m):Gd m d:=by
 have:=g.ups<|m-n;rw[show n+(m-n)=m by omega]at this;exact this
theorem Mo:∀{Z:kM},(∀d∈Z,d.dep<=n)->Dat.deps Z<=n
 |[],_=>by unfold Dat.deps;exact Zc _
 |d::Z,h=>by
  unfold Dat.deps;have L:=h d Za;have G:=Mo λe J=>h e<|ZM _ J;omega
theorem DD:∀{Z:kM},(∀d∈Z,d.nt=true)->Dat.nts Z=true
 |[],_=>by unfold Dat.nts;rfl
 |d::Z,h=>by unfold Dat.nts;rw[h d Za,DD λe J=>h e (ZM _ J)];rfl
def Gd.tup(l:J.length<=1000)(h:∀d∈J,Gd n d):Gd (n+1) (.tup J):=
 ⟨by unfold Dat.dep;have:=Mo λd Z=>(h d Z).dep;omega,by unfold Dat.sm;exact⟨l,λd Z=>(h d Z).sm⟩,by unfold Dat.nt;exact DD λd Z=>(h d Z).nt⟩
def Gd.lst(l:J.length<=1000)(h:∀d∈J,Gd n d):Gd (n+1) (.lst J):=
 ⟨by unfold Dat.dep;have:=Mo λd Z=>(h d Z).dep;omega,by unfold Dat.sm;exact⟨l,λd Z=>(h d Z).sm⟩,by unfold Dat.nt;exact DD λd Z=>(h d Z).nt⟩
def Gd.two(G:Gd n a)(J:Gd n b):Gd (n+1) (.tup [a,b]):=Gd.tup (by simp) λd Z=>by
 rcases Zd.mp Z with rfl|Z
 .exact G
 .rw [ZQ]at Z;subst Z;exact J
def Gd.str:Gd n (.str x):=⟨by simp[Dat.dep],by unfold Dat.sm;trivial,by simp[Dat.nt]⟩
def Gd.int:Gd n (.int x):=⟨by simp[Dat.dep],by unfold Dat.sm;trivial,by simp[Dat.nt]⟩
def Gd.way(l:Z.length<=1000):Gd 1 (JD Z):=Gd.tup (n:=0) (by rw[ZA];exact l) λd J=>by
 obtain⟨k,_,rfl⟩:=ZW.mp J;exact Gd.int
def EO:(lkP R w).length<=2:=by
 have:(onP w).length<=1:=by unfold onP;split <;> simp
 unfold lkP
 split
 .rw [Zf];omega
 .omega
def OO:Gd 2 B0:=Gd.two (n:=1) (Gd.tup (n:=0) (by simp) λd Z=>by(cases Z))<|Gd.way<|by simp
theorem Ep:∀(Z:List Nat)(B:Dat)(n:Nat),Gd (n+1) B->∀d∈J5 R B Z,Gd (n+1+Z.length) d
 |[],B,n,g,d,h=>by cases h
 |w::Z,B,n,g,d,h=>by
  rw[Zf];rcases Zd.mp h with rfl|h
  .exact g.le (by omega)
  .have:=Ep Z _ (n+1) (Gd.two g<|(Gd.way (by have:=EO (R:=R) (w:=w);omega)).le<|by omega) d h
   exact this.le<|by omega
theorem Dk:∀(Z:List Nat)(B:Dat)(n:Nat),Gd (n+1) B->∀d∈dns R B Z,Gd (n+1+2+Z.length) d
 |[],B,n,g,d,h=>by cases h
 |w::Z,B,n,g,d,h=>by
  rw[Zf];unfold dns at h;rcases ZX.mp h with h|h
  .unfold dn1 at h
   split at h
   .rw [ZQ]at h
    subst h;exact(Gd.two (Gd.two g<|(Gd.way<|by simp).le<|by omega)<|g.le<|by omega).le<|by omega
   .cases h
  .have:=Dk Z _ (n+1) (Gd.two g<|(Gd.way (by have:=EO (R:=R) (w:=w);omega)).le<|by omega) d h
   exact this.le<|by omega
def fdD(R:RgP)(ws:List Nat):Dat:=.tup [.tup [.str "ring",.lst (J5 R B0 ws)],.lst (dns R B0 ws)]
theorem Ek:∀Z:List Nat,cost Z<=2*Z.length
 |[]=>by simp[cost]
 |w::Z=>by
  have:=Ek Z;unfold cost;rw[Zf]
  split <;> omega
def Qm(R:RgP)(Z:List Nat)(h:Z.length<=6):(dns R B0 Z).length<=12:=by
 have:=GQ R Z B0;have:=Ek Z;omega
def C4(h:Z.length<=6):Gd 12 (fdD R Z):=by
 have L:=X2 R Z B0;have G:=Qm R Z h;refine Gd.two (n:=11) ((Gd.two (n:=9) Gd.str<|Gd.lst (n:=8) (by omega) λd J=>(Ep Z B0 1 OO d J).le<|by omega).le<|by omega)<|Gd.lst (n:=10) (by omega) λd J=>(Dk Z B0 1 OO d J).le<|by omega
theorem HasL.takeK:∀{J:kM}{Z:kH}{H:Hp}(k:Nat),HasL H Z J->HasL H (Z.take k) (J.take k)
 |[],[],_,k,h=>by rw[List.take_nil,List.take_nil];exact Z6
 |[],_::_,_,k,h=>by unfold HasL at h;exact h.elim
 |_::_,[],_,k,h=>by unfold HasL at h;exact h.elim
 |d::J,x::Z,_,0,h=>Z6
 |d::J,x::Z,_,k+1,h=>by
  unfold HasL at h;exact Z4 h.1<|HasL.takeK k h.2
def UT{H:Hp}(h:H a=some (.lst Z))(g:HasL H Z J):Has H (.ref a) (.lst J):=by
 unfold Has;exact⟨a,Z,Y,h,g⟩
def IR(st:JJ H p)(e:H r=some o)(n:∀Z,o≠.lst Z):r≠p:=λz=>by
 obtain⟨a,b,c,d,h⟩:=st;rw[z,h]at e;exact n _ (ZT e).symm
def W.ni(w:W):w.dat.ni=true:=Dat.ni_tn<|W.tn w
def BI.st(b:BI H C U t B d E)(s:SameB p H F)(st:JJ H p):BI F C U t B d E:=by
 have go:∀{r:Addr}{o:HO},H r=some o->(∀N,o≠.lst N)->F r=some o:=λh n=>s _ _ (IR st h n) h;have L:Pen default 0 H p:=⟨st⟩;obtain⟨A,I,rfl,G⟩:=b;obtain⟨X,S,e,J,Z⟩:=G.so;refine⟨A,I,Y,go G.ins (λ_ z=>nomatch z),⟨X,S,e,⟨go J.ins (λ_ z=>nomatch z),go J.sh (λ_ z=>nomatch z),go J.wo (λ_ z=>nomatch z),go J.he (λ_ z=>nomatch z),go J.pd (λ_ z=>nomatch z),go J.tk (λ_ z=>nomatch z),go J.pk (λ_ z=>nomatch z),J.nd⟩,?_⟩,go G.td (λ_ z=>nomatch z),G.ke,Xx s L _ (Dat.nis_of<|GX E) G.va,G.nd⟩;refine⟨Z.ke,λy R h=>let⟨v,O,M⟩:=Z.sh y R h;⟨v,O,La s L _ (Dat.ni_of<|Shp.st R) M⟩,λy h=>?_,Z.he,Z.pd,Z.tk,Z.pk,Z.ln⟩;obtain⟨l,N,O,M,D⟩:=Z.wo y h;have T:=Pf W.ni<|Y3 B 3 y;exact⟨l,N,O,s _ _ (L.lst M D T) M,Xx s L _ T D⟩
end L2
namespace K4
open PySem L2
section
variable{C CK:Addr}
abbrev Es:ky:=["book","F","worths","most","whole"]
def UM:Yh ["script","cell","stream","book","f","births","done","begun","most","full","turn","found"] ["script"] (Yc DU):=Y5
inductive zE(K:W.Frag)(H:Hp)(Q:VK):List V->Prop
 |mk (a:Addr) (ns:List Int) (hS:SqL K H a (ns.map V.int)) (hl:ns.length<=63) (q:∀H',Q (.bl true) H'):zE K H Q [.ref a]
def EB(K:W.Frag):Sp:=λZ H Q _=>zE K H Q Z
def L4{ns:kB}(J G:kz):∃Z:kB,Uq (ns.map V.int) J G=Z.map V.int:=by
 unfold Uq;exact⟨_,by rw[<-List.map_drop,<-j3]⟩
def Sv(B:Blt mg)(F:Fun K "law" "law" DU f fd)(DS:Df P w K mg base (n+13) "_law_stream" ["cell"] NB)(DT:Df P w K mg base (n+13) "_law_take" ["stream","many"] Gb)(DR:Df P w K mg base (n+13) "_law_ring" ["stream"] (SD C CK))(DN:Df P w K mg base (n+13) "_law_no_truths" ["thing"] (E7 13))(mA:mg "asked"=some (.ref fa))(kA:W.keepIn K (.ref fa)=true)(GA:Yf P w K mg base CX0 (n+13) fa fad Es (Gf P w C CK 1))(b5:Binds K fad Es [])(b4:Binds K fad Es [.bool false]):Yf P w K mg base CX0 (n+14) f fd ["script"] (EB K):=by
 have DA:Df P w K mg base (n+13) "asked" Es (Gf P w C CK 1):=⟨_,_,mA,kA,b5,GA⟩;refine F.oi UM λcdv A S2 s H vs Q E hr h=>?_;obtain⟨a,ns,hS,hl,q⟩:=h;refine⟨_,YY (Jb Zv Y (JP<|Vz Xg (Y9 B5 (VY Uj rfl B.list JU (pa1<|pv 0))<|Y9 Sk (V8<|pa1<|Ya)<|VY Fj rfl B.int Fm (pa1<|Jc VZ (VA Y7 rfl B.len Zu (pa1<|pv 0)) Ya rfl)) JO<|JN Ya) (Yl 1 UM.nd)
   (YY (Yx 2 UM.nd<|VS DS hr<|pa1<|pv 1)
  (YY (Jq (VS DR hr<|pa1<|pv 2)<|EK rfl (Yl 3 UM.nd) (Yl 4 UM.nd) (Yl 5 UM.nd) (Yl 6 UM.nd))
  (YY (Yx 7 UM.nd<|Y9 Vn (Y9 Vn (Ya)<|VA Y7 rfl B.len Zu (pa1<|pv 5))<|VA Y7 rfl B.len Zu (pa1<|pv 6))
  (YY (Yx 8 UM.nd<|Yo VB (V8<|pa2 (pv 7)<|Ya) (VS DT hr<|pa2 (pv 2)<|Ya) λ_ _=>rfl)
  (YY (Yx 9 UM.nd<|Jc VZ (VS DT hr<|pa2 (pv 2)<|Ya) Ya rfl)
  (YY (Jb Zv rfl (UQ rfl B.range (pa1 Ya)) (Yl 10 UM.nd)
   (YY (Yx 11 UM.nd<|VS DA hr<|pa5 (pv 3) (pv 4) (Yi<|VP) (pv 8)<|pv 9)
  (YY (Y1 (PW.pt<|UP (Yr (G6 hr) (pv 11) (Yi<|pa2 (Yi<|pa2 (Yy)<|pv 5)<|pv 6)<|Yz _)<|Jo<|Jk<|JR<|VS DN hr<|pa1<|pv 11) (YZ<|V5) Yp)
  (YY (VQ<|J1 Zz Z0 Z1 Vu (Yo (r:=Vb K) Yt (Yo (r:=Vb K) Yt (pv 11)<|Ya)<|Ya)<|pa1<|Yi<|VP)
  (YZ<|VQ<|J1 Zz Z0 Z1 Vu (Yo (r:=Vb K) Yt (pv 11)<|Ya)<|pa1<|Yi<|pa2 (Yi<|VP)<|Vs)))))
  (YY (Yx 11 UM.nd<|Jd GA hr rfl mA kA b4 (.cons (show RelV (V.bl false) (Value.bool false)from rfl) .nil) Y2 (pa4 (pv 3) (pv 4) (Yi<|VP)<|Y9 Kc (pv 7)<|Ya))
  (YZ<|Y1 (PW.pt<|UP (Yr (G6 hr) (Yo (r:=Vb K) Yt (pv 11)<|Ya) (Yi<|pa1<|Yy)<|Yz _)<|Jo<|Yr (G6 hr) (Yo (r:=Vb K) Yt (pv 11)<|Ya) (Vz Xg (pv 6) JO<|JN<|VA Y7 rfl B.len Zu (pa1<|Yo (r:=Vb K) Yt (pv 11)<|Ya))<|Yz _) (YZ<|V5) Yp)))))))))
  (YZ<|Ym<|Xn),?_⟩
 dsimp only[Vf,Cx.nox,Cx.wish];show let T0:=_;let T1:=_;let T2:=VE _ T1 _;let T3:=Yk _ T2;let T4:=_;let T5:=Yk _ T4;let T6:=_;let T7:=Yk (VE _ T6 _) T5;let T8:=Yk _ T7;let T9:=Yk (XH _ _ T8) T3;let T10:=Yk _ T9;let T11:=Yk _ T10;let T12:=Yk _ T11;let T13:=Yk _ T12;let T14:=Yk _ T13;Yk (XH _ _ T14) T0 _ _ _
 intros
 refine⟨a,_,Y,.inl hS,λl1 h1=>?_⟩;refine up_in h1 _ λH1 s1 g1=>⟨sl 1,λl2 h2=>?_⟩;refine up_in h2 _ λH2 s2 g2=>⟨a,_,Y,.inl<|s2.seq<|s1.seq hS,rfl,.inr ⟨_,rfl,?_⟩⟩;refine⟨l2,_,[.int 0],Y,Y,g2,?_,?_,?_,λl3 h3=>?_⟩
 .split <;> decide
 .split <;> decide
 .split <;> decide
 obtain⟨zs,ez,lz⟩:∃zs:kB,(List.replicate (if decide (V.int ((ns.map V.int).length:Nat)=V.int 0)=true then(1:Int)else 0).toNat [V.int 0]).flatten=zs.map V.int/\zs.length<=1:=by
  split
  .exact ⟨[0],rfl,ZG _⟩
  .exact ⟨[],rfl,by decide⟩
 rw[ez];refine up_in h3 _ λH3 s3 g3=>?_;refine⟨l1,l3,_,_,Y,Y,s3 _ _<|s2 _ _ g1,g3,Zh (Yj (by rw[ZA,ZA];omega)),λl4 h4=>?_⟩;rw[<-ZK];refine up_in h4 _ λH4 s4 g4=>⟨63,Y,l4,_,Y,Z3 g4,λl5 h5=>?_⟩;obtain⟨ms,em⟩:=L4 (ns:=ns++ zs) none<|some 63;rw[em];refine up_in h5 _ λH5 s5 g5=>⟨⟨_,Z3 g5⟩,?_⟩
 let I:kI:=λi U Hi=>Same H5 Hi/\∃z1 z2 z3 z4 z5 z6 z7 z8 z9 t y:kL,U=[some (.ref a),z1,z2,z3,z4,z5,z6,z7,z8,z9,t,y]
 refine Nj (xs:=ms.map V.int) I ⟨Z8 _,_,_,_,_,_,_,_,_,_,_,_,Y⟩ (λi U Hi _ z=>Z3<|z.1 _ _ g5) ?_ λU Hi _=>q Hi;rintro i x U Hi hx ⟨si,z1,z2,z3,z4,z5,z6,z7,z8,z9,t,y,rfl⟩;rw[ZH]at hx;obtain⟨ce,_,rfl⟩:=Zj.mp hx;refine⟨ce,Y,λp H6 f6 b6 I5=>?_⟩;refine⟨p,I5,λr bk bl dn R g d H7 s7 J2 hr' bi rg lb ld nb nd=>?_⟩;exists _,Z2 hr',Y;have w6:=rg.w6;have lbt:=X2 R g B0;have ldt:=Qm R g w6;have lc:=GQ R g B0;have w1:1<=g.length:=List.length_pos_iff.mpr rg.w0;obtain⟨bxs,hb1,hb2⟩:=lb.ex;obtain⟨dxs,hd1,hd2⟩:=ld.ex;have lbx:=hb2.length;have ldx:=hd2.length;exists bl,_,Y,.inl<|Z3 hb1,dn,_,rfl,.inl<|Z3 hd1;have eb:(1:Int)+(bxs.length:Int)+(dxs.length:Int)=((1+cost g:Nat):Int):=by omega
 dsimp only[rI0,UU];rw[eb];refine⟨sl 2,λla F6=>?_⟩;refine up_in F6 _ λH8 s8 g8=>?_;have S4:la≠p:=J2.ne F6;refine⟨p,2,Y,J2.sm s8,by decide,by decide,λrr H9 r0 r2 b9 I4=>?_⟩
 obtain⟨mo,m1,m2,hat⟩:∃mo:Nat,1+cost g<=mo/\mo<=500/\atI [V.int ((1+cost g:Nat):Int),V.int 500] rr=some (V.int (mo:Nat)):=by
  rcases show rr=0\/rr=1 by omega with rfl|rfl
  .exact ⟨1+cost g,ZG _,by omega,rfl⟩
  .exact ⟨500,by omega,by omega,rfl⟩
 exists _,_,Z3<|b9.sb _ _ S4 g8,hat;refine⟨p,2,Y,I4,by decide,by decide,λr1 X _ _ b10 st10=>?_⟩;have O:SameB p H7 X:=(s8.sb.trans b9.sb).trans b10.sb;have R1:BI X C CK bk (ks1 R) d (rds R g):=bi.st O J2;have L1:TK H7 X:=J2.tkB O;have F3:LsT X bl (J5 R B0 g):=lb.tk nb O L1;have M2:LsT X dn (dns R B0 g):=ld.tk nd O L1;have E3:Same Hi X:=((b6.sb.trans s7).trans O).same f6
 obtain⟨L,Z,rfl⟩:∃L Z,g=L::Z:=by
  match g,rg.w0 with
  |a::b,_=>exact⟨a,b,Y⟩
 have K0:=rg.k;have h0:d0 R∈rds R (L::Z):=ZM _ Za;have hm:∀x∈lks R 1 (L::Z),x∈rds R (L::Z):=λx h=>ZM _<|ZM _ h;have l6:1+Z.length<=6:=by rw[Zf]at w6;omega
 let full:Bool:=decide<|V.int r1=V.int 1
 exists Y,2,Y,by decide,by decide
 let I2:kI:=λj U Hj=>Same X Hj/\∃t y:kL,U=[some (.ref a),some<|.int ce,some<|.ref p,some<|.ref bk,some<|.str<|R.nm 0,some<|.ref bl,some<|.ref dn,some<|.int ((1+cost (L::Z):Nat):Int),some<|.int (mo:Nat),some<|.bl full,t,y]
 refine Tb (n:=2) I2 ⟨Z8 _,_,_,Y⟩ ?_ ?_
 .rintro BB RR j U Hj hj ⟨sj,t,y,rfl⟩
  obtain⟨jj,Rr,SR,gs,D3,R4⟩:=Gv (mo:=mo) K0 h0 hm l6<|by omega
  obtain⟨eR,eD⟩:Rr=.ring (J5 R B0 (L::Z))/\dnL SR=dns R B0 (L::Z):=by
   rcases R4 with⟨_,q2,q3⟩|⟨q1,_⟩
   .exact ⟨q2,q3⟩
   .omega
  refine⟨sl 0,λgv R7=>?_⟩;refine up_in R7 _ λI1 R3 D0=>?_;have G:=sj.trans R3;refine⟨bk,gv,ks1 R,d,rds R (L::Z),d0 R,mo,full,jj,Rr,SR,R1.mono G,h0,D0,Y,by omega,m2,gs,D3,λrs er t1 S1 c p1 vs1 I3 F9 k S G2 fp hp F5 fl hl D=>?_,λz=>by rw[eR]at z;cases z⟩;rw[eR]at er;cases er;rw[eD]at D;have F7:Has F9 (.ref t1) (fdD R (L::Z)):=Yu S<|Z4 (Yu G2<|Z4 Y4<|Z5<|UT hp F5)<|Z5<|UT hl D;have F2:=(F3.mono G).mono k;have v:=(M2.mono G).mono k;refine⟨sl 2,λt2 R6=>?_⟩;refine up_in R6 _ λH13 T R8=>⟨sl 2,λt3 R5=>?_⟩;refine up_in R5 _ λF8 G1 l=>?_;have J:=T.trans G1
  have hrt:Has F8 (.ref t3) (fdD R (L::Z)):=by
   obtain⟨xb,eb1,eb2⟩:=(F2.mono J).ex;obtain⟨xd,D1,G3⟩:=(v.mono J).ex;exact Yu l<|Z4 (Yu (G1 _ _ R8)<|Z4 Y4<|Z5<|UT eb1 eb2)<|Z5<|UT D1 G3
  have gd:=C4 (R:=R) w6;refine⟨fdD R (L::Z),fdD R (L::Z),F7.mono J,hrt,by have:=gd.dep;omega,_,Y,Y0 (by rw[Dat.pq_self];simp) ?_⟩;refine⟨_,fdD R (L::Z),F7.mono J,gd.sm,λH15 I9=>⟨_,Y,Y0 (by rw[gd.nt];simp) ?_⟩⟩;have N:=J.trans I9;refine⟨_,_,Z2<|N _ _ S,at0,_,_,Z2<|N _ _ G2,at1,.inl ⟨rfl,_,Z3<|N _ _ hp⟩,sl 0,λy1 hy1=>?_⟩;refine up_in hy1 _ λH16 I8 g16=>?_;have M:=N.trans I8;have lvs:=F5.length;have F1:=D.length;have O1:=M _ _ hp;refine⟨p1,_,_,Y,Y,O1,Yj<|by omega,?_⟩;refine fld_in p1 _ λH17 E1 g17=>?_;have E2:=JT E1 O1
  obtain⟨zl,F4,lzl⟩:∃zl,H17 c=some (.lst zl)/\zl.length<=100:=by
   by_cases z:c=p1
   .subst z
    exact⟨_,g17,by rw[ZL,yg];omega⟩
   .exact ⟨_,E1 _ _ z<|M _ _ hl,by omega⟩
  refine⟨_,_,Z2<|E2 _ _<|M _ _ S,at1,.inl ⟨rfl,_,Z3 F4⟩,sl 0,λy2 hy2=>?_⟩;refine up_in hy2 _ λH18 I7 g18=>⟨sl 2,λy3 hy3=>?_⟩;refine up_in hy3 _ λH19 I6 g19=>?_;have u:=I7.trans I6;refine⟨c,_,_,Y,Y,u _ _ F4,Yj<|by omega,?_⟩;refine fld_in c _ λH20 b20 g20=>?_;refine⟨?_,_,_,Y⟩;intro b o e;have D2:=G _ _ e;have e16:=M _ _<|k _ _ D2;exact b20 _ _ (Yb D2 fl)<|u _ _<|E1 _ _ (Yb D2 fp) e16
 .rintro U Hj ⟨sj,t,y,rfl⟩
  obtain⟨jj,Rr,SR,gs,D3,R4⟩:=Gv (mo:=cost (L::Z)) K0 h0 hm l6 (by rw[lc];omega)
  obtain⟨eR,m,eD⟩:Rr=.dry/\∃m,dnL SR=(dns R B0 (L::Z)).take m:=by
   rcases R4 with⟨q1,_⟩|⟨_,q2,m,q3⟩
   .omega
   .exact ⟨q2,m,q3⟩
  refine⟨sl 0,λgv R7=>?_⟩;refine up_in R7 _ λI1 R3 D0=>?_;have G:=sj.trans R3;show Gf P w C CK 1 [.ref bk,.str<|R.nm 0,.ref gv,.int<|((1+cost (L::Z):Nat):Int)-1,.bl false] I1 _ E0;rw[show(((1+cost (L::Z):Nat):Int)-1)=((cost (L::Z):Nat):Int) by omega];refine⟨bk,gv,ks1 R,d,rds R (L::Z),d0 R,cost (L::Z),false,jj,Rr,SR,R1.mono G,h0,D0,Y,by omega,by omega,gs,D3,λrs er=>(by rw[eR]at er;cases er),λ_ t1 S1 c I3 F9 k S G2 fl hl D=>?_⟩;rw[eD]at D;have v:=(M2.mono G).mono k;obtain⟨xd,D1,G3⟩:=v.ex;have lxd:=G3.length;have F1:=D.length;refine⟨_,_,Z2 S,at0,sl 1,λt2 R6=>?_⟩;refine up_in R6 _ λH13 T R8=>?_;refine⟨.tup [.str "dry"],.tup [.str "dry"],Yu (T _ _ G2)<|Z5 Y4,Yu R8<|Z5 Y4,by simp[Dat.dep,Dat.deps],_,rfl,Y0 (by rw[Dat.pq_self];simp) ?_⟩;refine⟨_,_,Z2<|T _ _ S,at1,_,_,Z2<|T _ _ S,at1,c,_,rfl,.inl<|Z3<|T _ _ hl,_,rfl,dn,_,rfl,Z3<|T _ _ D1,λt3 R5=>?_⟩;refine up_in R5 _ λF8 G1 l=>?_;have J:=T.trans G1;rw[F1]at l;rw[Np _ _ (by rw[lxd,ZN];omega)]at l;have gdd:Gd 11 (.lst<|(dns R B0 (L::Z)).take m):=Gd.lst (n:=10) (by rw[ZN];omega) λd hd=>(Dk (L::Z) B0 1 OO d<|Zk hd).le<|by omega
  have e2:(dns R B0 (L::Z)).take ((dns R B0 (L::Z)).take m).length=(dns R B0 (L::Z)).take m:=by
   rw[ZN,List.take_eq_take_iff];omega
  have h3:=HasL.takeK ((dns R B0 (L::Z)).take m).length<|G3.mono J;rw[e2]at h3;refine⟨.lst<|(dns R B0 (L::Z)).take m,.lst<|(dns R B0 (L::Z)).take m,UT (J _ _ hl)<|D.mono J,UT l h3,by have:=gdd.dep;omega,_,rfl,Y0 (by rw[Dat.pq_self];simp) ?_⟩;refine⟨?_,_,_,_,_,_,_,_,_,_,_,_,Y⟩;exact si.trans<|E3.trans<|G.trans<|k.trans J
end
def At(K:W.Frag)(f:Addr)(x q:Str)(st:Stmt):Prop:=∃(L:Value)(G:kD)(kV M J:Value)(O:kD)(Z N:Value)(sl:Array (Option Value)),K.lookup f=some ⟨L,G,.func<|W.fnOf x q (JI st) (Vm st) (Yc st) .none kV M J O Z N,sl⟩/\W.codeIn K Z q=true/\W.keepIn K (.ref f)=true
def At.of{K:W.Frag}{f:Addr}{x q:Str}{st:Stmt}{L:Value}{G:kD}{kV M J:Value}{O:kD}{Z N:Value}{sl:Array (Option Value)}(l:K.lookup f=some ⟨L,G,.func<|W.fnOf x q (JI st) (Vm st) (Yc st) .none kV M J O Z N,sl⟩)(d:W.codeIn K Z q=true)(k:W.keepIn K (.ref f)=true):At K f x q st:=⟨L,G,kV,M,J,O,Z,N,sl,l,d,k⟩
section
variable{K:W.Frag}{x q:Str}{st:Stmt}{f:Addr}{fd:FuncData}{ps:ky}
def BA1(x q:Str)(st:Stmt)(ps:ky)(us:kq):Prop:=∀(kV Z G:Value)(M:kD)(J L:Value),bindArgs (W.fnOf x q (JI st) (Vm st) (Yc st) .none kV Z G M J L) ⟨us,[]⟩=pure (ps.zip us)
def OP:Nat->(List Value->Prop)->Prop
 |0,R=>R []
 |n+1,R=>∀a,OP n λus=>R (a::us)
theorem OP.at:∀{n:Nat}{R:List Value->Prop}{Z:kq},OP n R->Z.length=n->R Z
 |0,_,[],h,_=>h
 |_+1,R,a::_,h,e=>OP.at (R:=λZ=>R (a::Z)) (h a)<|Nat.succ.inj e
def _root_.L2.Fun.bn(F:Fun K x q st f fd)(ps:ky)(h:OP ps.length (BA1 x q st ps)):Binds K fd ps []:=F.binds λ_ _ _ _ _ _ _ e=>h.at e _ _ _ _ _ _
def _root_.L2.Fun.b1(F:Fun K x q st f fd)(p:Str)(h:∀a,BA1 x q st [p] [a]:=by exact λ_ _ _ _ _ _ _=>Y):Binds K fd [p] []:=F.bn [p] h
def _root_.L2.Fun.b2(F:Fun K x q st f fd)(p Z:Str)(h:∀a b,BA1 x q st [p,Z] [a,b]:=by exact λ_ _ _ _ _ _ _ _=>Y):Binds K fd [p,Z] []:=F.bn [p,Z] h
def _root_.L2.Fun.b3(F:Fun K x q st f fd)(p J Z:Str)(h:∀a b c,BA1 x q st [p,J,Z] [a,b,c]:=by exact λ_ _ _ _ _ _ _ _ _=>Y):Binds K fd [p,J,Z] []:=F.bn [p,J,Z] h
def _root_.L2.Fun.b4(F:Fun K x q st f fd)(p G J Z:Str)(h:∀a b c d,BA1 x q st [p,G,J,Z] [a,b,c,d]:=by exact λ_ _ _ _ _ _ _ _ _ _=>Y):Binds K fd [p,G,J,Z] []:=F.bn [p,G,J,Z] h
end
def At.fn{K:W.Frag}{f:Addr}{x q:Str}{st:Stmt}(h:At K f x q st):∃Z,Fun K x q st f Z:=by
 obtain⟨_,_,_,_,_,_,_,_,_,l,d,k⟩:=h;exact⟨_,Lk (st:=st) l d k⟩
def GA(K:W.Frag)(x:Str)(f:Addr)(st:Stmt):Prop:=W.nsIn K mainGlobals x=some (some<|.ref f)/\At K f x x st
def GR(K:W.Frag)(a:Addr)(y x:Str)(f:Addr)(st:Stmt):Prop:=W.nsIn K a y=some (some<|.ref f)/\At K f x x st
def GM(K:W.Frag)(C:Addr)(x q:Str)(f:Addr)(st:Stmt):Prop:=(W.findIn K (.ref C) x=some (some<|.ref f)/\W.isFn K (.ref f)=true)/\At K f x q st
def GN(K:W.Frag)(x:Str):Prop:=W.nsIn K mainGlobals x=some none
def GC(K:W.Frag)(x:Str)(f:Addr):Prop:=W.nsIn K mainGlobals x=some (some<|.ref f)
def GV(K:W.Frag)(x:Str)(v:V)(u:Value):Prop:=W.nsIn K mainGlobals x=some (some u)/\RelV v u
def GF(K:W.Frag)(C:Addr)(x:Str):Prop:=W.findIn K (.ref C) x=some none
def GA.go{K:W.Frag}{h:Heap}{J:Str->Option Value}{x:Str}{f:Addr}{st:Stmt}(X:K.In h)(G:h.Ns mainGlobals J)(a:GA K x f st):∃Z,Fun K x x st f Z/\W.keepIn K (.ref f)=true/\J x=some (.ref f):=
 let⟨Z,F⟩:=a.2.fn
 ⟨Z,F,F.kp,W.mg_of X G a.1⟩
def GR.go{K:W.Frag}{c:Addr}{y x:Str}{f:Addr}{st:Stmt}(a:GR K c y x f st):∃Z,Fun K x x st f Z/\W.keepIn K (.ref f)=true/\W.nsIn K c y=some (some<|.ref f):=
 let⟨Z,F⟩:=a.2.fn
 ⟨Z,F,F.kp,a.1⟩
def GM.go{K:W.Frag}{c:Addr}{x q:Str}{f:Addr}{st:Stmt}(a:GM K c x q f st):∃Z,Fun K x q st f Z/\VI K c x f:=
 let⟨Z,F⟩:=a.2.fn
 ⟨Z,F,a.1.1,a.1.2,F.kp⟩
def GV.go{K:W.Frag}{h:Heap}{Z:Str->Option Value}{x:Str}{v:V}{u:Value}(X:K.In h)(G:h.Ns mainGlobals Z)(a:GV K x v u):Z x=some u/\RelV v u:=⟨W.mg_of X G a.1,a.2⟩
structure CA(K:W.Frag)(C:Addr):Prop where
 pg:W.plainGet K C Str.empty=true
 hd:W.hasDictIn K C=true
 po:W.plainOver K C=true
 sa:W.findIn K (.ref C) "__setattr__"=some (some (.builtin "object.__setattr__"))
 ma:W.makesIn K C=true
 kc:W.keepIn K (.ref C)=true
def AtD(K:W.Frag)(f:Addr)(x q:Str)(st:Stmt):Prop:=∃(R:Value)(O:kD)(kV B N:Value)(E:kD)(Z D:Value)(sl:Array (Option Value))(T:Addr)(M:Value)(L:kD)(J:Nat)(G:Array (Option Value)),K.lookup f=some ⟨R,O,.func<|W.fnOf x q (JI st) (Vm st) (Yc st) (.ref T) kV B N E Z D,sl⟩/\W.codeIn K Z q=true/\W.keepIn K (.ref f)=true/\K.lookup T=some ⟨M,L,.seq #[.bool false] J,G⟩
def AtD.of{K:W.Frag}{f T:Addr}{x q:Str}{st:Stmt}{R M:Value}{O L:kD}{kV B N:Value}{E:kD}{Z D:Value}{sl G:Array (Option Value)}{J:Nat}(l:K.lookup f=some ⟨R,O,.func<|W.fnOf x q (JI st) (Vm st) (Yc st) (.ref T) kV B N E Z D,sl⟩)(d:W.codeIn K Z q=true)(k:W.keepIn K (.ref f)=true)(t:K.lookup T=some ⟨M,L,.seq #[.bool false] J,G⟩):AtD K f x q st:=⟨R,O,kV,B,N,E,Z,D,sl,T,M,L,J,G,l,d,k,t⟩
def GAD(K:W.Frag)(x:Str)(f:Addr)(st:Stmt):Prop:=W.nsIn K mainGlobals x=some (some<|.ref f)/\AtD K f x x st
def GAD.go{K:W.Frag}{h:Heap}{Z:Str->Option Value}{x:Str}{f:Addr}{st:Stmt}(X:K.In h)(G:h.Ns mainGlobals Z)(a:GAD K x f st):∃E,N5 K x x st f E/\W.keepIn K (.ref f)=true/\Z x=some (.ref f):=by
 obtain⟨D,B,R,kV,F,O,S,I,A,sl,T,N,M,J,L,l,d,k,t⟩:=a;exact⟨_,⟨⟨B,R,kV,F,O,S,I,A,sl,T,N,M,J,L,Y,l,d,t⟩,k⟩,k,W.mg_of X G D⟩
def all_at{l:W.OpenLaw}{w:World}{K:W.Frag}{h:Heap}{mg:Str->Option Value}{fa CK C CG CO CW CD aR fA f1 f2 f3 f4 f5 f6 f7 f8 f9 f10 f11 f12 f13 f14 f15 f16 f17 f18 f19 f20 f21 f22 f23 f24 f25 f26 f27 f28 f29 f30 f31 f32 f33 f34 f35 f36 f37 f38 f39 f40 f41 f42 f43 f44 f45 f46 f47 f48 f49 f50 f51 f52 f53 f54 f55 f56 f57 f58 f59 f60 f61 f62 f63 f64 f65 f66 f67 f68 f69 f70 f71 f72 f73 f74 f75 f76:Addr}{es:Array DictEntry}{nR:Nat}{u1v u2v u3v u4v u5v u6v u7v u8v u9v u10v u11v u12v:Value}(X:K.In h)(G:h.Ns mainGlobals mg)(hfa:mg "law"=some (.ref fa))(aC:GC K "Kinds" CK)(aB:GC K "Book" C)(aG':GC K "Ground" CG)(aO':GC K "Going" CO)(aW':GC K "Walk" CW)(aD':GC K "Doing" CD)(aU:GC K "RULES" aR)(lR:K.lookup aR=some ⟨.type "dict",none,.dict es nR,#[]⟩)(kR:W.KeysLit w.params es.toList)(aA:GAD K "asked" fA Bq)(a1:GA K "parts" f1 BY)(a2:GA K "part_at" f2 Gn)(a3:GA K "kind_or_place" f3 sKP)(a4:GA K "kind_of_part" f4 Bf)(a5:GA K "is_name" f5 MM)(a6:GA K "is_tag" f6 Bi)(a7:GA K "is_spelt" f7 BW)(a8:GA K "are_parameters" f8 Br)(a9:GA K "row_count" f9 WL)(a10:GA K "rows_over" f10 WJ)(a11:GA K "is_row_over" f11 XT)(a12:GA K "is_asking" f12 WM)(a13:GA K "check_asking" f13 Ua)(a14:GA K "named" f14 Bb)(a15:GA K "check_most" f15 XU)(a16:GA K "walk_of" f16 MI)(a17:GA K "_law_mixed" f17 Bc)(a18:GA K "_law_stream" f18 MJ)(a19:GA K "_law_take" f19 Ip)(a20:GA K "_law_words" f20 BV)(a21:GA K "_law_small" f21 BX)(a22:GA K "_law_no_truths" f22 XC)(a23:GA K "_law_link" f23 LJ)(a24:GA K "_law_ring" f24 LI)(a25:GA K "law" f25 DU)(a26:GR K aR "tag" "kind_of_tag_body" f26 Ir)(a27:GR K aR "name" "kind_of_name_body" f27 Bh)(a28:GR K aR "pair" "kind_of_pair_body" f28 Bg)(a29:GR K aR "one" "kind_of_one_body" f29 Iu)(a30:GR K aR "other" "kind_of_other_body" f30 MK)(a31:GR K aR "choose" "kind_of_choose_body" f31 Gq)(a32:GR K aR "ask" "kind_of_ask_body" f32 Iw)(a33:GR K aR "let" "kind_of_let_body" f33 Iv)(a34:GM K CK "__init__" "Kinds.__init__" f34 Iy)(a35:GM K CK "take" "Kinds.take" f35 Be)(a36:GM K CK "take_tags" "Kinds.take_tags" f36 Iq)(a37:GM K CK "take_pair" "Kinds.take_pair" f37 BZ)(a38:GM K CK "names" "Kinds.names" f38 Ba)(a39:GM K CK "worths_of" "Kinds.worths_of" f39 WI)(a40:GM K CK "shape_of" "Kinds.shape_of" f40 Gm)(a41:GM K CK "kind_of_tag" "Kinds.kind_of_tag" f41 ML)(a42:GM K CK "kind_of_pair" "Kinds.kind_of_pair" f42 Gp)(a43:GM K CK "is_worth" "Kinds.is_worth" f43 Xj)(a44:GM K C "__init__" "Book.__init__" f44 Bn)(a45:GM K C "take_heads" "Book.take_heads" f45 Bk)(a46:GM K C "is_head" "Book.is_head" f46 Bo)(a47:GM K C "check_bodies" "Book.check_bodies" f47 MQ)(a48:GM K C "kinds" "Book.kinds" f48 MP)(a49:GM K C "names" "Book.names" f49 MN)(a50:GM K C "parameters" "Book.parameters" f50 Bl)(a51:GM K C "kind_of" "Book.kind_of" f51 Bm)(a52:GM K C "body_of" "Book.body_of" f52 Bp)(a53:GM K C "told_of" "Book.told_of" f53 Bj)(a54:GM K CG "__init__" "Ground.__init__" f54 Lj)(a55:GM K CG "number_at" "Ground.number_at" f55 Dh)(a56:GM K CO "__init__" "Going.__init__" f56 K2)(a57:GM K CO "begin" "Going.begin" f57 DB)(a58:GM K CO "take_head" "Going.take_head" f58 WU)(a59:GM K CO "go_on" "Going.go_on" f59 K3)(a60:GM K CO "from_body" "Going.from_body" f60 WW)(a61:GM K CO "from_thing" "Going.from_thing" f61 XZ)(a62:GM K CO "from_head" "Going.from_head" f62 WV)(a63:GM K CO "with_let" "Going.with_let" f63 G9)(a64:GM K CO "thing_at" "Going.thing_at" f64 Xq)(a65:GM K CO "make_cell" "Going.make_cell" f65 XB)(a66:GM K CW "__init__" "Walk.__init__" f66 IA)(a67:GM K CW "birth_of" "Walk.birth_of" f67 GU)(a68:GM K CW "done" "Walk.done" f68 IH)(a69:GM K CW "want" "Walk.want" f69 F0)(a70:GM K CW "end" "Walk.end" f70 Qz)(a71:GM K CW "ring_from" "Walk.ring_from" f71 X8)(a72:GM K CW "outcome" "Doing.outcome" f72 Ti)(a73:GM K CW "head_of_cell" "Doing.head_of_cell" f73 Wf)(a74:GM K CW "go_into" "Doing.go_into" f74 Mp)(a75:GM K CW "going_of" "Doing.going_of" f75 Tj)(a76:GM K CD "__init__" "Doing.__init__" f76 L3)(z1:GN K "len")(z2:GN K "isinstance")(z3:GN K "bool")(z4:GN K "str")(z5:GN K "int")(z6:GN K "tuple")(z7:GN K "list")(z8:GN K "dict")(z9:GN K "all")(z10:GN K "zip")(z11:GN K "max")(z12:GN K "range")(z13:GN K "sorted")(z14:GN K "min")(z15:GN K "sum")(z16:GN K "enumerate")(z17:GN K "any")(z18:GN K "ValueError")(g1:GV K "SMALL" (.str<|Str.ofString "abcdefghijklmnopqrstuvwxyz") u1v)(g2:GV K "GREAT" (.str<|Str.ofString "ABCDEFGHIJKLMNOPQRSTUVWXYZ") u2v)(g3:GV K "LONGEST" (.int 8) u3v)(g4:GV K "MOST_KINDS" (.int 6) u4v)(g5:GV K "MOST_TAGS" (.int 4) u5v)(g6:GV K "MOST_WORTHS" (.int 30) u6v)(g7:GV K "MOST_PAIRS_DEEP" (.int 2) u7v)(g8:GV K "MOST_DEFINITIONS" (.int 8) u8v)(g9:GV K "MOST_PARAMETERS" (.int 3) u9v)(g10:GV K "MOST_ROWS" (.int 200) u10v)(g11:GV K "MOST_ROWS_IN_ALL" (.int 400) u11v)(g12:GV K "MOST_CELLS" (.int 500) u12v)(caCK:CA K CK)(caC:CA K C)(caCG:CA K CG)(caCO:CA K CO)(caCW:CA K CW)(nk1:GF K CK "shapes")(nk2:GF K CK "worths")(nk3:GF K CK "heights")(nk4:GF K CK "pairs_deep")(nk5:GF K CK "tag_kinds")(nk6:GF K CK "pair_kinds")(nb1:GF K C "sorts")(nb2:GF K C "told")(nb3:GF K C "rows")(nb4:GF K C "turns")(ng1:GF K CG "book")(ng2:GF K CG "given")(ng3:GF K CG "births")(ng4:GF K CG "numbers")(ng5:GF K CG "starts")(no1:GF K CO "ground")(no2:GF K CO "number")(no3:GF K CO "f")(no4:GF K CO "place")(no5:GF K CO "known")(no6:GF K CO "body")(no7:GF K CO "waiting")(nw1:GF K CW "ground")(nw2:GF K CW "most")(nw3:GF K CW "begun")(nw4:GF K CW "under_way")(nw5:GF K CW "wanters")(nw6:GF K CW "wants")(nw7:GF K CW "heads")(y1:W.specialIn K (.ref CD) "__getattribute__"=some (some<|.builtin "type.__getattribute__"))(y2:W.readsIn K CD (.type "type")=true)(y3:W.findCls K (.ref CD) (.type "type") "__init__"=some (.val<|.ref f76)):∃fd:FuncData,(∀(s:Shared)(v:Value),BindsTo s fd ⟨[v],[]⟩ [("script",v)])/\∀base:Heap,K.In base->base.Ns mainGlobals mg->Yf l.prog w K mg base CX0 40 fa fd ["script"] (EB K):=by
 have e:=hfa.symm.trans<|W.mg_of X G a25.1;cases e;obtain⟨d1,F1,k1,m1⟩:=a1.go X G;obtain⟨d2,F2,k2,m2⟩:=a2.go X G;obtain⟨d3,F3,k3,m3⟩:=a3.go X G;obtain⟨d4,F4,k4,m4⟩:=a4.go X G;obtain⟨d5,F5,k5,m5⟩:=a5.go X G;obtain⟨d6,F6,k6,m6⟩:=a6.go X G;obtain⟨d7,F7,k7,m7⟩:=a7.go X G;obtain⟨d8,F8,k8,m8⟩:=a8.go X G;obtain⟨d9,F9,k9,m9⟩:=a9.go X G;obtain⟨d10,F10,k10,m10⟩:=a10.go X G;obtain⟨d11,F11,k11,m11⟩:=a11.go X G;obtain⟨d12,F12,k12,m12⟩:=a12.go X G;obtain⟨d13,F13,k13,m13⟩:=a13.go X G;obtain⟨d14,F14,k14,m14⟩:=a14.go X G;obtain⟨d15,F15,k15,m15⟩:=a15.go X G;obtain⟨d16,F16,k16,m16⟩:=a16.go X G;obtain⟨d17,F17,k17,m17⟩:=a17.go X G;obtain⟨d18,F18,k18,m18⟩:=a18.go X G;obtain⟨d19,F19,k19,m19⟩:=a19.go X G;obtain⟨d20,F20,k20,m20⟩:=a20.go X G;obtain⟨d21,F21,k21,m21⟩:=a21.go X G;obtain⟨d22,F22,k22,m22⟩:=a22.go X G;obtain⟨d23,F23,k23,m23⟩:=a23.go X G;obtain⟨d24,F24,k24,m24⟩:=a24.go X G;obtain⟨_,_,kV,dc,pm,an,cd,ct,_,l',d',k25⟩:=a25.2;have F25:=Lk (st:=DU) l' d' k25;obtain⟨d26,F26,k26,a26⟩:=a26.go;obtain⟨d27,F27,k27,a27⟩:=a27.go;obtain⟨d28,F28,k28,a28⟩:=a28.go;obtain⟨d29,F29,k29,a29⟩:=a29.go;obtain⟨d30,F30,k30,a30⟩:=a30.go;obtain⟨d31,F31,k31,a31⟩:=a31.go;obtain⟨d32,F32,k32,a32⟩:=a32.go;obtain⟨d33,F33,k33,a33⟩:=a33.go;obtain⟨d34,F34,w34⟩:=a34.go;obtain⟨d35,F35,w35⟩:=a35.go;obtain⟨d36,F36,w36⟩:=a36.go;obtain⟨d37,F37,w37⟩:=a37.go;obtain⟨d38,F38,w38⟩:=a38.go;obtain⟨d39,F39,w39⟩:=a39.go;obtain⟨d40,F40,w40⟩:=a40.go;obtain⟨d41,F41,w41⟩:=a41.go;obtain⟨d42,F42,w42⟩:=a42.go;obtain⟨d43,F43,w43⟩:=a43.go;obtain⟨d44,F44,w44⟩:=a44.go;obtain⟨d45,F45,w45⟩:=a45.go;obtain⟨d46,F46,w46⟩:=a46.go;obtain⟨d47,F47,w47⟩:=a47.go;obtain⟨d48,F48,w48⟩:=a48.go;obtain⟨d49,F49,w49⟩:=a49.go;obtain⟨d50,F50,w50⟩:=a50.go;obtain⟨d51,F51,w51⟩:=a51.go;obtain⟨d52,F52,w52⟩:=a52.go;obtain⟨d53,F53,w53⟩:=a53.go;obtain⟨d54,F54,w54⟩:=a54.go;obtain⟨d55,F55,w55⟩:=a55.go;obtain⟨d56,F56,w56⟩:=a56.go;obtain⟨d57,F57,w57⟩:=a57.go;obtain⟨d58,F58,w58⟩:=a58.go;obtain⟨d59,F59,w59⟩:=a59.go;obtain⟨d60,F60,w60⟩:=a60.go;obtain⟨d61,F61,w61⟩:=a61.go;obtain⟨d62,F62,w62⟩:=a62.go;obtain⟨d63,F63,w63⟩:=a63.go;obtain⟨d64,F64,w64⟩:=a64.go;obtain⟨d65,F65,w65⟩:=a65.go;obtain⟨d66,F66,w66⟩:=a66.go;obtain⟨d67,F67,w67⟩:=a67.go;obtain⟨d68,F68,w68⟩:=a68.go;obtain⟨d69,F69,w69⟩:=a69.go;obtain⟨d70,F70,w70⟩:=a70.go;obtain⟨d71,F71,w71⟩:=a71.go;obtain⟨d72,F72,w72⟩:=a72.go;obtain⟨d73,F73,w73⟩:=a73.go;obtain⟨d74,F74,w74⟩:=a74.go;obtain⟨d75,F75,w75⟩:=a75.go;obtain⟨d76,F76,w76⟩:=a76.go;obtain⟨dA,FA,kA,mA⟩:=aA.go X G;have mC:=W.mg_of X G aC;have mB:=W.mg_of X G aB;have mG:=W.mg_of X G aG';have mO:=W.mg_of X G aO';have mW:=W.mg_of X G aW';have mD:=W.mg_of X G aD';have mU:=W.mg_of X G aU;have B:Blt mg:=⟨yt X G z1,yt X G z2,yt X G z3,yt X G z4,yt X G z5,yt X G z6,yt X G z7,yt X G z8,yt X G z9,yt X G z10,yt X G z11,yt X G z12,yt X G z13⟩;have nmin:=yt X G z14;have nsum:=yt X G z15;have nenumerate:=yt X G z16;have nany:=yt X G z17;have nValueError:=yt X G z18;obtain⟨q1,r1⟩:=g1.go X G;obtain⟨q2,r2⟩:=g2.go X G;obtain⟨q3,r3⟩:=g3.go X G;obtain⟨q4,r4⟩:=g4.go X G;obtain⟨q5,r5⟩:=g5.go X G;obtain⟨q6,r6⟩:=g6.go X G;obtain⟨q7,r7⟩:=g7.go X G;obtain⟨q8,r8⟩:=g8.go X G;obtain⟨q9,r9⟩:=g9.go X G;obtain⟨q10,r10⟩:=g10.go X G;obtain⟨q11,r11⟩:=g11.go X G;obtain⟨q12,r12⟩:=g12.go X G;have T:KCl K CK:=⟨⟨caCK.pg,caCK.hd,caCK.po,caCK.sa⟩,nk1,nk2,nk3,nk4,nk5,nk6⟩;have TB:BCl K C:=⟨⟨caC.pg,caC.hd,caC.po,caC.sa⟩,nb1,nb2,nb3,nb4⟩;have TG:GCl K CG:=⟨⟨caCG.pg,caCG.hd,caCG.po,caCG.sa⟩,ng1,ng2,ng3,ng4,ng5⟩;have TO:OCl K CO:=⟨⟨caCO.pg,caCO.hd,caCO.po,caCO.sa⟩,no1,no2,no3,no4,no5,no6,no7⟩;have TW:WCl K CW:=⟨⟨caCW.pg,caCW.hd,caCW.po,caCW.sa⟩,nw1,nw2,nw3,nw4,nw5,nw6,nw7⟩;refine⟨W.fnOf "law" "law" (JI DU) (Vm DU) (Yc DU) .none kV dc pm an cd ct,λs v=>.of_eq Y,λbase hIn _=>?_⟩;have tk:∀n,Yf l.prog w K mg base CX0 (n+2) f19 _ ["stream","many"] Gb:=λn=>PK F19 (Kn (n:=n) F17) (F17.b2 _ _) k17 m17;have wo:∀n,Yf l.prog w K mg base CX0 (n+3) f20 _ ["stream","many","letters","ways"] W1:=λn=>Kg B F20 (tk n) (F19.b2 _ _) k19 m19;have sm:∀n,Yf l.prog w K mg base CX0 (n+4) f21 _ ["stream","many"] Ru:=λn=>Kk F21 (wo n) (F20.b4 _ _ _ _) k20 m20;have pA:Yf l.prog w K mg base CX0 1 f1 _ _ Xf:=ok_parts (n:=0) B F1;have sp:Yf l.prog w K mg base CX0 1 f7 _ _ W3:=Kj (n:=0) B F7 q3 r3;have na:Yf l.prog w K mg base CX0 2 f5 _ _ (Ut 97):=FO (n:=1) F5 sp (F7.b2 _ _) k7 m7 q1 r1;have ta:Yf l.prog w K mg base CX0 2 f6 _ _ (Ut 65):=Ku (n:=1) F6 sp (F7.b2 _ _) k7 m7 q2 r2;have tt:Yf l.prog w K mg base CX0 3 f36 _ _ (BH CK):=PL (n:=2) B T F36 q5 r5 ta (F6.b1 _) k6 m6;have tp:Yf l.prog w K mg base CX0 3 f37 _ _ (Rv CK):=Kl (n:=2) B T F37 q7 r7 q6 r6;have kt:Yf l.prog w K mg base CX0 4 f35 _ _ (Rx CK):=Ko (n:=3) B T F35 (na.mono<|by decide) (F5.b1 _) k5 m5 tt (F36.b3 _ _ _) w36 tp (F37.b4 _ _ _ _) w37;have ini:Yf l.prog w K mg base CX0 5 f34 _ _ (BK CK):=PV (n:=4) B T F34 q4 r4 kt (F35.b3 _ _ _) w35;have knm:Yf l.prog w K mg base CX0 1 f38 _ _ (U6 CK):=Km (n:=0) B T F38;have kwo:Yf l.prog w K mg base CX0 1 f39 _ _ (Jy CK):=NN (n:=0) B T F39;have ksh:Yf l.prog w K mg base CX0 1 f40 _ _ (U5 CK):=B6 (n:=0) T F40;have kto:Yf l.prog w K mg base CX0 1 f41 _ _ (Ge CK):=FN (n:=0) T F41;have kpo:Yf l.prog w K mg base CX0 1 f42 _ _ (WB CK):=B9 (n:=0) T F42;have bki:Yf l.prog w K mg base CX0 1 f48 _ _ (Ja C CK):=FQ (n:=0) TB F48;have bnm:Yf l.prog w K mg base CX0 1 f49 _ _ (Uu C CK):=FP (n:=0) B TB F49;have to:Yf l.prog w K mg base CX0 1 f53 _ _ (Ga C CK):=PJ (n:=0) B TB F53;have cP:Yf l.prog w K mg base CX0 2 f50 _ _ (Gc C CK):=PM (n:=1) TB F50 w53 to<|F53.b2 _ _;have cK:Yf l.prog w K mg base CX0 2 f51 _ _ (Rw C CK):=Kt (n:=1) TB F51 w53 to<|F53.b2 _ _;have cY:Yf l.prog w K mg base CX0 2 f52 _ _ (Rz C CK):=Kx (n:=1) TB F52 w53 to<|F53.b2 _ _;have kpt:Yf l.prog w K mg base CX0 2 f4 _ _ (W4 C CK):=Kp (n:=1) TB T F4 w48 (bki) (F48.b1 _) w40 (ksh)<|F40.b2 _ _;have R1:RA l.prog w K mg base C CK (λk=>findBy V1 es k) "tag" _:=⟨f26,_,Ux lR a26,PP (n:=2) TB T F26 w48 ((bki.mono<|by decide)) (F48.b1 _) w41 ((kto.mono<|by decide))<|F41.b2 _ _,k26,F26.b4 _ _ _ _⟩;have R2:RA l.prog w K mg base C CK (λk=>findBy V1 es k) "name" _:=⟨f27,_,Ux lR a27,Ks (n:=2) F27,k27,F27.b4 _ _ _ _⟩;have R3:RA l.prog w K mg base C CK (λk=>findBy V1 es k) "pair" _:=⟨f28,_,Ux lR a28,Kq (n:=2) TB T F28 w48 ((bki.mono<|by decide)) (F48.b1 _) w42 ((kpo.mono<|by decide))<|F42.b3 _ _ _,k28,F28.b4 _ _ _ _⟩;have R4:RA l.prog w K mg base C CK (λk=>findBy V1 es k) "one" _:=⟨f29,_,Ux lR a29,PQ (n:=2) F29 ⟨f4,_,m4,k4,F4.b3 _ _ _,kpt⟩,k29,F29.b4 _ _ _ _⟩;have R5:RA l.prog w K mg base C CK (λk=>findBy V1 es k) "other" _:=⟨f30,_,Ux lR a30,FL (n:=2) F30 ⟨f4,_,m4,k4,F4.b3 _ _ _,kpt⟩,k30,F30.b4 _ _ _ _⟩;have R6:RA l.prog w K mg base C CK (λk=>findBy V1 es k) "choose" _:=⟨f31,_,Ux lR a31,B8 (n:=0) B nany TB T F31 w48 ((bki.mono<|by decide)) (F48.b1 _) w40 ((ksh.mono<|by decide))<|F40.b2 _ _,k31,F31.b4 _ _ _ _⟩;have R7:RA l.prog w K mg base C CK (λk=>findBy V1 es k) "ask" _:=⟨f32,_,Ux lR a32,PU (n:=0) TB F32 w49 ((bnm.mono<|by decide)) (F49.b1 _) w50 (cP) (F50.b2 _ _) w51 (cK)<|F51.b2 _ _,k32,F32.b4 _ _ _ _⟩;have R8:RA l.prog w K mg base C CK (λk=>findBy V1 es k) "let" _:=⟨f33,_,Ux lR a33,PR (n:=2) F33,k33,F33.b4 _ _ _ _⟩;have kp:Yf l.prog w K mg base CX0 16 f3 _ _ (RB C CK 13):=Qi B nenumerate TB T F3 (F3.b3 _ _ _) m3 w48 (bki.mono<|by decide) (F48.b1 _) w38 (knm.mono<|by decide) (F38.b1 _) ⟨f1,_,m1,k1,F1.b1 _,pA.mono<|by decide⟩ mU (Pj hIn lR kR) (λL=>I0 L R1 R2 R3 R4 R5 R6 R7 R8) 13;have ap:Yf l.prog w K mg base CX0 3 f8 _ _ (MA CK):=Kz (n:=2) B T F8 q9 r9 ⟨f5,_,m5,k5,F5.b1 _,na⟩ w38 ((knm.mono<|by decide))<|F38.b1 _;have rc:Yf l.prog w K mg base CX0 2 f9 _ _ (XR CK):=NP (n:=1) B T F9 w39 (kwo)<|F39.b2 _ _;have ro:Yf l.prog w K mg base CX0 2 f10 _ _ (XQ CK):=NO (n:=1) B T F10 w39 (kwo)<|F39.b2 _ _;have ih:Yf l.prog w K mg base CX0 4 f46 _ _ (R9 C CK):=Ky (n:=3) TB T F46 ⟨f5,_,m5,k5,F5.b1 _,na.mono<|by decide⟩ ⟨f8,_,m8,k8,F8.b2 _ _,ap⟩ w38 ((knm.mono<|by decide))<|F38.b1 _;have th:Yf l.prog w K mg base CX0 5 f45 _ _ (Ic C CK):=Kw (n:=4) B nenumerate TB F45 q8 r8 q10 r10 q11 r11 w46 ih (F46.b4 _ _ _ _) ⟨f9,_,m9,k9,F9.b2 _ _,rc.mono<|by decide⟩ ⟨f10,_,m10,k10,F10.b2 _ _,ro.mono<|by decide⟩;have cb:Yf l.prog w K mg base CX0 17 f47 _ _ (SN C CK):=S8 (n:=16) B nenumerate TB F47 w49 (bnm.mono<|by decide) (F49.b1 _) ⟨f3,_,m3,k3,F3.b3 _ _ _,kp⟩;have bi:Yf l.prog w K mg base CX0 18 f44 _ _ (SM C CK):=S7 (n:=17) (m:=5) (by decide) TB F44 ⟨caCK.ma,w34.1,w34.2,caCK.kc⟩ mC ini (F34.b2 _ _) w45 (th.mono<|by decide) (F45.b2 _ _) w47 cb<|F47.b1 _;have pat:Yf l.prog w K mg base CX0 2 f2 _ _ Jv:=B7 (n:=1) F2 ⟨f1,_,m1,k1,F1.b1 _,pA⟩;have iw:Yf l.prog w K mg base CX0 4 f43 _ _ (NC CK 3):=LN B T F43 (F43.b3 _ _ _) w43 3;have iro:Yf l.prog w K mg base CX0 5 f11 _ _ (SE CK):=CL (n:=4) B T F11 w43 iw<|F43.b3 _ _ _;have ia:Yf l.prog w K mg base CX0 6 f12 _ _ (E8 C CK<|.bl true):=CV (n:=5) TB F12 w49 (bnm.mono<|by decide) (F49.b1 _) w48 (bki.mono<|by decide) (F48.b1 _) w50 (cP.mono<|by decide) (F50.b2 _ _) ⟨f11,_,m11,k11,F11.b3 _ _ _,iro⟩;have cka:Yf l.prog w K mg base CX0 7 f13 _ _ (E8 C CK .non):=Ca (n:=6) F13 ⟨f12,_,m12,k12,F12.b3 _ _ _,ia⟩;have ckm:Yf l.prog w K mg base CX0 1 f15 _ _ SL:=CZ (n:=0) F15;have nam:Yf l.prog w K mg base CX0 3 f14 _ _ (IV C CK):=CQ (n:=2) B TB F14 w50 (cP)<|F50.b2 _ _;have na:Yf l.prog w K mg base CX0 1 f55 _ _ (IW l.prog w CG):=CS (n:=0) B TG F55;have gi:Yf l.prog w K mg base CX0 4 f54 _ _ (IY l.prog w C CK CG):=Sz (n:=3) B TG F54 ⟨f14,_,m14,k14,F14.b3 _ _ _,nam⟩;have oi':Yf l.prog w K mg base CX0 3 f56 _ _ (IU l.prog w C CK CG CO):=Su (L:=2) TB TG TO F56 w52 (cY)<|F52.b2 _ _;have tf:=QM (P:=l.prog) (w:=w) (C:=C) (CK:=CK) (base:=base) (L:=3) B TG TO F64 F65 ⟨f2,_,m2,k2,F2.b2 _ _,pat.mono<|by decide⟩ ⟨f14,_,m14,k14,F14.b3 _ _ _,nam⟩ w55 (na.mono<|by decide) (F55.b3 _ _ _) w64 (F64.b3 _ _ _) w65<|F65.b4 _ _ _ _;have wl:Yf l.prog w K mg base CX0 7 f63 _ _ (SA l.prog w C CK CG CO 1):=CH (L:=6) B TG TO F63 w55 (na.mono<|by decide) (F55.b3 _ _ _) w65 ((tf 1).2)<|F65.b4 _ _ _ _;have fb:Yf l.prog w K mg base CX0 8 f60 _ _ (Ib l.prog w C CK CG CO 1):=S6 (L:=7) TO F60 ⟨f2,_,m2,k2,F2.b2 _ _,pat.mono<|by decide⟩ w64 ((tf 2).1) (F64.b3 _ _ _) w63 (wl)<|F63.b4 _ _ _ _;have ft:Yf l.prog w K mg base CX0 1 f61 _ _ IZ:=S3 (n:=0) F61;have fh:Yf l.prog w K mg base CX0 4 f62 _ _ (Ia CO):=S5 (n:=0) nenumerate TO F62;have go:Yf l.prog w K mg base CX0 9 f59 _ _ (EC l.prog w C CK CG CO 1):=Sy (L:=8) B TO F59 w60 (fb) (F60.b3 _ _ _) w61 (ft.mono<|by decide) (F61.b2 _ _) w62 (fh.mono<|by decide)<|F62.b2 _ _;have beg:Yf l.prog w K mg base CX0 10 f57 _ _ (BO l.prog w C CK CG CO 1):=Pa (L:=9) TO F57 w59 (go)<|F59.b2 _ _;have thd:Yf l.prog w K mg base CX0 10 f58 _ _ (IT l.prog w C CK CG CO 1):=Sr (L:=9) TO F58 w59 (go)<|F59.b2 _ _;have gof:Yf l.prog w K mg base CX0 5 f75 _ _ (BM l.prog w C CK CG CO CW):=PX (n:=3) TW F75 mO ⟨caCO.ma,w56.1,w56.2,caCO.kc⟩ oi'<|F56.b3 _ _ _;have gin:Yf l.prog w K mg base CX0 11 f74 _ _ (BN l.prog w C CK CG CO CW 1):=PY (L:=10) TW TO F74 w75 (gof.mono<|by decide) (F75.b2 _ _) w57 (beg)<|F57.b1 _;have bir:Yf l.prog w K mg base CX0 1 f67 _ _ (R0 l.prog w CG CW):=PZ (n:=0) TW TG F67;have rf:Yf l.prog w K mg base CX0 2 f71 _ _ (SF l.prog w C CK CG CO CW):=CN (n:=1) TW TO F71 w67 (bir)<|F67.b2 _ _;have wan:Yf l.prog w K mg base CX0 12 f69 _ _ (Rq l.prog w C CK CG CO CW 1):=Ki (L:=11) B TW TO F69 w74 (gin) (F74.b2 _ _) w71 (rf.mono<|by decide)<|F71.b2 _ _;have wen:Yf l.prog w K mg base CX0 1 f70 _ _ (Rt l.prog w C CK CG CO CW):=Kh (n:=0) TW F70;have hoc:Yf l.prog w K mg base CX0 13 f73 _ _ (IX l.prog w C CK CG CO CW 1):=Sx (L:=12) B TW TO F73 w69 (wan) (F69.b2 _ _) w70 (wen.mono<|by decide) (F70.b3 _ _ _) w58 (thd.mono<|by decide)<|F58.b2 _ _;have out:Yf l.prog w K mg base CX0 14 f72 _ _ (BJ l.prog w C CK CG CO CW 1):=PN (L:=13) TW F72 w73 (hoc)<|F73.b2 _ _;have don:Yf l.prog w K mg base CX0 2 f68 _ _ (Ry l.prog w C CK CG CO CW):=Kv (L:=1) TW F68 w67 (bir)<|F67.b2 _ _;have din:Yf l.prog w K mg base CX0 1 f76 _ _ (SH CW):=CY (n:=0) TW F76;have win:Yf l.prog w K mg base CX0 2 f66 _ _ (SB CW):=CI (n:=1) TW F66 mD ⟨y1,y2,y3,w76.kp⟩ din<|F76.b3 _ _ _;have wao:Yf l.prog w K mg base CX0 9 f16 _ _ (IS l.prog w C CK CG CO CW):=Sn (n:=7) F16 ⟨f13,_,m13,k13,F13.b3 _ _ _,cka.mono<|by decide⟩ ⟨f15,_,m15,k15,F15.b2 _ _,ckm.mono<|by decide⟩ q12 r12 mW ⟨caCW.ma,w66.1,w66.2,caCW.kc⟩ (win.mono<|by decide) (F66.b3 _ _ _) mG ⟨caCG.ma,w54.1,w54.2,caCG.kc⟩ (gi.mono<|by decide)<|F54.b4 _ _ _ _;have ask:Yf l.prog w K mg base CX0 15 fA _ _ (Gf l.prog w C CK 1):=Pb (L:=14) TW FA ⟨f16,_,m16,k16,F16.b4 _ _ _ _,wao.mono<|by decide⟩ w72 (out) (F72.b2 _ _) w68 (don.mono<|by decide)<|F68.b1 _;have nt:Yf l.prog w K mg base CX0 14 f22 _ _ (E7 13):=QZ B F22 (F22.b1 _) m22 13;have lkk:Yf l.prog w K mg base CX0 1 f23 _ _ SG:=CT (n:=0) B F23;have rg:Yf l.prog w K mg base CX0 20 f24 _ _ (SD C CK):=CM (n:=17) B F24 ⟨f19,_,m19,k19,F19.b2 _ _,tk 17⟩ ⟨f20,_,m20,k20,F20.b4 _ _ _ _,wo 16⟩ ⟨f21,_,m21,k21,F21.b2 _ _,sm 15⟩ ⟨f23,_,m23,k23,F23.b4 _ _ _ _,lkk.mono<|by decide⟩ mB ⟨caC.ma,w44.1,w44.2,caC.kc⟩ bi<|F44.b3 _ _ _;exact Sv (n:=26) B F25 ⟨f18,_,m18,k18,F18.b1 _,FK (n:=38) F18⟩ ⟨f19,_,m19,k19,F19.b2 _ _,tk 37⟩ ⟨f24,_,m24,k24,F24.b1 _,rg.mono<|by decide⟩ ⟨f22,_,m22,k22,F22.b1 _,nt.mono<|by decide⟩ mA kA (ask.mono<|by decide) (FA.b5 _ _ _ _ _)<|FA.b4 _ _ _ _ _
def goes{l:W.OpenLaw}{q:Program}{loose:ky}{XP:(Str->Option Value)->Heap->Prop}{YP:World->Heap->Prop}{d:DefRec}{K:Params->W.Frag}(hn:l.most=some 63)(hdf:d.params.defaults=[])(hY:∀(w:World)(h:Heap),YP w h->(K w.params).In h)(F:∀(w:World)(mg:Str->Option Value)(fa:Addr)(h:Heap),(K w.params).In h->h.Ns mainGlobals mg->mg d.name=some (.ref fa)->
   ∃fd:FuncData,(∀(s:Shared)(u:Value),BindsTo s fd ⟨[u],[]⟩ [("script",u)])/\∀base:Heap,(K w.params).In base->base.Ns mainGlobals mg->Yf l.prog w (K w.params) mg base CX0 40 fa fd ["script"] (EB<|K w.params)):
  W.WalkO q loose XP YP l.row.toRowW d [] (λf vs=>PySem.call f vs):=
 L2.walk_of (n:=63) (k:=40) (x:="script") (CX:=λ_=>CX0) (sp:=λw=>EB<|K w.params) hn (by decide) hdf ⟨rfl,by decide,by decide⟩ hY F (λ_ _ a ns hl _ hS=>⟨a,ns,hS,hl,λ_=>rfl⟩) λ_ _ _ _ _ z=>z
end K4
end
namespace PySem.W.Fast
def tw10009386654519913573:=()
def tw10010509385044700753:=()
def tw10029220975190908250:=()
def tw10060454244233365977:=()
def tw10125759892769749064:=()
def tw10133972538993552041:=()
def tw10156579596448937477:=()
def tw10223167672427075553:=()
def tw10226447179153532341:=()
def tw10237525675043169672:=()
def tw10286505114688501809:=()
def tw10289424138872303259:=()
def tw10294387910778665464:=()
def tw10295323790519924954:=()
def tw10334494086655457186:=()
def tw1035721760608095401:=()
def tw10410511562031715633:=()
def tw10410603235409642048:=()
def tw10431828762044948332:=()
def tw1045794397302254343:=()
def tw10482930231192573280:=()
def tw10490507329771710902:=()
def tw10491529873677930611:=()
def tw10503824033824628927:=()
def tw10528653783707053301:=()
def tw10544961951601241494:=()
def tw1057144610853365411:=()
def tw10594657721476509744:=()
def tw10604270137109204818:=()
def tw10645646374805325309:=()
def tw10676033464428134391:=()
def tw10682598957660879388:=()
def tw1071319035330655785:=()
def tw10777813789887256817:=()
def tw10788455878033422365:=()
def tw10820772564974597024:=()
def tw10828084665560030706:=()
def tw10831641153999680864:=()
def tw10920446785804879689:=()
def tw10935961271621402496:=()
def tw10973474482342544324:=()
def tw11021775337943860468:=()
def tw11094833635680214755:=()
def tw11119975630574791484:=()
def tw11126906643465131582:=()
def tw11172928106182497313:=()
def tw11177415383760444253:=()
def tw11203344425416738897:=()
def tw11238349865163450299:=()
def tw11324542802803683226:=()
def tw11326930252238863846:=()
def tw11344249809061350382:=()
def tw11346160713446533711:=()
def tw11356867816163147801:=()
def tw11367049720489838406:=()
def tw11385352684566858994:=()
def tw1141396207266418486:=()
def tw11417355398381972817:=()
def tw1145872991680940312:=()
def tw1146076257684700017:=()
def tw11489059737980640895:=()
def tw11575195325944681699:=()
def tw11588615671509889603:=()
def tw11591034532206340110:=()
def tw11605890373241586630:=()
def tw11624427051324816609:=()
def tw11636223013450122515:=()
def tw11724320971708972721:=()
def tw11724478753332378108:=()
def tw1174915666855636524:=()
def tw11775432607365700804:=()
def tw11848966963248753199:=()
def tw11966923861642201956:=()
def tw11996213814177911653:=()
def tw12001767607191943008:=()
def tw1200943347746206571:=()
def tw12039621093874463329:=()
def tw1210851803478845144:=()
def tw12172575453129582298:=()
def tw12179225882167339609:=()
def tw12184451329887986918:=()
def tw12195243799918853197:=()
def tw12216370506505913324:=()
def tw12234316054979475143:=()
def tw12239446453210893072:=()
def tw12281843375365766492:=()
def tw12320738556005485340:=()
def tw12365424791092363443:=()
def tw12381251213317618220:=()
def tw12381330968454525607:=()
def tw1238991257329562952:=()
def tw12416215244453532417:=()
def tw12433540804315386266:=()
def tw12449724208724091366:=()
def tw12465116668919231604:=()
def tw12485458206084223325:=()
def tw12559902064571633533:=()
def tw12568339154677951161:=()
def tw12572501378768625265:=()
def tw12593060002153216980:=()
def tw12593678317909508804:=()
def tw12647166090402192866:=()
def tw12647455751863183044:=()
def tw12691222439848484398:=()
def tw12696686906879990753:=()
def tw12705815003708219175:=()
def tw12726299392623486816:=()
def tw12746235966459508917:=()
def tw12786248374686296291:=()
def tw12826262932753464653:=()
def tw12844083588051732471:=()
def tw12890934011011078199:=()
def tw1292722419696524564:=()
def tw12987324233673485507:=()
def tw13009943176879740736:=()
def tw130205235628564236:=()
def tw13042492338668548593:=()
def tw13045845370095082455:=()
def tw13145606280549181901:=()
def tw13176969349557678440:=()
def tw1318795572377437303:=()
def tw1321764949579253725:=()
def tw13229492260486918949:=()
def tw13339285190006484698:=()
def tw13440033931810949365:=()
def tw13450244745347726136:=()
def tw1348743750902826405:=()
def tw13501304825182545283:=()
def tw13544060329095389719:=()
def tw13551691211015405934:=()
def tw13569252898656142799:=()
def tw13578131478098084485:=()
def tw1360374651489957566:=()
def tw1360989004668069199:=()
def tw13616188131027198775:=()
def tw13624531471884137202:=()
def tw13664995462611503695:=()
def tw13694581480710816489:=()
def tw13725856571910157707:=()
def tw13726785891550535342:=()
def tw1375498800660319424:=()
def tw13793586857936060950:=()
def tw13861921338385217905:=()
def tw13880535352256060028:=()
def tw13897436044123976798:=()
def tw13942865232079989953:=()
def tw13945159158075100338:=()
def tw13953643838282935321:=()
def tw14011770992403478316:=()
def tw14012467459187237034:=()
def tw14028486373865085068:=()
def tw14078672132904581219:=()
def tw14106137735276506122:=()
def tw14118034346084129300:=()
def tw14138130684293266638:=()
def tw14169345783718199362:=()
def tw14219858013623143260:=()
def tw14241687236343901423:=()
def tw14269919314031155895:=()
def tw14289583507846904189:=()
def tw14290405784610693041:=()
def tw1432010642221946559:=()
def tw14330469092864324880:=()
def tw14341812405006945081:=()
def tw14363462464481115813:=()
def tw14384114360663442085:=()
def tw14407425758405396008:=()
def tw14473453340065441500:=()
def tw144854336911175064:=()
def tw14485673110427828449:=()
def tw14498348706389724821:=()
def tw14515467970562416325:=()
def tw14546390046106920085:=()
def tw14551172844755873663:=()
def tw14573597305323835175:=()
def tw14587204374762686508:=()
def tw14592300267153997470:=()
def tw14649549897588420034:=()
def tw14660256349226609725:=()
def tw14679424940100385561:=()
def tw14801003721282119301:=()
def tw14810041156448144255:=()
def tw14810076752445210152:=()
def tw14814013920955500505:=()
def tw1482175285840027688:=()
def tw1482216868083782505:=()
def tw14842223753570616442:=()
def tw14858041277839808652:=()
def tw14858335548325462784:=()
def tw14907506026848270807:=()
def tw14915916171090677932:=()
def tw14927884528602932718:=()
def tw14933114412255744212:=()
def tw14941289263837359031:=()
def tw14945098936856499815:=()
def tw14957887668997819818:=()
def tw149694689181368739:=()
def tw14983843622502549989:=()
def tw14998770750344669333:=()
def tw14999538259562152446:=()
def tw15017452866006086474:=()
def tw15049922979520518954:=()
def tw15096515210157807020:=()
def tw15113114272600038994:=()
def tw1512684969410750323:=()
def tw15138298584544121139:=()
def tw1515539113614062483:=()
def tw15204016361181779062:=()
def tw15208392795858068746:=()
def tw15209236030876879614:=()
def tw15216958297336429938:=()
def tw15238473404239507749:=()
def tw15286901237201460944:=()
def tw15294924175820632693:=()
def tw15295844404576597562:=()
def tw15296899716628229732:=()
def tw1532230079175287618:=()
def tw15368695177583420084:=()
def tw15371412805257909047:=()
def tw15403595966660319424:=()
def tw15476303376456744216:=()
def tw15495331675836731717:=()
def tw15609804549253513605:=()
def tw15632801975066576942:=()
def tw1563319046869706949:=()
def tw15635474997286238899:=()
def tw15659912226051809659:=()
def tw15733365062652060860:=()
def tw15736359570228999377:=()
def tw15741016236988796377:=()
def tw15802438867750497786:=()
def tw15820392500598471375:=()
def tw15843639335673010012:=()
def tw1586436830541726728:=()
def tw15864768881809803877:=()
def tw15867101095377504069:=()
def tw15887295332036832904:=()
def tw15891828082918711731:=()
def tw15893691409954051528:=()
def tw15953110647126121276:=()
def tw16074394575410429525:=()
def tw16110740413111856808:=()
def tw16141223238150714427:=()
def tw16147422680239830604:=()
def tw16153328262089066237:=()
def tw16161046369860980048:=()
def tw16169800067839943621:=()
def tw16188300179756327965:=()
def tw16189514327035599006:=()
def tw16195766280623883569:=()
def tw16200646239552811466:=()
def tw16254137230253644911:=()
def tw16266177929695851101:=()
def tw1626697029366681293:=()
def tw16270986821965680073:=()
def tw16298550209807447744:=()
def tw1631050136396234910:=()
def tw16339769225970105079:=()
def tw16341788937572769751:=()
def tw16379707765342196079:=()
def tw16403123579750582477:=()
def tw1641673417249040738:=()
def tw16460855384198550298:=()
def tw16466773641233020052:=()
def tw16476191492484447551:=()
def tw16506996144736318754:=()
def tw16510866314020555338:=()
def tw16517023671128066114:=()
def tw1653278768884393169:=()
def tw1653503539566017930:=()
def tw16536345036418691221:=()
def tw16538383880217873371:=()
def tw16546732526073655062:=()
def tw16560598167793832977:=()
def tw16593737701283212652:=()
def tw16598465729672613130:=()
def tw16620849778532460280:=()
def tw16641698716639729812:=()
def tw16659626672299889583:=()
def tw16710855455535354176:=()
def tw16722170043269009707:=()
def tw16806971214621133689:=()
def tw16828568406641171902:=()
def tw16873972501176693171:=()
def tw16889548359834687450:=()
def tw16904627615693345533:=()
def tw16908929971948126911:=()
def tw16938911743318012130:=()
def tw16945897314456841332:=()
def tw1699916694708538494:=()
def tw17050585066487108192:=()
def tw17064615547503007823:=()
def tw17094037946509086327:=()
def tw17114258175390525673:=()
def tw17115402697688529681:=()
def tw17142922214820046944:=()
def tw17152874867296638053:=()
def tw17169596571156189016:=()
def tw17174513241625826132:=()
def tw17189579977039372931:=()
def tw1721947809091460037:=()
def tw17252607189427345840:=()
def tw17271127530845046630:=()
def tw17300421530515290915:=()
def tw17307003050545765582:=()
def tw17311615551200274220:=()
def tw17399700246155888014:=()
def tw17449091104583442926:=()
def tw17484582922805177775:=()
def tw17507790921815765463:=()
def tw1756529224482647653:=()
def tw17568935531545992308:=()
def tw17606906732823868190:=()
def tw17612385980984830443:=()
def tw176124622517459885:=()
def tw17629698397121314960:=()
def tw17680163220716020400:=()
def tw1769900219587372245:=()
def tw17710773219063116016:=()
def tw17718534079622363479:=()
def tw17723499172563187597:=()
def tw17808739810440443798:=()
def tw17822087914565595361:=()
def tw17827178855086207075:=()
def tw17854770193202101332:=()
def tw17871180700702536981:=()
def tw17871712463434161886:=()
def tw17872340554713957736:=()
def tw17916442113454244963:=()
def tw17927670259759247369:=()
def tw17929011596300214520:=()
def tw17946578293977204822:=()
def tw1795391762074212819:=()
def tw17970626629419289609:=()
def tw18009646749429642837:=()
def tw18011550541941239655:=()
def tw18043423480441864385:=()
def tw18062137087369692761:=()
def tw18064179184935060169:=()
def tw1807400587669348886:=()
def tw18136070491220407789:=()
def tw18137982402427638790:=()
def tw18164277463863012118:=()
def tw18190637213428272672:=()
def tw18219820056256776884:=()
def tw18283328125713331373:=()
def tw183038288529478630:=()
def tw18331529123287066517:=()
def tw18339611396649491137:=()
def tw1837058227685560960:=()
def tw18379977330247526738:=()
def tw18380101017930428064:=()
def tw18419466674266496980:=()
def tw18428989854566229243:=()
def tw18430843935048240917:=()
def tw18431074844811379168:=()
def tw18445631428479501755:=()
def tw1859732177059116185:=()
def tw1860041768208899894:=()
def tw1870591460009603096:=()
def tw188094797070186597:=()
def tw1902003540795415210:=()
def tw1909861530490603929:=()
def tw1930621215156401010:=()
def tw1963608211831028891:=()
def tw1980584284351735533:=()
def tw1982585402980152714:=()
def tw1989675043221759549:=()
def tw1997183027007747673:=()
def tw201423739694231247:=()
def tw2017087304349359278:=()
def tw2052086120889285447:=()
def tw2072966342727343722:=()
def tw2078791013882194283:=()
def tw2083709419928992692:=()
def tw2178711603593743906:=()
def tw2188084200803267372:=()
def tw2278863697390933461:=()
def tw2306216546527751642:=()
def tw2307181673945065100:=()
def tw231076395526945611:=()
def tw231345765873159228:=()
def tw23405666304474983:=()
def tw2345260715360816716:=()
def tw2352579164119509219:=()
def tw2366007080499129775:=()
def tw2406976400002037782:=()
def tw2428009615022629351:=()
def tw2445603849279990884:=()
def tw2445975951801749257:=()
def tw2484193211986350607:=()
def tw2526887719510821219:=()
def tw254668077920705711:=()
def tw2562199211182911699:=()
def tw2618438833252742203:=()
def tw2620961384731008840:=()
def tw2632418707982912381:=()
def tw2648904096153061556:=()
def tw265089094449695534:=()
def tw2654663751687801428:=()
def tw2656002372308719445:=()
def tw269053036901233947:=()
def tw2761564301259070891:=()
def tw276626928405707402:=()
def tw2771574752668798184:=()
def tw28400691869323670:=()
def tw2842778080060964124:=()
def tw2867454536917348151:=()
def tw2900374440734551708:=()
def tw2956494445999963034:=()
def tw296704471979449226:=()
def tw2987779743871128579:=()
def tw2990624657655278668:=()
def tw3017803478949438061:=()
def tw3030544729840721179:=()
def tw3048676206884745982:=()
def tw3050572448511509754:=()
def tw3053401840390949945:=()
def tw306545151086696935:=()
def tw3067261662854943710:=()
def tw3079454454701330179:=()
def tw3086784484444826106:=()
def tw3130122404054057877:=()
def tw3141718391999565980:=()
def tw316236413615791518:=()
def tw3181575455329286202:=()
def tw3259851668990304789:=()
def tw32901501158504515:=()
def tw3309997458451671990:=()
def tw3401353698055890899:=()
def tw3417971947380173849:=()
def tw3454450579925585183:=()
def tw3463885045933970553:=()
def tw3499172804130435261:=()
def tw3531235002568825317:=()
def tw3544275007713350427:=()
def tw3545000238680786275:=()
def tw3558722611817373846:=()
def tw3565402648650449390:=()
def tw3575149290198160954:=()
def tw3580305391855991827:=()
def tw3608408871060221879:=()
def tw361093586032499939:=()
def tw3630057572585925832:=()
def tw3643047489912027575:=()
def tw3690435848526568007:=()
def tw3699146713971569804:=()
def tw3735223307965729362:=()
def tw3738583323836697679:=()
def tw3762903428460514383:=()
def tw3771039398364555202:=()
def tw3812662604781897601:=()
def tw3828623471415928635:=()
def tw3834371889603194884:=()
def tw3897612669920143425:=()
def tw3902306184283796646:=()
def tw3907009114107523176:=()
def tw3926521336145046064:=()
def tw3944994916557754720:=()
def tw3966228614191183285:=()
def tw4021738037199091806:=()
def tw4041417711924607916:=()
def tw4084640449236103005:=()
def tw4084730391832975758:=()
def tw4103565232756373364:=()
def tw4119763923413353110:=()
def tw4138076238579530215:=()
def tw4194023763275792903:=()
def tw4261896923680725933:=()
def tw429101077046471121:=()
def tw4300046443422311318:=()
def tw4351480406958352461:=()
def tw4411173747431228330:=()
def tw4447936320653723862:=()
def tw4462691461921069375:=()
def tw4465711308648086320:=()
def tw4476286525347213358:=()
def tw4480999598122221560:=()
def tw4489306793224526820:=()
def tw4533956493660716723:=()
def tw4564403881720447947:=()
def tw4572263196722368206:=()
def tw4587845802908835794:=()
def tw4597822775662918281:=()
def tw4610439723121066794:=()
def tw4624675349631231807:=()
def tw4652698741772229343:=()
def tw4682308457496547616:=()
def tw468869395994609986:=()
def tw4710497634141874877:=()
def tw4721626944088632686:=()
def tw4757524076424299219:=()
def tw4759520496343911403:=()
def tw4769494864870885077:=()
def tw4776732216581211228:=()
def tw4787743565240420511:=()
def tw4806977442808707751:=()
def tw4828902298810523470:=()
def tw4831037067042618643:=()
def tw4871132118073588510:=()
def tw4883337996927415256:=()
def tw4886663111955124219:=()
def tw4895121340749468877:=()
def tw4915214179107232439:=()
def tw4919890774241766442:=()
def tw4932069256393561358:=()
def tw4978360050238670456:=()
def tw5000476430231798942:=()
def tw5029256790824702821:=()
def tw503081880856378351:=()
def tw5046076036204065883:=()
def tw5049891384785959997:=()
def tw5136911037673186538:=()
def tw5149042756250558861:=()
def tw5211626513920156793:=()
def tw5220380854949033857:=()
def tw5235600197548627969:=()
def tw5241064942328230317:=()
def tw5254357775810273902:=()
def tw5292463128237795515:=()
def tw5295312403359756081:=()
def tw5295799656904109111:=()
def tw5312285854913397479:=()
def tw5335182542942987175:=()
def tw5359576298723149204:=()
def tw5400868698915270484:=()
def tw5433241298661730956:=()
def tw5440572361145917472:=()
def tw5463495433630587762:=()
def tw5465684513296209594:=()
def tw5503329515496409519:=()
def tw550702510091174539:=()
def tw5513675701626722298:=()
def tw5514253846324787531:=()
def tw5522834974640831869:=()
def tw557754423272968285:=()
def tw5579747361043704628:=()
def tw5609274818557818013:=()
def tw5633015758823165437:=()
def tw5638318721429587364:=()
def tw5640469013246737626:=()
def tw5699467494346160026:=()
def tw5737526944880304560:=()
def tw5780189565282557402:=()
def tw5813998813946552452:=()
def tw5815349235443859845:=()
def tw5820087791028384971:=()
def tw5858876286079307136:=()
def tw5860392415975169593:=()
def tw5860844656672895120:=()
def tw5874589932817478162:=()
def tw5879171590357360550:=()
def tw5888640308382436355:=()
def tw5930527528041927150:=()
def tw593437808498123320:=()
def tw5968177764102370883:=()
def tw5976289208081741182:=()
def tw600201166526810068:=()
def tw6043253999471636842:=()
def tw6068950279315962106:=()
def tw6108749511085203209:=()
def tw6155306803771756003:=()
def tw6161462995803815589:=()
def tw6168171812499313109:=()
def tw6171720614025734415:=()
def tw6174683761483559949:=()
def tw6206557193295646514:=()
def tw6206731946593173670:=()
def tw6232208635267126769:=()
def tw623573519657052082:=()
def tw6251905995166506412:=()
def tw6297692226509780722:=()
def tw6304366598258758735:=()
def tw6313475094915654:=()
def tw6328613327078834766:=()
def tw6337416935153112902:=()
def tw6351705468230163739:=()
def tw645284386736243683:=()
def tw6492624919492950796:=()
def tw6494748221479965738:=()
def tw6506155039777590414:=()
def tw6517286486991172813:=()
def tw6522410453966453329:=()
def tw6541161205715459927:=()
def tw6541526454623453507:=()
def tw6594591246940188306:=()
def tw6630923931749088116:=()
def tw6634881694695068075:=()
def tw6710106032928852164:=()
def tw6715634451205604972:=()
def tw6715753073174900398:=()
def tw6751509314902785180:=()
def tw675571635051452117:=()
def tw6787130155282654515:=()
def tw6806251388409431949:=()
def tw6808963902775513926:=()
def tw6837647160897419651:=()
def tw6842687444463651953:=()
def tw6849154307599307692:=()
def tw6879612989891493710:=()
def tw6883805970033074068:=()
def tw6921461588117034216:=()
def tw6927113430341730326:=()
def tw6961259379643941972:=()
def tw6963709489168121934:=()
def tw6964336010607128108:=()
def tw6985649855389028131:=()
def tw7003802962048065673:=()
def tw7015976465418778767:=()
def tw7135963449506404774:=()
def tw715703496853985235:=()
def tw716359276765348444:=()
def tw7215300836744829378:=()
def tw722104209542462711:=()
def tw7246524560131740303:=()
def tw726638826501375132:=()
def tw7286787956523747001:=()
def tw7302781424127163214:=()
def tw7331251879054931748:=()
def tw7340661313452346243:=()
def tw7359774800753997576:=()
def tw7388230519212552379:=()
def tw7401271699533334992:=()
def tw7523758326303285552:=()
def tw7554503985794128506:=()
def tw7558340305142151859:=()
def tw7592078210798864002:=()
def tw7611058353698766354:=()
def tw7613579965489428547:=()
def tw7627063153536407435:=()
def tw7648820124264901471:=()
def tw7679431634091881571:=()
def tw7705171465301290076:=()
def tw7706148257965765527:=()
def tw7732664165339826590:=()
def tw7770336056168174193:=()
def tw7799084038512904035:=()
def tw7801981395438909448:=()
def tw7837101208930906091:=()
def tw7845064199130102696:=()
def tw7846986572278567408:=()
def tw7855839650159190582:=()
def tw7905767916950799690:=()
def tw7932482385365123567:=()
def tw7941667886197919809:=()
def tw7952711247547357987:=()
def tw798777554419116630:=()
def tw7990178304823652748:=()
def tw8021304760051292066:=()
def tw8023873105393516892:=()
def tw8026948062120657421:=()
def tw8043973706623168473:=()
def tw8108067457778572355:=()
def tw8142740575674774672:=()
def tw8182559332258661964:=()
def tw8258644060510352405:=()
def tw8315742351680106123:=()
def tw8335928029848221355:=()
def tw8335955326819091518:=()
def tw8345199784071046971:=()
def tw834798786775905999:=()
def tw8362602531452377203:=()
def tw838371740687852465:=()
def tw8385816707405057114:=()
def tw8439909325948957854:=()
def tw8472214650149818353:=()
def tw8478754987789122625:=()
def tw8483315977708275089:=()
def tw8519104519971320036:=()
def tw8535111098728517326:=()
def tw8539963522366483017:=()
def tw8545944622590408537:=()
def tw8553955219673711673:=()
def tw8608396964039323715:=()
def tw8615500624904641789:=()
def tw8716640383536102094:=()
def tw8718655550619921749:=()
def tw8722887244017127836:=()
def tw8732199006936436985:=()
def tw8819741002021636179:=()
def tw8862587462530648007:=()
def tw8873707957634459637:=()
def tw889835104348966512:=()
def tw8929365290313909029:=()
def tw8932613473760891581:=()
def tw898837930733987419:=()
def tw8989673107062232045:=()
def tw900417314984379335:=()
def tw9014997437403071977:=()
def tw9018394133633318115:=()
def tw9024571515219599476:=()
def tw9086847066250649780:=()
def tw9091896731154753941:=()
def tw9130644297048701795:=()
def tw9131678343116378223:=()
def tw9148449641272648554:=()
def tw9153906714136066445:=()
def tw9170294345136917924:=()
def tw917040515789924135:=()
def tw919960249269496291:=()
def tw9245313989491290383:=()
def tw9282390791273891805:=()
def tw9295690912366114160:=()
def tw9313521511617433422:=()
def tw934270725822327503:=()
def tw93493603254797883:=()
def tw9354935038585590250:=()
def tw9410828259745966555:=()
def tw9535779056119640942:=()
def tw9547890928701261809:=()
def tw9576569863886655120:=()
def tw959238260796429908:=()
def tw9647077985605800512:=()
def tw9648458700258784822:=()
def tw9650137639715907326:=()
def tw965667494288452264:=()
def tw9663521159631151701:=()
def tw9719412354968983574:=()
def tw9724915950884614645:=()
def tw9736506460791706866:=()
def tw9741761818962275600:=()
def tw9745257294975892052:=()
def tw9808227756899653806:=()
def tw9820222525504839891:=()
def tw9873373500860949362:=()
def tw9880640809496354195:=()
def tw9887274967828670849:=()
def tw9888534838824271377:=()
def tw9900401818192739330:=()
def tw9909048727788418466:=()
def tw9920041751853168063:=()
def tw9923558809599820609:=()
def tw9936306691713357436:=()
def tw9977790111273703642:=()
def tw9978950766251848596:=()
def tw9979120927704390313:=()
end PySem.W.Fast
set_option tactic.hygienic true
open PySem PySem.W PyProof.Rows
set_option maxRecDepth 100000 in
set_option maxHeartbeats 0 in
theorem PySem.Challenge.cw_wantway_k43_rings_of_cells_holds : PySem.Challenge.rw_wantway_k43_rings_of_cells.Holds := by
  w_on; o_law; k_head; (case hw => w_witness2)
  k_fill
  refine K4.goes (l := PySem.Challenge.rw_wantway_k43_rings_of_cells) rfl rfl (fun w h Y => PySem.W.kIn_of Y) ?F
  case F =>
    intro w mg fa h KX G hmg
    refine' K4.all_at KX G hmg ?_ ?_ ?_ ?_ ?_ ?_ ?_ ?_ ?_ ?_ ?_ ?_ ?_ ?_ ?_ ?_ ?_ ?_ ?_ ?_ ?_ ?_ ?_ ?_ ?_ ?_ ?_ ?_ ?_ ?_ ?_ ?_ ?_ ?_ ?_ ?_ ?_ ?_ ?_ ?_ ?_ ?_ ?_ ?_ ?_ ?_ ?_ ?_ ?_ ?_ ?_ ?_ ?_ ?_ ?_ ?_ ?_ ?_ ?_ ?_ ?_ ?_ ?_ ?_ ?_ ?_ ?_ ?_ ?_ ?_ ?_ ?_ ?_ ?_ ?_ ?_ ?_ ?_ ?_ ?_ ?_ ?_ ?_ ?_ ?_ ?_ ?_ ?_ ?_ ?_ ?_ ?_ ?_ ?_ ?_ ?_ ?_ ?_ ?_ ?_ ?_ ?_ ?_ ?_ ?_ ?_ ?_ ?_ ?_ ?_ ?_ ?_ ?_ ?_ ?_ ?_ ?_ ?_ ?_ ?_ ?_ ?_ ?_ ?_ ?_ ?_ ?_ ?_ ?_ ?_ ?_ ?_ ?_ ?_ ?_ ?_ ?_ ?_ ?_ ?_ ?_ ?_ ?_ ?_ ?_ ?_ ?_ ?_ ?_ ?_ ?_ ?_ ?_
    any_goals first | k_is | (refine' And.intro ?zz0 (K4.At.of ?zz1 ?zz2 ?zz3); (case zz0 => first | k_is | (constructor <;> k_is)); (case zz1 => k_is); (case zz2 => k_is); (case zz3 => k_is)) | (refine' And.intro ?zz0 (K4.AtD.of ?zz1 ?zz2 ?zz3 ?zz4); (case zz0 => k_is); (case zz1 => k_is); (case zz2 => k_is); (case zz3 => k_is); (case zz4 => k_is)) | (unfold K4.GN; k_is) | (unfold K4.GC; k_is) | (unfold K4.GF; k_is) | (refine' And.intro ?zz0 ?zz1; (case zz0 => k_is); (case zz1 => exact ⟨_, rfl⟩)) | kit_is | k_exc | (refine K4.CA.mk ?_ ?_ ?_ ?_ ?_ ?_ <;> k_is) | (refine And.intro ⟨_, _, rfl, rfl⟩ ?_; k_keys) | kernel_rfl
