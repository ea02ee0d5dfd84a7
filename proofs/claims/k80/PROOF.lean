import PyProof.Rows.All
import Wide.All
import OpenK.AllK
import Wide.FinOn
import KE.KDictList
import KE.KDictOf
import KE.KItemsList
import KE.KRevSl
import KE.KSortTup
import KE.LcSums
import Lean
import PyProof.AttrMissSeq
import PyProof.AutoSeq1
import PyProof.DictWalks
import PyProof.EnumStmt
import PyProof.EqAt
import PyProof.EqKinds
import PyProof.ExcInit
import PyProof.FString4
import PyProof.FactsAll.tuple
import PyProof.ListMulRoad
import PyProof.ListOps
import PyProof.ListRange
import PyProof.MinMaxWalk
import PyProof.NeKinds
import PyProof.Rows.SumGenD
import PyProof.SeqRoads2
import PyProof.StrLawsIn
import PyProof.StrLawsRepr
import PyProof.StrWalks
import PyProof.SumWalk
import PyProof.TupleCall
import PyProof.WalksMore
import PyProof.ZipIter
import PySem.Challenge.RW_wantway_k80_no_sheets
set_option Elab.async false
set_option linter.all false
set_option maxRecDepth 100000
set_option maxHeartbeats 8000000
set_option tactic.hygienic false
section
local macro_rules|`(tactic|exists $es,*)=>`(tactic|refine ⟨$es,*, ?_⟩)
theorem Y{α:Sort u}{a:α}:a=a:=rfl
abbrev ze:=@List.length_singleton
abbrev zf:=@List.map_map
abbrev zg:=@List.getElem?_eq_none_iff
abbrev zh:=@List.mem_filter
abbrev zi:=@List.mem_iff_getElem?
abbrev zj:=@List.getD_eq_getElem?_getD
abbrev zn:=@List.getElem?_append_left
abbrev zo:=@List.find?_cons
abbrev zp:=@List.length_set
abbrev zq:=@List.getElem?_append_right
abbrev zt:=@PySem.W.mg_none_of
abbrev zx:=@Bool.and_eq_true_iff
abbrev zz:=@List.mem_of_find?_eq_some
abbrev zW:=@List.nodup_cons
abbrev zX:=@Nat.lt_irrefl
abbrev zY:=@PySem.wpAny_setField_rec
abbrev zZ:=@PySem.wpAny_truthy_bool
abbrev ya:=@List.getElem?_take
abbrev yb:=@List.getElem?_set_self
abbrev yd:=@PySem.Heap.get?_update_other
abbrev ye:=@PySem.Heap.get?_update_self
abbrev yf:=@List.getElem?_set_ne
abbrev yg:=@PySem.wpAny_Call_Name_kw
abbrev yh:=@Nat.ne_of_gt
abbrev yi:=@List.replicate_succ
abbrev yj:=@PySem.Heap.size_push
abbrev yk:=@PySem.wpAny_newObj_type
abbrev yn:=@List.not_mem_nil
abbrev yp:=@List.take_sublist
abbrev yq:=@List.lookup_cons
abbrev yr:=@Nat.le_max_right
abbrev yt:=@List.length_replicate
abbrev yu:=@List.length_filter_le
abbrev yw:=@PySem.wpAny_standAt
abbrev yx:=@Bool.eq_iff_iff
abbrev yz:=@List.append_nil
abbrev yA:=@Nat.le_max_left
abbrev yB:=@PySem.wpAny_seqItems
abbrev yC:=@List.nodup_append
abbrev yE:=@List.ext_getElem?
abbrev yF:=@List.length_range
abbrev yG:=@PySem.mem_of_lookup
abbrev yH:=@List.getElem?_replicate
abbrev yI:=@List.length_drop
abbrev yJ:=@List.take_length
abbrev yK:=@PySem.W.kia_one
abbrev yL:=@PySem.wpAny_call_entry
abbrev yM:=@PyProof.Rows.callWith_type1
abbrev yN:=@Int.toNat_natCast
abbrev yO:=@List.flatten_cons
abbrev yP:=@List.append_assoc
abbrev yQ:=@Bool.not_eq_true'
abbrev yR:=@List.mem_append_left
abbrev yS:=@Nat.le_succ
abbrev yT:=@Array.getElem?_eq_some_iff
abbrev yU:=@Nat.le_of_eq
abbrev yV:=@Nat.lt_succ_self
abbrev yW:=@List.map_nil
abbrev yX:=@List.getElem_mem
abbrev yY:=@PySem.wpAny_pyIter_list
abbrev yZ:=@List.mem_or_eq_of_mem_set
abbrev y6:=@List.map_take
abbrev y9:=@List.foldl_cons
abbrev vb:=@Nat.min_eq_left
abbrev vc:=@PySem.codeAny_mono
abbrev vd:=@Bool.false_eq_true
abbrev ve:=@List.getElem?_drop
abbrev vf:=@List.mem_range
abbrev vg:=@Nat.succ_mul
abbrev vh:=@List.nodup_nil
abbrev vi:=@PySem.wpAny_attempt
abbrev vk:=@List.take_zero
abbrev vm:=@List.pairwise_map
abbrev vo:=@Nat.lt_trichotomy
abbrev vp:=@PySem.call_meets
abbrev vq:=@PySem.tupleKind_room_in1
abbrev vv:=@PySem.sizeLine_eq
abbrev vw:=@List.take_append_drop
abbrev vx:=@Nat.le_of_not_lt
abbrev vy:=@List.all_eq_true
abbrev vz:=@PySem.W.callWith_K
abbrev vA:=@PySem.wpAny_setField
abbrev vD:=@List.mem_iff_getElem
abbrev vE:=@Nat.mul_le_mul_right
abbrev vF:=@List.forIn_cons
abbrev vG:=@Int.emod_nonneg
abbrev vH:=@List.range_succ
abbrev vI:=@Array.length_toList
abbrev vJ:=@List.getElem?_range
abbrev vK:=@PySem.F.slot_enumerate_next
abbrev vL:=@List.map_congr_left
abbrev vM:=@PySem.Heap.get?_none_of_le
abbrev vN:=@Bool.and_false
abbrev vO:=@List.find?_eq_none
abbrev vP:=@Nat.max_le
abbrev vQ:=@List.filter_append
abbrev vR:=@List.map_replicate
abbrev vS:=@PySem.wpAny_passesOwn
abbrev vT:=@List.flatMap_cons
abbrev vU:=@Option.isSome_iff_exists
abbrev vV:=@PySem.F.args_tuple_add_2
abbrev vW:=@List.any_cons
abbrev vX:=@PySem.F.entry_tuple_add
abbrev vY:=@List.any_eq_true
abbrev vZ:=@PySem.wpAny_rule
abbrev v7:=@Nat.le_add_right
abbrev v8:=@Nat.not_lt_of_lt
abbrev ja:=@List.getElem?_cons_zero
abbrev jb:=@PySem.F.slot_tuple_add
abbrev jc:=@Option.map_some
abbrev jd:=@PySem.F.slot_dict_get
abbrev je:=@PySem.wpAny_list_append_plain
abbrev jf:=@List.filterMap_cons
abbrev jg:=@PySem.wpAny_typeOf
abbrev jh:=@Nat.add_sub_cancel'
abbrev ji:=@List.flatMap_append
abbrev jj:=@PySem.wpAny_execs_nil
abbrev jm:=@List.all_cons
abbrev jn:=@PySem.F.slot_int_rmul
abbrev jo:=@PySem.F.slot_zip_next
abbrev jp:=@Bool.true_and
abbrev jq:=@Nat.lt_of_le_of_lt
abbrev jr:=@PySem.W.looks_findIn
abbrev jt:=@Int.emod_lt_of_pos
abbrev ju:=@Option.isSome_map
abbrev jw:=@PySem.codeAny_call_builtin
abbrev jx:=@Nat.lt_or_ge
abbrev jy:=@List.all_map
abbrev jz:=@PySem.wpAny_updateSeq_pair
abbrev jA:=@Nat.sub_self
abbrev jB:=@List.take_add_one
abbrev jC:=@List.foldl_append
abbrev jD:=@List.find?_append
abbrev jE:=@PyProof.Rows.slot_tuple_getitem
abbrev jF:=@PySem.Heap.get?_update_ne
abbrev jG:=@List.mem_flatMap
abbrev jH:=@List.mem_nil_iff
abbrev jI:=@List.filter_cons
abbrev ZA:=@List.length_map
abbrev ZC:=@List.getElem?_eq_getElem
abbrev ZD:=@PySem.Heap.get?_push_of_some
abbrev ZE:=@List.getElem?_eq_some_iff
abbrev ZF:=@Nat.le_refl
abbrev ZG:=@List.getElem?_map
abbrev ZH:=@List.mem_of_getElem?
abbrev ZI:=@List.map_append
abbrev ZJ:=@List.length_append
abbrev ZK:=@List.mem_cons_of_mem
abbrev ZL:=@List.length_take
abbrev ZM:=@List.size_toArray
abbrev ZN:=@PySem.Heap.lt_size
abbrev ZO:=@List.mem_singleton
abbrev ZP:=@Option.some.inj
abbrev ZQ:=@List.mem_append_right
abbrev ZT:=@List.map_cons
abbrev ZU:=@List.mem_map
abbrev ZV:=@List.mem_append
abbrev ZW:=@PySem.Heap.get?_push_size
abbrev ZX:=@Bool.and_eq_true
abbrev ZY:=@List.mem_cons_self
abbrev ZZ:=@Nat.le_trans
abbrev Za:=@Nat.zero_le
abbrev Zb:=@List.mem_cons
abbrev Zc:=@Nat.ne_of_lt
abbrev Zd:=@List.length_cons
abbrev Ze:=@List.take_of_length_le
abbrev Zf:=@Nat.le_of_lt
abbrev Zg:=@Bool.false_ne_true
abbrev Zh:=@Option.map_eq_some_iff
abbrev Zi:=@List.mem_of_mem_take
abbrev Zj:=@PySem.wpAny_bind
abbrev Zk:=@PySem.wpAny_pure
abbrev Zl:=@PySem.wpAny_mono
abbrev Zm:=@PySem.wpAny_field
abbrev Zn:=@if_pos
abbrev Zo:=@if_neg
abbrev Zp:=@absurd
abbrev Zq:=@Ne.symm
abbrev Zr:=@of_decide_eq_true
abbrev Zs:=@PySem.boot_len
abbrev Zt:=@PySem.PassesOwn.never
abbrev Zu:=@Nat.not_lt_zero
abbrev Zv:=@Nat.lt_of_lt_of_le
abbrev Zw:=@decide_eq_false
abbrev Zx:=@PySem.F.plainAttrs_list
abbrev Zy:=@PySem.F.slot_list_append
abbrev Zz:=@PySem.F.type_list_append
local macro_rules|`(tactic|omega)=>`(tactic|lia)
namespace L2
open PySem PySem.Spec PyProof.Rows
def sl(n:Nat)(h:n<=sizeLine:=by decide):n<=sizeLine:=h
abbrev Key:=Sum Int Str
abbrev kX:=List Expr
abbrev kW:=List (List Int)
abbrev kU:=Str->Nat
abbrev kI:=Array Value
abbrev kH:=Option Addr
abbrev kF:=List Addr
abbrev kE:=List Int
abbrev kB:=Option Int
abbrev ky:=List Str
abbrev kq:=List Value
abbrev ko:=Value->Shared->Prop
abbrev kh:=List (Addr×Obj)
def JY:Key->Value->Bool
 |.inl k,v=>Value.isInt k v
 |.inr x,v=>Value.isStrOf x v
def zC(w:World):Key->Int
 |.inl k=>hashInt k
 |.inr x=>hashStr w x
theorem Va:∀{k:Key}{v:Value},JY k v=true->(∃i t,k=Sum.inl i/\v=Value.int i t)\/(∃x t,k=Sum.inr x/\v=Value.str x t)
 |.inl i,v,h=>by
  obtain⟨t,e⟩:=Value.isInt_shape (k:=i) (v:=v) h;exact .inl ⟨i,t,Y,e⟩
 |.inr x,v,h=>by
  obtain⟨t,e⟩:=Value.isStrOf_shape (x:=x) (v:=v) h;exact .inr ⟨x,t,Y,e⟩
def FT(i:Int)(t:Tok):JY (.inl i) (.int i t)=true:=by simp[JY,Value.isInt]
def Rc(x:Str)(t:Tok):JY (.inr x) (.str x t)=true:=by simp[JY,Value.isStrOf]
def SZ(a b:Int):decide ((Sum.inl a:Key)=Sum.inl b)=(a==b):=by
 by_cases e:a=b
 .subst e;simp
 .have h:¬(Sum.inl a:Key)=Sum.inl b:=λq=>e<|Sum.inl.inj q
  rw[Zw h];exact(beq_eq_false_iff_ne.mpr e).symm
def SW(a b:Str):decide ((Sum.inr a:Key)=Sum.inr b)=decide (a=b):=by
 by_cases e:a=b
 .subst e;simp
 .have h:¬(Sum.inr a:Key)=Sum.inr b:=λq=>e<|Sum.inr.inj q
  rw[Zw h,Zw e]
def SY(a:Int)(b:Str):decide ((Sum.inl a:Key)=Sum.inr b)=false:=Zw λq=>nomatch q
def SX(a:Str)(b:Int):decide ((Sum.inr a:Key)=Sum.inl b)=false:=Zw λq=>nomatch q
def VC(prog:Program)(w:World):PySem.KeyKind prog w Key where
 is:=JY
 hash:=zC w
 inj:=λv a b M G=>by
  rcases Va M with⟨i,t,rfl,rfl⟩|⟨x,t,rfl,rfl⟩
  .rcases Va G with⟨j,u,rfl,e⟩|⟨y,u,rfl,e⟩
   .injection e with Z _;rw[Z]
   .exact nomatch e
  .rcases Va G with⟨j,u,rfl,e⟩|⟨y,u,rfl,e⟩
   .exact nomatch e
   .injection e with Z _;rw[Z]
 byValue:=λk v h=>by
  rcases Va h with⟨i,t,rfl,rfl⟩|⟨x,t,rfl,rfl⟩ <;> rfl
 pyHash:=λJ h=>by
  rcases Va J with⟨i,t,rfl,rfl⟩|⟨x,t,rfl,rfl⟩
  .exact wpAny_pyHash_int h
  .exact wpAny_pyHash_str h
 eqBool:=λL J h=>by
  rcases Va L with⟨i,t,rfl,rfl⟩|⟨x,t,rfl,rfl⟩
  .rcases Va J with⟨j,u,rfl,rfl⟩|⟨y,u,rfl,rfl⟩
   .rw [SZ]at h;exact wpAny_eqBool_int h
   .rw [SY]at h;exact SeqAt.EqAt.int_str i t y u _ _ _ _ h
  .rcases Va J with⟨j,u,rfl,rfl⟩|⟨y,u,rfl,rfl⟩
   .rw [SX]at h;exact SeqAt.EqAt.str_int x t j u _ _ _ _ h
   .rw [SW]at h;exact wpAny_eqBool_str h
 «strs»:=λk x t v h=>by
  rcases Va h with⟨i,u,rfl,e⟩|⟨y,u,rfl,e⟩
  .exact nomatch e
  .injection e with Z _
   subst Z;cases v <;> rfl
def Nm(Z:Program)(w:World)(i:Int)(t:Tok):(VC Z w).is (.inl i) (.int i t)=true:=FT i t
def Nl(Z:Program)(w:World)(x:Str)(t:Tok):(VC Z w).is (.inr x) (.str x t)=true:=Rc x t
inductive V where
 |non|bl (b:Bool)|int (i:Int)|str (x:Str)|byt (b:Array UInt8)|flt (b:UInt64)|ref (a:Addr)|ty (n:String)
 deriving DecidableEq
abbrev kO:=Option V
abbrev kK:=List V
abbrev kJ:=List (Key×V)
def RelV:V->Value->Prop
 |.non,u=>u=Value.none
 |.bl b,u=>u=Value.bool b
 |.int i,u=>∃t,u=Value.int i t
 |.str x,u=>∃t,u=Value.str x t
 |.byt b,u=>∃t,u=Value.bytes b t
 |.flt b,u=>∃t,u=Value.float b t
 |.ref a,u=>u=Value.ref a
 |.ty n,u=>u=Value.type n
abbrev Vals:List V->List Value->Prop:=Paired RelV
def Vals.length(r:Vals Z J):Z.length=J.length:=Paired.length r
theorem Vals.get:∀{Z:kK}{J:kq}{i:Nat}{x:V},Vals Z J->Z[i]?=some x->∃u,J[i]?=some u/\RelV x u
 |_,_,_,_,.nil,e=>by simp at e
 |_,_,0,_,.cons r _,e=>by simp at e;subst e;exact⟨_,Y,r⟩
 |_,_,i+1,x,.cons _ t,e=>by
  obtain⟨u,L,G⟩:=Vals.get (i:=i) (x:=x) t (by simpa using e);exact⟨u,by simpa using L,G⟩
theorem Vals.set(r:RelV x u):∀{Z:kK}{J:kq}(i:Nat),Vals Z J->Vals (Z.set i x) (J.set i u)
 |_,_,_,.nil=>.nil
 |_,_,0,.cons _ t=>.cons r t
 |_,_,i+1,.cons q t=>.cons q<|Vals.set r i t
theorem Vals.append:∀{Z ys:kK}{G J:kq},Vals Z G->Vals ys J->Vals (Z++ ys) (G++ J)
 |_,_,_,_,.nil,s=>s
 |_,_,_,_,.cons r t,s=>.cons r<|Vals.append t s
theorem Vals.take:∀{Z:kK}{J:kq}(n:Nat),Vals Z J->Vals (Z.take n) (J.take n)
 |_,_,0,_=>.nil
 |_,_,_+1,.nil=>.nil
 |_,_,n+1,.cons r t=>.cons r<|Vals.take n t
theorem Vals.drop:∀{Z:kK}{J:kq}(n:Nat),Vals Z J->Vals (Z.drop n) (J.drop n)
 |_,_,0,r=>r
 |_,_,_+1,.nil=>.nil
 |_,_,n+1,.cons _ t=>Vals.drop n t
def US:Option V->Option Value->Prop
 |some v,some u=>RelV v u
 |none,none=>True
 |_,_=>False
def KV{κ:Type}:List (κ×V)->List (κ×Value)->Prop:=Paired λ(p:κ×V)(q:κ×Value)=>p.1=q.1/\RelV p.2 q.2
def kV:Key->V
 |.inl i=>.int i
 |.inr x=>.str x
inductive HO where
 /-- a list -/
 |lst (xs:List V)
 /-- a tuple (never changes) -/
 |tup (xs:List V)
 /-- a dict whose keys are ints and texts;one whose keys are tuples of ints and texts (the empty one is both) -/
 |dK (kvs:List (Key×V))|dT (kvs:List (List Key×V))
 /-- a set of ints:its members,its size -/
 |set (S:Int->Bool) (n:Nat)
 /-- an instance of the class at C,its dict at dx,its attributes -/
 |ins (C dx:Addr) (fs:List (Str×V))
 /-- the dict of the instance at x -/
 |own (x:Addr)
 /-- the dict of an exception -/
 |xd (fs:List (Str×V))
 /-- a bound method,f of x -/
 |met (f x:Addr)
 /-- a range object lo,lo+1,.. below hi -/
 |rng (lo hi:Int)
 /-- a thing that is known to the object (the script;a dict while a loop walks it):read,never written while it is so -/
 |frz (o:Obj) (u:HO)
 /-- a code object's table -/
 |tbl (ps:Array Value)
 /-- any other thing,by what is true of its one object (a def of one's own:SetO a S n:=HO.ext λh=>..) -/
 |ext (φ:Heap->Prop)
abbrev Hp:=Addr->Option HO
def upd(H:Hp)(a:Addr)(o:HO):Hp:=λb=>if b=a then some o else H b
def YZ:upd H a o a=some o:=by unfold upd;rw[Zn rfl]
def Yc(h:b≠a):upd H a o b=H b:=by unfold upd;rw[Zo h]
def V8{H:Hp}(h:H a=some o)(Z:H b=some u)(d:o≠u):a≠b:=by
 intro e;subst e;rw[h]at Z;exact d<|ZP Z
def Yk{H:Hp}(h:H a=some o)(Z:H b=none):a≠b:=by
 intro e;subst e;rw[h]at Z;cases Z
def GG(h:Heap)(a:Addr)(items:kI):Prop:=∃o,h.get? a=some o/\o.dict=none/\o.cls=.type "tuple" /\∃n,o.data=.seq items n
def GG.is(x:GG h a items):IsTup h a items:=let⟨o,G,_,J,Z⟩:=x;⟨o,G,J,Z⟩
def GG.keeps(x:GG h a items)(J:∀b o,h.get? b=some o->G.get? b=some o):GG G a items:=let⟨o,Z,r⟩:=x;⟨o,J a o Z,r⟩
def GG.new(h:Heap)(items:kI):GG (h.push {cls:=.type "tuple",data:=.seq items}) h.objs.size items:=⟨_,ZW _ rfl,rfl,rfl,_,rfl⟩
section
variable(P:Program)(w:World)
def VN(H:Hp)(h:Heap)(a:Addr):HO->Prop
 |.lst xs=>xs.length<=sizeLine/\∃(its:kq)(n:Nat),Vals xs its/\h.get? a=some {cls:=.type "list",data:=.seq its.toArray n}
 |.tup xs=>xs.length<=sizeLine/\∃its:kq,Vals xs its/\GG h a its.toArray
 |.dK kvs=>kvs.length<=sizeLine/\(a==sysModules)=false/\∃vs,KV kvs vs/\h.DictOf (VC P w) a vs
 |.dT kvs=>kvs.length<=sizeLine/\(a==sysModules)=false/\∃xs:List (List Key×Addr×Value),
   Paired (λ(p:List Key×V)(q:List Key×Addr×Value)=>p.1=q.1/\H q.2.1=some (.tup<|p.1.map kV)/\RelV p.2 q.2.2) kvs xs/\
   ∃o es ep,h.get? a=some o/\o.ExactDict/\o.data=.dict es ep/\es.toList=xs.map (entryOfKey<|tupleKind<|VC P w)/\(xs.map (·.1)).Nodup
 |.set S n=>h.SetOf (intKind P w) a S n
 |.ins C dx fs=>H dx=some (.own a)/\fs.length<=1000/\dx≠a/\h.get? a=some (W.instObj C dx)/\
   ∃mA,h.Ns1 dx mA/\(∀f,US (fs.lookup f)<|mA f)/\PySem.Within mA (fs.map (·.1))
 |.own _=>∃o,h.get? a=some o
 |.xd fs=>∃mA,h.Ns1 a mA/\∀f,US (fs.lookup f)<|mA f
 |.rng lo hi=>∃t u v,h.get? a=some {cls:=.type "range",data:=.fields #[.int lo t,.int hi u,.int 1 v]}
 |.frz o u=>h.get? a=some o/\VN H h a u
 |.tbl ps=>h.get? a=some {cls:=.none,data:=.fields ps}
 |.met f x=>h.get? a=some (W.methodObj (.ref f)<|.ref x)
 |.ext φ=>φ h/\(∃o,h.get? a=some o)/\∀h1 h2:Heap,φ h1->(∀o,h1.get? a=some o->h2.get? a=some o)->φ h2
def HOk(H:Hp)(h:Heap):Prop:=∀a o,H a=some o->VN P w H h a o
end
section
def VN.lt(x:VN P w H h a o):a<h.objs.size:=by
 cases o with
 |lst J=>obtain⟨_,_,_,_,e⟩:=x;exact ZN e
 |tup J=>obtain⟨_,_,_,p⟩:=x;exact p.is.lt
 |dK Z=>obtain⟨_,_,_,_,o,_,_,e,_⟩:=x;exact ZN e
 |dT Z=>obtain⟨_,_,_,_,o,_,_,e,_⟩:=x;exact ZN e
 |set S n=>obtain⟨o,_,_,_,e,_⟩:=x;exact ZN e
 |ins C R G=>obtain⟨_,_,_,e,_⟩:=x;exact ZN e
 |own y=>obtain⟨_,e⟩:=x;exact ZN e
 |xd G=>obtain⟨_,⟨_,_,_,e,_⟩,_⟩:=x;exact ZN e
 |rng N O=>obtain⟨_,_,_,e⟩:=x;exact ZN e
 |frz M u=>obtain⟨e,_⟩:=x;exact ZN e
 |tbl L=>exact ZN (show h.get? a=some _ from x)
 |met f y=>exact ZN (show h.get? a=some _ from x)
 |ext φ=>obtain⟨_,⟨_,e⟩,_⟩:=x;exact ZN e
theorem Paired.mapP:∀{J:List α}{Z:List β},Paired F J Z->(∀a b,F a b->G a b)->Paired G J Z
 |_,_,.nil,_=>.nil
 |_,_,.cons r t,f=>.cons (f _ _ r)<|Paired.mapP t f
def VN.stay(x:VN P w H h a o)(k:∀b u,(b=a\/H b=some (.own a))->h.get? b=some u->T.get? b=some u)(U:∀b,H b=some (.own a)->E b=some (.own a))(I:∀b M,H b=some (.tup M)->E b=some (.tup M)):VN P w E T a o:=by
 induction o with
 |lst M=>obtain⟨z,L,n,r,e⟩:=x;exact⟨z,L,n,r,k _ _ (.inl Y) e⟩
 |tup M=>obtain⟨z,L,r,Z,e,c⟩:=x;exact⟨z,L,r,Z,k _ _ (.inl Y) e,c⟩
 |dK R=>obtain⟨z,y,F,r,Z,J,G,e,c⟩:=x;exact⟨z,y,F,r,Z,J,G,k _ _ (.inl Y) e,c⟩
 |dT R=>
  obtain⟨z,y,M,r,Z,J,G,e,c⟩:=x;exact⟨z,y,M,Paired.mapP r λp q z=>⟨z.1,I _ _ z.2.1,z.2.2⟩,Z,J,G,k _ _ (.inl Y) e,c⟩
 |set S n=>obtain⟨Z,J,G,t,e,c⟩:=x;exact⟨Z,J,G,t,k _ _ (.inl Y) e,c⟩
 |ins C g X=>
  obtain⟨d,z,A,e,O,⟨N,J,G,Q,c⟩,r⟩:=x;exact⟨U _ d,z,A,k _ _ (.inl Y) e,O,⟨N,J,G,k _ _ (.inr d) Q,c⟩,r⟩
 |own y=>obtain⟨Z,e⟩:=x;exact⟨Z,k _ _ (.inl Y) e⟩
 |xd X=>obtain⟨O,⟨N,J,G,e,c⟩,r⟩:=x;exact⟨O,⟨N,J,G,k _ _ (.inl Y) e,c⟩,r⟩
 |rng j m=>obtain⟨t,u,v,e⟩:=x;exact⟨t,u,v,k _ _ (.inl Y) e⟩
 |frz Z u ih=>obtain⟨e,q⟩:=x;exact⟨k _ _ (.inl Y) e,ih q⟩
 |tbl D=>
  have e:h.get? a=some {cls:=.none,data:=.fields D}:=x;show T.get? a=some {cls:=.none,data:=.fields D};exact k a _ (.inl Y) e
 |met f y=>
  have e:h.get? a=some (W.methodObj (.ref f)<|.ref y):=x;show T.get? a=some (W.methodObj (.ref f)<|.ref y);exact k a _ (.inl Y) e
 |ext φ=>obtain⟨p,⟨o,e⟩,B⟩:=x;exact⟨B _ _ p λo q=>k _ _ (.inl Y) q,⟨o,k _ _ (.inl Y) e⟩,B⟩
def HOk.lt(x:HOk P w H h)(e:H a=some o):a<h.objs.size:=(x a o e).lt
def HOk.fresh(x:HOk P w H h)(e:h.objs.size<=a):H a=none:=by
 cases q:H a with
 |none=>rfl
 |some u=>exact Zp (Zv (x.lt q) e)<|zX _
def HOk.kept(x:HOk P w H h)(k:∀b u,h.get? b=some u->Z.get? b=some u):HOk P w H Z:=λa o e=>
 (x a o e).stay (λb u _ q=>k b u q) (λ_ q=>q) λ_ _ q=>q
def HOk.laid(x:HOk P w H h)(k:∀b u,h.get? b=some u->h'.get? b=some u)(G:h.objs.size<=a)(Z:VN P w (upd H a o) h' a o):HOk P w (upd H a o) h':=λb u e=>by
 have J:=x.fresh G
 by_cases hb:b=a
 .subst hb;rw[YZ]at e;cases e;exact Z
 .rw [Yc hb]at e
  exact(x b u e).stay (λc v _ q=>k c v q) (λc q=>by rw[Yc (Yk q J)];exact q) λc L q=>by rw[Yc (Yk q J)];exact q
end
def Rd(H:Hp)(a:Addr)(u:HO):Prop:=H a=some u \/ ∃o,H a=some (.frz o u)
def Rd.of(h:H a=some u):Rd H a u:=.inl h
def Rd.ok(r:Rd H a u)(x:HOk P w H h):VN P w H h a u:=by
 rcases r with r|⟨o,r⟩
 .exact x a u r
 .obtain ⟨_,q⟩:=x a _ r
  exact q
def Mut:Option HO->Prop
 |some (.lst _)=>True
 |some (.dK _)=>True
 |some (.dT _)=>True
 |some (.set _ _)=>True
 |some (.ins _ _ _)=>True
 |some (.ext _)=>True
 |_=>False
section
def HOk.write(T:HOk P w H h)(L:Mut (H x))(R:e=x\/H e=some (.own x))(k:∀b u,b≠e->h.get? b=some u->h'.get? b=some u)(O:∃u,h'.get? e=some u)(N:VN P w (upd H x o') h' x o'):HOk P w (upd H x o') h':=λb u q=>by
 have Z:∀c y,H c=some (.own y)->c≠x:=λc y r z=>by subst z;rw[r]at L;exact L
 have J:∀c G,H c=some (.tup G)->c≠x:=λc G r z=>by subst z;rw[r]at L;exact L
 by_cases hb:b=x
 .subst hb;rw[YZ]at q;cases q;exact N
 .rw [Yc hb]at q
  by_cases hbe:b=e
  .have q':H b=some (.own x):=by
    rcases R with z|z
    .exact Zp (hbe.trans z) hb
    .rw [hbe];exact z
   rw[q]at q';cases q';obtain⟨v,B⟩:=O;exact⟨v,by rw[hbe];exact B⟩
  .refine (T b u q).stay (λc v M r=>k c v ?_ r) (λc r=>by rw[Yc (Z c b r)];exact r) λc G r=>by rw[Yc (J c G r)];exact r
   rcases M with rfl|M
   .exact hbe
   .rintro rfl
    rcases R with z|z
    .exact Z c b M z
    .rw [M]at z;cases z;exact hb Y
end
structure Un(fs ex:List Addr)(H H':Hp)(h h':Heap):Prop where
 keep:∀b o,h.get? b=some o->H b=none->b∉fs->b∉ex->h'.get? b=some o
 slot:∀b o,h.get? b=some o->H b=none->b∈fs->b∉ex->∃sl,h'.get? b=some {o with slots:=sl}
 free:∀b o,h.get? b=some o->H b=none->b∉ex->H' b=none
 there:∀b o,h.get? b=some o->b∉ex->∃o',h'.get? b=some o'
 tups:∀b xs,H b=some (.tup xs)->H' b=some (.tup xs)
 frzs:∀b o u,H b=some (.frz o u)->H' b=some (.frz o u)
 tbls:∀b ps,H b=some (.tbl ps)->∃more,H' b=some (.tbl (ps++ more))
section
variable{fs fs' ex ex':kF}{H H1 H2:Hp}{h h1 h2 h':Heap}{a x e:Addr}{o:HO}
def Un.any(u:Un fs ex H H1 h h1)(q:h.get? b=some ob)(n:H b=none)(J:b∉ex):∃sl,h1.get? b=some {ob with slots:=sl}:=by
 by_cases hb:b∈fs
 .exact u.slot b ob q n hb J
 .exact ⟨ob.slots,u.keep b ob q n hb J⟩
def Un.kept(k:∀b u,h.get? b=some u->h'.get? b=some u):Un fs ex H H h h':=
 ⟨λb Z q _ _ _=>k b Z q,λb Z q _ _ _=>⟨Z.slots,k b Z q⟩,λ_ _ _ n _=>n,λb Z q _=>⟨Z,k b Z q⟩,λ_ _ q=>q,λ_ _ _ q=>q,λ_ J q=>⟨#[],by rw[q];simp⟩⟩
def Un.refl:Un fs ex H H h h:=Un.kept λ_ _ q=>q
def Un.laid(k:∀b u,h.get? b=some u->h'.get? b=some u)(G:h.objs.size<=a)(Z:H a=none):Un fs ex H (upd H a o) h h' where
 keep:=λb u q _ _ _=>k b u q
 slot:=λb u q _ _ _=>⟨u.slots,k b u q⟩
 free:=λb u q n _=>by rw[Yc (Zc<|Zv (ZN q) G)];exact n
 there:=λb u q _=>⟨u,k b u q⟩
 tups:=λb J q=>by rw[Yc (Yk q Z)];exact q
 frzs:=λb u J q=>by rw[Yc (Yk q Z)];exact q
 tbls:=λb L q=>⟨#[],by rw[Yc (Yk q Z),q];simp⟩
def Un.write(Z:Mut (H x))(R:e=x\/H e=some (.own x))(k:∀b u,b≠e->h.get? b=some u->h'.get? b=some u)(G:∃u,h'.get? e=some u):Un fs ex H (upd H x o) h h':=by
 have L:∀b,H b=none->b≠x:=λb n z=>by subst z;rw[n]at Z;exact Z
 have M:∀b,H b=none->b≠e:=λb n z=>by
  subst z;rcases R with r|r
  .exact L b n r
  .rw [n]at r;cases r
 have J:∀b u,H b=some u->¬Mut (some u)->b≠x:=λb u q O z=>by subst z;rw[q]at Z;exact O Z
 refine⟨λb u q n _ _=>k b u (M b n) q,λb u q n _ _=>⟨u.slots,k b u (M b n) q⟩,λb u q n _=>by rw[Yc (L b n)];exact n,λb u q _=>?_,
  λb N q=>by rw[Yc (J b _ q λz=>z)];exact q,λb u N q=>by rw[Yc (J b _ q λz=>z)];exact q,λb T q=>⟨#[],by rw[Yc (J b _ q λz=>z),q];simp⟩⟩
 by_cases hbe:b=e
 .subst hbe;exact G
 .exact ⟨u,k b u hbe q⟩
end
def trk(h:Heap)(H:Hp):kF:=(List.range h.objs.size).filter λa=>(H a).isSome
def Ms(h:Heap)(H:Hp):Heap:=W.hideAll h<|trk h H
def FW(h:Heap)(H:Hp):(Ms h H).objs.size=h.objs.size:=W.hideAll_size _ _
def LE(e:h.get? b=some o)(n:H b=none):(Ms h H).get? b=some o:=
 W.hideAll_get _ e λZ=>by
  have q:(H b).isSome=true:=(zh.mp Z).2;rw[n]at q;simp at q
def O3(e:(Ms h H).get? b=some o):h.get? b=some o/\H b=none:=by
 have Z:h.get? b=some o:=W.of_hideAll (trk h H) e;exists Z
 cases q:H b with
 |none=>rfl
 |some x=>
  have J:b∈trk h H:=zh.mpr ⟨vf.mpr<|ZN Z,by simp[q]⟩;have z:(Ms h H).get? b=none:=W.hideAll_none (trk h H) J;rw[z]at e;cases e
structure Mod(K:W.Frag)(mg:Str->Option Value)(base:Heap):Prop where
 kin:K.In base
 glob:base.Ns mainGlobals mg
 blt:∃mb,base.Ns builtinsNs mb/\∀x:Str,x≠"__name__" ->mb x=bootBuiltins x
 nolimit:base.NoLimit
structure Cx where
 prog:Program
 w:World
 K:W.Frag
 mg:Str->Option Value
 base:Heap
 A:Around
 N:List Str
 s₀:Shared
 H₀:Hp
 env:Env
 outer:List Env
 stack:List Env
 ex:List Addr
 fn:Str->Bool
 calm:Bool
 pn:List (Addr×Obj)
 xe:Value->Shared->Prop
def frs(l:List Env):kF:=l.filterMap (·.frame)
abbrev Cx.fs(X:Cx):kF:=frs X.outer
def Vis(sc:Scope)(x:Str):Prop:=sc.names.lookup x=some .local\/sc.names.lookup x=some .cell\/sc.names.lookup x=some .free
def Loc(sc:Scope)(x:Str):Prop:=sc.names.lookup x=some .local\/sc.names.lookup x=some .cell
def Look(env:Env)(h:Heap)(m:Str->Option Value)(x:Str)(u:Value):Prop:=
 (env.kindOf x=some .local/\m x=some u)\/((env.kindOf x=some .cell\/env.kindOf x=some .free)/\∃c,env.cells.lookup x=some c/\h.IsCell c (some u))
structure Cx.Ok(X:Cx):Prop where
 mod:Mod X.K X.mg X.base
 kind:X.env.scope.kind=.function
 glob:X.env.globals=mainGlobals
 blt:X.env.builtins=builtinsNs
 above:X.s₀.heap.objs.size<=X.env.locals
 inj:∀x y c,X.env.cells.lookup x=some c->X.env.cells.lookup y=some c->x=y
 has:∀x,(X.env.kindOf x=some .cell\/X.env.kindOf x=some .free)->∃c,X.env.cells.lookup x=some c
 cab:∀x c,X.fn x=true->X.env.cells.lookup x=some c->X.s₀.heap.objs.size<=c
 hd:X.calm=true->X.A.handled=none
 frames:X.A.frames=some X.stack
 stk:X.stack=X.outer\/(X.stack=X.env::X.outer/\X.env.frame=some X.env.locals)
 exf:∀b∈X.ex,b≠X.env.locals/\∀x c,X.env.cells.lookup x=some c->c≠b
 bs:∀b o,X.base.get? b=some o->X.s₀.heap.get? b=some o/\X.H₀ b=none
 bsz:X.base.objs.size<=X.s₀.heap.objs.size
 noex:∀b o,X.base.get? b=some o->b∉X.ex
 exfs:∀b∈X.ex,b∉X.fs
 funs:X.s₀.heap.FunFrames X.base X.outer
 frf:∀b∈X.fs,X.H₀ b=none
structure Inv(X:Cx)(pins:List (Addr×Obj))(U:List (Option V))(H:Hp)(s:Shared):Prop where
 ok:X.Ok
 os:s.os=X.s₀.os
 bare:AllBare s.gens
 base:Un X.fs X.ex X.H₀ H X.s₀.heap s.heap
 loc:∃m,s.heap.Ns X.env.locals m/\∀(i:Nat)(x:Str)(v:V),X.N[i]?=some x->U[i]?=some (some v)->Vis X.env.scope x->∃u,RelV v u/\Look X.env s.heap m x u
 cell:∀x c,X.env.cells.lookup x=some c->∃v,s.heap.IsCell c v
 free:H X.env.locals=none
 freeC:∀x c,X.env.cells.lookup x=some c->H c=none
 pin:∀p∈X.pn++ pins,s.heap.get? p.1=some p.2/\H p.1=none/\p.1≠X.env.locals/\p.1∉X.fs/\∀v,p.2.data≠.cell v
 hok:HOk X.prog X.w H s.heap
 len:U.length=X.N.length
section
variable{X:Cx}
def Cx.Ok.nofr(Z:X.Ok)(e:X.base.get? b=some o):b∉X.fs:=λJ=>by
 have:=(Z.funs.mem J).1;rw[e]at this;cases this
def Inv.bs(I:Inv X Z U H s):∀b o,X.base.get? b=some o->s.heap.get? b=some o/\H b=none:=λb o e=>
 ⟨I.base.keep b o (I.ok.bs b o e).1 (I.ok.bs b o e).2 (I.ok.nofr e)<|I.ok.noex b o e,I.base.free b o (I.ok.bs b o e).1 (I.ok.bs b o e).2<|I.ok.noex b o e⟩
def Inv.bk(I:Inv X Z U H s):∀b o,X.base.get? b=some o->s.heap.get? b=some o:=λb o e=>(I.bs b o e).1
def Inv.mod(I:Inv X Z U H s):Mod X.K X.mg X.base:=I.ok.mod
def Inv.kIn(I:Inv X Z U H s):X.K.In s.heap:=I.ok.mod.kin.keeps I.bk
def Inv.lt(I:Inv X Z U H s):X.env.locals<s.heap.objs.size:=let⟨_,J,_⟩:=I.loc;J.lt
def Inv.sz(I:Inv X Z U H s):X.s₀.heap.objs.size<=s.heap.objs.size:=ZZ I.ok.above<|Zf I.lt
def Inv.nofs(I:Inv X Z U H s)(h:s.heap.objs.size<=a):a∉X.fs:=λG=>by
 obtain⟨_,o,J,_⟩:=I.ok.funs.mem G;exact Zp (Zv (ZN J)<|ZZ I.sz h)<|zX _
def Inv.cne(I:Inv X G U H s):∀x c,X.env.cells.lookup x=some c->c≠X.env.locals:=λx c e z=>by
 obtain⟨v,o,L,M⟩:=I.cell x c e;obtain⟨m,⟨N,O,R,Z,J,_⟩,_⟩:=I.loc;rw[z,Z]at L;cases L;rw[J]at M;cases M
def Inv.funs(I:Inv X N U H s):s.heap.FunFrames X.base X.outer:=by
 have M:∀(l:List Env),(∀b∈frs l,b∈X.fs)->X.s₀.heap.FunFrames X.base l->s.heap.FunFrames X.base l:=by
  intro l
  induction l with
  |nil=>intro _ _;trivial
  |cons A r ih=>
   intro O D;obtain⟨E,⟨L,o,Z,B,T,F⟩,R⟩:=D;have G:L∈X.fs:=O L (by unfold frs;rw[jf,Z];exact ZY);obtain⟨sl,e⟩:=I.base.slot L o T (I.ok.frf L G) G λz=>I.ok.exfs L z G;exact⟨E,⟨L,_,Z,B,e,F⟩,ih (λb J=>O b (by unfold frs;rw[jf,Z];exact ZK _ J)) R⟩
 exact M X.outer (λ_ J=>J) I.ok.funs
def Inv.stack(I:Inv X Z U H s):s.heap.FunFrames X.base X.stack:=by
 rcases I.ok.stk with e|⟨e,G⟩
 .rw [e];exact I.funs
 .rw [e]
  obtain⟨m,J,_⟩:=I.loc;refine .cons (by rw[I.ok.kind];decide) G J ?_ I.funs;exact vM<|ZZ I.ok.bsz I.ok.above
def Inv.stkSub(I:Inv X J U H s):∀b∈frs X.stack,b∈X.env.locals::X.fs:=λb Z=>by
 rcases I.ok.stk with e|⟨e,G⟩
 .rw [e]at Z;exact ZK _ Z
 .rw [e]at Z
  unfold frs at Z;rw[jf,G]at Z;exact Z
def Inv.stkFree(I:Inv X J U H s):∀b∈frs X.stack,H b=none:=λb Z=>by
 rcases Zb.mp (I.stkSub b Z)with e|Z
 .rw [e];exact I.free
 .obtain ⟨_,o,ho,_⟩:=I.ok.funs.mem Z
  exact I.base.free b o ho (I.ok.frf b Z) λz=>I.ok.exfs b z Z
def Inv.step{ch:kF}(I:Inv X O U H s)(G:∀b∈ch,(b∈X.ex\/X.s₀.heap.objs.size<=b)/\b≠X.env.locals/\(∀x c,X.env.cells.lookup x=some c->c≠b)/\∀p∈X.pn++ O,p.1≠b)(keep:∀b o,b≠X.env.locals->b∉X.fs->b∉ch->s.heap.get? b=some o->H b=none->h'.get? b=some o)(slot:∀b o,b≠X.env.locals->b∈X.fs->b∉ch->s.heap.get? b=some o->H b=none->∃sl,h'.get? b=some {o with slots:=sl})(free:∀b o,b∉ch->s.heap.get? b=some o->H b=none->H' b=none)(there:∀b o,b∉ch->s.heap.get? b=some o->∃E,h'.get? b=some E)(B:∀b N,H b=some (.tup N)->H' b=some (.tup N))(A:∀b o u,H b=some (.frz o u)->H' b=some (.frz o u))(D:∀b C,H b=some (.tbl C)->∃more,H' b=some (.tbl<|C++ more))(g:∀m,s.heap.Ns X.env.locals m->h'.Ns X.env.locals m)(j:HOk X.prog X.w H' h')(w:AllBare g'):
  Inv X O U H' {s with heap:=h',gens:=g',drawn:=d',toks:=t'}:=by
 have F:∀b o,X.s₀.heap.get? b=some o->b≠X.env.locals:=λb o e=>Zc<|Zv (ZN e) I.ok.above
 have L:∀b o,X.s₀.heap.get? b=some o->b∉X.ex->b∉ch:=λb o e Z R=>by
  rcases(G b R).1 with z|z
  .exact Z z
  .exact Zp (Zv (ZN e) z) (zX _)
 have cellK:∀x c,X.env.cells.lookup x=some c->∀v,s.heap.IsCell c v->h'.IsCell c v:=λx c e v ⟨o,T,y⟩=>by
  have J:c∉ch:=λz=>(G c z).2.2.1 x c e rfl
  by_cases hc:c∈X.fs
  .obtain ⟨sl,q⟩:=slot c o (I.cne x c e) hc J T<|I.freeC x c e
   exact⟨_,q,y⟩
  .exact ⟨o,keep c o (I.cne x c e) hc J T<|I.freeC x c e,y⟩
 refine⟨I.ok,I.os,w,⟨λb o e n R Z=>?_,λb o e n R Z=>?_,λb o e n Z=>?_,λb o e Z=>?_,λb N e=>B b N<|I.base.tups b N e,λb o N e=>A b o N<|I.base.frzs b o N e,λb C e=>?_⟩,?_,λx c e=>?_,?_,λx c e=>?_,λp t=>?_,j,I.len⟩
 .exact keep b o (F b o e) R (L b o e Z) (I.base.keep b o e n R Z) (I.base.free b o e n Z)
 .obtain ⟨sl,M⟩:=I.base.slot b o e n R Z
  obtain⟨Q,S⟩:=slot b _ (F b o e) R (L b o e Z) M<|I.base.free b o e n Z;exact⟨Q,S⟩
 .obtain ⟨E,M⟩:=I.base.there b o e Z
  exact free b E (L b o e Z) M<|I.base.free b o e n Z
 .obtain ⟨E,M⟩:=I.base.there b o e Z
  exact there b E (L b o e Z) M
 .obtain ⟨m1,M⟩:=I.base.tbls b C e
  obtain⟨f,S⟩:=D b _ M;exact⟨m1++ f,by rw[S,Array.append_assoc]⟩
 .obtain ⟨m,hn,hl⟩:=I.loc
  refine⟨m,g m hn,λi x v M S h=>?_⟩;obtain⟨u,r,l⟩:=hl i x v M S h;exists u,r;rcases l with l|⟨k,c,e,z⟩
  .exact .inl l
  .exact .inr ⟨k,c,e,cellK x c e _ z⟩
 .obtain ⟨v,z⟩:=I.cell x c e
  exact⟨v,cellK x c e v z⟩
 .obtain ⟨m,⟨o,_,_,T,_⟩,_⟩:=I.loc
  exact free _ o (λz=>(G _ z).2.1 Y) T I.free
 .obtain ⟨v,o,T,y⟩:=I.cell x c e
  exact free c o (λz=>(G c z).2.2.1 x c e Y) T<|I.freeC x c e
 .obtain ⟨e,n,ne,nf,d⟩:=I.pin p t
  have J:p.1∉ch:=λz=>(G p.1 z).2.2.2 p t rfl;exact⟨keep p.1 p.2 ne nf J e n,free p.1 p.2 J e n,ne,nf,d⟩
def Inv.un(I:Inv X Z U H s)(u:Un X.fs [] H H' s.heap h')(G:HOk X.prog X.w H' h'):Inv X Z U H' {s with heap:=h',toks:=t'}:=by
 obtain⟨m,⟨o,F,A,O,r⟩,_⟩:=id I.loc;obtain⟨sl,B⟩:=u.any O I.free<|by simp
 exact I.step (g':=s.gens) (d':=s.drawn) (ch:=[]) (λ_ z=>nomatch z) (λb o _ L _ e n=>u.keep b o e n L<|by simp) (λb o _ L _ e n=>u.slot b o e n L<|by simp) (λb o _ e n=>u.free b o e n<|by simp) (λb o _ e=>u.there b o e<|by simp) u.tups u.frzs u.tbls (λE T=>by
  obtain⟨D,M,N,J,R⟩:=T;rw[O]at J;cases J;exact⟨_,M,N,B,R⟩) G I.bare
def Inv.call(I:Inv X Z U H s)(u:Un (frs X.stack) ch H B s.heap h')(M:HOk X.prog X.w B h')(F:AllBare g')(L:∀b∈ch,(b∈X.ex\/X.s₀.heap.objs.size<=b)/\b≠X.env.locals/\(∀x c,X.env.cells.lookup x=some c->c≠b)/\∀p∈X.pn++ Z,p.1≠b):
  Inv X Z U B {s with heap:=h',gens:=g',drawn:=d',toks:=t'}:=by
 obtain⟨m,⟨o,P,Q,T,r⟩,_⟩:=id I.loc;obtain⟨sl,N⟩:=u.any T I.free λz=>(L _ z).2.1 rfl
 exact I.step (ch:=ch) L (λb o N A J e n=>u.keep b o e n (λz=>(Zb.mp<|I.stkSub b z).elim N A) J) (λb o _ _ J e n=>u.any e n J) (λb o J e n=>u.free b o e n J) (λb o J e=>u.there b o e J) u.tups u.frzs u.tbls (λC E=>by
  obtain⟨S,O,R,G,D⟩:=E;rw[T]at G;cases G;exact⟨_,O,R,N,D⟩) M F
def Inv.turned(I:Inv X Z U H s)(k:∀b o,b≠it->s.heap.get? b=some o->D.get? b=some o)(M:H it=none)(L:it≠X.env.locals)(B:it∈X.ex\/X.s₀.heap.objs.size<=it)(T:∀x c,X.env.cells.lookup x=some c->c≠it)(R:∀p∈X.pn++ Z,p.1≠it):Inv X Z U H {s with heap:=D,toks:=t'}:=by
 have G:∀b u,H b=some u->b≠it:=λb u e z=>by rw[z,M]at e;cases e
 refine I.step (g':=s.gens) (d':=s.drawn) (ch:=[it]) (λb O=>?_) (λb o _ _ J e _=>k b o (λz=>J<|by simp[z]) e) (λb o _ _ J e _=>⟨o.slots,k b o (λz=>J<|by simp[z]) e⟩) (λ_ _ _ _ n=>n)
  (λb o J e=>⟨o,k b o (λz=>J<|by simp[z]) e⟩) (λ_ _ e=>e) (λ_ _ _ e=>e) (λb E e=>⟨#[],by rw[e];simp⟩) (λm N=>?_) (λb u e=>?_) I.bare
 .have e:b=it:=by simpa using O
  subst e;exact⟨B,L,T,R⟩
 .obtain ⟨o,es,ep,ho,r⟩:=N
  exact⟨o,es,ep,k _ o (Zq L) ho,r⟩
 .refine (I.hok b u e).stay (λc v J q=>k c v ?_ q) (λ_ q=>q) λ_ _ q=>q
  rcases J with z|z
  .rw [z];exact G b u e
  .exact G c _ z
def Inv.tok(I:Inv X Z U H s)(t:Nat):Inv X Z U H {s with toks:=t}:=I.un (h':=s.heap) (t':=t) Un.refl I.hok
def Inv.kept(I:Inv X Z U H s)(k:∀b u,s.heap.get? b=some u->J.get? b=some u):Inv X Z U H {s with heap:=J,toks:=t'}:=I.un (Un.kept k)<|I.hok.kept k
def Inv.laid(I:Inv X Z U H s)(k:∀b u,s.heap.get? b=some u->h'.get? b=some u)(G:s.heap.objs.size<=a)(J:VN X.prog X.w (upd H a o) h' a o):
  Inv X Z U (upd H a o) {s with heap:=h',toks:=t'}:=I.un (Un.laid k G<|I.hok.fresh G)<|I.hok.laid k G J
def Inv.write(I:Inv X Z U H s)(L:Mut (H x))(M:e=x\/H e=some (.own x))(k:∀b u,b≠e->s.heap.get? b=some u->h'.get? b=some u)(J:∃u,h'.get? e=some u)(G:VN X.prog X.w (upd H x o) h' x o):Inv X Z U (upd H x o) {s with heap:=h',toks:=t'}:=I.un (Un.write L M k J)<|I.hok.write L M k J G
def Inv.weak(I:Inv X Z U H s)(L:U'.length=U.length)(w:∀(i:Nat) v,U'[i]?=some (some v)->U[i]?=some (some v)):Inv X Z U' H s:=
 ⟨I.ok,I.os,I.bare,I.base,let⟨m,G,J⟩:=I.loc;⟨m,G,λi x v O N M=>J i x v O (w i v N) M⟩,I.cell,I.free,I.freeC,I.pin,I.hok,L.trans I.len⟩
def Inv.pins_of(I:Inv X Z U H s)(h:∀p∈pins',s.heap.get? p.1=some p.2/\H p.1=none/\p.1≠X.env.locals/\p.1∉X.fs/\∀v,p.2.data≠.cell v):Inv X pins' U H s:=
 ⟨I.ok,I.os,I.bare,I.base,I.loc,I.cell,I.free,I.freeC,λp J=>(ZV.mp J).elim (λz=>I.pin p<|yR _ z)<|h p,I.hok,I.len⟩
def Tl{N:ky}(Z:N.Nodup){i j:Nat}(a:N[i]?=some x)(b:N[j]?=some x):i=j:=by
 obtain⟨M,G⟩:=ZE.mp a;obtain⟨L,J⟩:=ZE.mp b;exact(List.getElem_inj Z).mp<|G.trans J.symm
def RV(I:Inv X S U H s)(hN:X.N.Nodup)(t:X.N[i]?=some x)(L:Loc X.env.scope x)(r:RelV v u)(h:∀s',Inv X S (U.set i<|some v) H s'->(∃a,Heap.SameBut a s.heap s'.heap/\(a=X.env.locals\/X.env.cells.lookup x=some a))->Q () s')(hf:X.fn x=true\/X.env.scope.names.lookup x=some .local:=by first|exact .inl Y|exact .inr Y|assumption):wpAny M A (storeName X.env x u) Q E s:=by
 obtain⟨m,hn,hl⟩:=id I.loc;have g:(X.env.scope.kind==.class || (X.env.scope.kind==.module && X.env.locals !=X.env.globals))=false:=by rw[I.ok.kind];rfl
 have T:i<U.length:=by rw[I.len];exact(ZE.mp t).1
 have D:=I.cne
 have tracked:∀{a:Addr}{F:Heap},(∃o,s.heap.get? a=some o/\H a=none)->Heap.SameBut a s.heap F->HOk X.prog X.w H F:=λ{a F} ha Z b ob e=>by
  obtain⟨_,_,N⟩:=ha;refine(I.hok b ob e).stay (λc w G q=>(Z.2 c ?_).trans q) (λ_ q=>q) λ_ _ q=>q;rintro rfl;rcases G with rfl|G
  .rw [N]at e;cases e
  .rw [N]at G;cases G
 rcases L with R|R
 .refine wpAny_storeName_local R hn (λF Z9 Z=>?_) g
  obtain⟨oL,_,_,Z8,_⟩:=id hn;refine h _ ⟨I.ok,I.os,I.bare,⟨λb o e n B L=>?_,λb o e n B L=>?_,I.base.free,λb o e L=>?_,I.base.tups,I.base.frzs,I.base.tbls⟩,⟨_,Z9,λj y v' J O e3=>?_⟩,λy c e=>?_,I.free,I.freeC,λp hp=>?_,tracked ⟨oL,Z8,I.free⟩ Z,by simpa using I.len⟩ ⟨_,Z,.inl Y⟩
  .exact (Z.2 b<|Zc<|Zv (ZN e) I.ok.above).trans (I.base.keep b o e n B L)
  .obtain ⟨sl,J⟩:=I.base.slot b o e n B L
   exact⟨sl,(Z.2 b<|Zc<|Zv (ZN e) I.ok.above).trans J⟩
  .obtain ⟨o',J⟩:=I.base.there b o e L
   exact⟨o',(Z.2 b<|Zc<|Zv (ZN e) I.ok.above).trans J⟩
  .by_cases hj:j=i
   .subst hj
    rw[t]at J;cases J;rw[yb T]at O;cases O;exact⟨u,r,.inl ⟨R,by simp⟩⟩
   .rw [yf (Zq hj)]at O
    obtain⟨u',r',q⟩:=hl j y v' J O e3;exists u',r';rcases q with⟨k,e⟩|⟨k,c,e,z⟩
    .refine .inl ⟨k,?_⟩
     have:y≠x:=λe=>hj<|Tl hN J<|e ▸ t;simp[this,e]
    .exact .inr ⟨k,c,e,z.sameBut Z<|D y c e⟩
  .obtain ⟨w,z⟩:=I.cell y c e
   exact⟨w,z.sameBut Z<|D y c e⟩
  .obtain ⟨e,n,ne,nf,d⟩:=I.pin p hp
   exact⟨(Z.2 p.1 ne).trans e,n,ne,nf,d⟩
 .have hfn:X.fn x=true:=by
   rcases hf with z|z
   .exact z
   .rw [z]at R;cases R
  obtain⟨c,G⟩:=I.ok.has x<|.inl R;obtain⟨w,z⟩:=I.cell x c G;refine wpAny_storeName_cell I.ok.kind R G z λF f Z=>?_;obtain⟨oc,P,C⟩:=id z;refine h {s with heap:=F} ⟨I.ok,I.os,I.bare,⟨λb o e n B L=>?_,λb o e n B L=>?_,I.base.free,λb o e L=>?_,I.base.tups,I.base.frzs,I.base.tbls⟩,⟨m,hn.sameBut Z<|Zq<|D x c G,λj y v' J O e3=>?_⟩,λy l e=>?_,I.free,I.freeC,λp hp=>?_,tracked ⟨oc,P,I.freeC x c G⟩ Z,by simpa using I.len⟩ ⟨c,Z,.inr G⟩
  .exact (Z.2 b<|Zc<|Zv (ZN e)<|I.ok.cab x c hfn G).trans (I.base.keep b o e n B L)
  .obtain ⟨sl,J⟩:=I.base.slot b o e n B L
   exact⟨sl,(Z.2 b<|Zc<|Zv (ZN e)<|I.ok.cab x c hfn G).trans J⟩
  .obtain ⟨o',J⟩:=I.base.there b o e L
   exact⟨o',(Z.2 b<|Zc<|Zv (ZN e)<|I.ok.cab x c hfn G).trans J⟩
  .by_cases hj:j=i
   .subst hj
    rw[t]at J;cases J;rw[yb T]at O;cases O;exact⟨u,r,.inr ⟨.inl R,c,G,f⟩⟩
   .rw [yf (Zq hj)]at O
    obtain⟨u',r',q⟩:=hl j y v' J O e3;exists u',r';rcases q with q|⟨k,l,e,z'⟩
    .exact .inl q
    .refine .inr ⟨k,l,e,z'.sameBut Z ?_⟩
     rintro rfl;exact hj<|Tl hN J<|I.ok.inj _ _ _ e G ▸ t
  .by_cases hcc:l=c
   .subst hcc;exact⟨_,f⟩
   .obtain ⟨w2,z2⟩:=I.cell y l e
    exact⟨w2,z2.sameBut Z hcc⟩
  .obtain ⟨e,n,ne,nf,d⟩:=I.pin p hp
   refine⟨(Z.2 p.1 ?_).trans e,n,ne,nf,d⟩;intro q;rw[q,P]at e;have q':oc=p.2:=ZP e;exact d w (by rw[<-q'];exact C)
def WG(I:Inv X Z U H s)(O:X.N.Nodup)(L:X.N[i]?=some x)(G:Loc X.env.scope x)(r:RelV v u)(h:∀J,Inv X Z (U.set i<|some v) H J->Q () J)(N:X.fn x=true\/X.env.scope.names.lookup x=some .local:=by first|exact .inl Y|exact .inr Y|assumption):wpAny M A (storeName X.env x u) Q E s:=
 RV I O L G r (λJ R _=>h J R) N
def Inv.call'(I:Inv X Z U H s)(N:s'.os=s.os)(u:Un (frs X.stack) ch H L s.heap s'.heap)(J:HOk X.prog X.w L s'.heap)(O:AllBare s'.gens)(G:∀b∈ch,(b∈X.ex\/X.s₀.heap.objs.size<=b)/\b≠X.env.locals/\(∀x c,X.env.cells.lookup x=some c->c≠b)/\∀p∈X.pn++ Z,p.1≠b):Inv X Z U L s':=by
 obtain⟨R,g',d',t',M⟩:=s';have e:M=s.os:=N;subst e;exact I.call (g':=g') (t':=t') (d':=d') u J O G
end
abbrev XK:=Value->Option Addr->Hp->Prop
abbrev St:=List (kO)
abbrev kM:=St->Hp->Prop
abbrev kL:=Nat->St->Hp->Prop
abbrev VK:=V->Hp->Prop
abbrev TE:=St->Hp->VK->Prop
abbrev TT:=St->Hp->(Bool->Hp->Prop)->Prop
abbrev TA:=St->Hp->(List V->Hp->Prop)->Prop
structure Ends where
 nx:St->Hp->Prop
 rt:VK
 bk:St->Hp->Prop:=λ_ _=>False
 ct:St->Hp->Prop:=λ_ _=>False
abbrev TS:=Ends->St->Hp->Prop
def EP(X:Cx)(pins:kh)(U:St)(Q:VK)(u:Value)(s':Shared):Prop:=∃v Z,Inv X pins U Z s'/\RelV v u/\Q v Z
def TP(X:Cx)(pins:kh)(U:St)(Q:Bool->Hp->Prop)(b:Bool)(s':Shared):Prop:=∃Z,Inv X pins U Z s'/\Q b Z
def AP(X:Cx)(pins:kh)(U:St)(Q:List V->Hp->Prop)(us:kq)(s':Shared):Prop:=∃Z J,Inv X pins U J s'/\Vals Z us/\Q Z J
def SP(X:Cx)(pins:kh)(D:Ends)(f:Flow)(s':Shared):Prop:=
 match f with
 |.next=>∃U' H',Inv X pins U' H' s'/\D.nx U' H'
 |.brk=>∃U' H',Inv X pins U' H' s'/\D.bk U' H'
 |.cont=>∃U' H',Inv X pins U' H' s'/\D.ct U' H'
 |.ret u=>∃v U' H',Inv X pins U' H' s'/\RelV v u/\D.rt v H'
def PE(X:Cx)(e:Expr)(t:TE):Prop:=
 ∀(Z:kh)(s:Shared)(U:St)(H:Hp)(Q:VK),Inv X Z U H s->t U H Q->wpAny (model X.prog X.w) X.A (eval e X.env) (EP X Z U Q) X.xe s
def PT(X:Cx)(e:Expr)(t:TT):Prop:=
 ∀(Z:kh)(s:Shared)(U:St)(H:Hp)(Q:Bool->Hp->Prop),Inv X Z U H s->t U H Q->wpAny (model X.prog X.w) X.A (isTrue e X.env<|eval e X.env) (TP X Z U Q) X.xe s
def PW(X:Cx)(e:Expr)(t:TT):Prop:=
 ∀(whole:Sem Value)(Z:kh)(s:Shared)(U:St)(H:Hp)(Q:Bool->Hp->Prop),Inv X Z U H s->t U H Q->wpAny (model X.prog X.w) X.A (isTrue e X.env whole) (TP X Z U Q) X.xe s
def PW.pt(h:PW X e t):PT X e t:=h _
def PA(X:Cx)(es:kX)(t:TA):Prop:=
 ∀(pos:Pos)(Z:kh)(s:Shared)(U:St)(H:Hp)(Q:List V->Hp->Prop),Inv X Z U H s->t U H Q->wpAny (model X.prog X.w) X.A (spliced<|backTo pos<|starEach es X.env) (AP X Z U Q) X.xe s
def PS(X:Cx)(st:Stmt)(t:TS):Prop:=
 ∀(Z:kh)(s:Shared)(U:St)(H:Hp)(D:Ends),Inv X Z U H s->t D U H->wpAny (model X.prog X.w) X.A (exec st X.env) (SP X Z D) X.xe s
def PSs(X:Cx)(st:List Stmt)(t:TS):Prop:=
 ∀(Z:kh)(s:Shared)(U:St)(H:Hp)(D:Ends),Inv X Z U H s->t D U H->wpAny (model X.prog X.w) X.A (execs st X.env) (SP X Z D) X.xe s
def thn(h:wpAny M A t Q E s)(Z:∀a s,Q a s->Q' a s):wpAny M A t Q' E s:=Zl h Z λ_ _ x=>x
end L2
namespace L2
open PySem PySem.Spec PyProof.Rows
section
variable{X:Cx}
def E1(o:Option (kO))(P:V->Prop):Prop:=match o with
 |some (some v)=>P v
 |_=>False
def E1.old(h:E1 o P):∃v,o=some (some v)/\P v:=by
 match o,h with
 |some (some v),h=>exact⟨v,Y,h⟩
def U1(x:V)(P:Int->Prop):Prop:=match x with
 |.int c=>P c
 |_=>False
def U1.old(h:U1 x P):∃c,x=.int c/\P c:=by
 cases x <;> first|exact⟨_,Y,h⟩|exact h.elim
def Jb(x:V)(P:Addr->Prop):Prop:=match x with
 |.ref c=>P c
 |_=>False
def Jb.old(h:Jb x P):∃c,x=.ref c/\P c:=by
 cases x <;> first|exact⟨_,Y,h⟩|exact h.elim
def Xt(i:Nat):TE:=λU H Q=>E1 U[i]? λv=>Q v H
def tC(v:V):TE:=λ_ H Q=>Q v H
def Qx(E:X.N[i]?=some x)(R:Vis X.env.scope x)(M:(x==("__debug__":Str))=false:=by decide)(N:(x==("__classdict__":Str))=false:=by decide):PE X (.Name x pos) (Xt i):=by
 intro L s U H Q I h;replace h:=E1.old h;obtain⟨v,e,h⟩:=h;obtain⟨m,T,D⟩:=I.loc;obtain⟨u,r,l⟩:=D i x v E e R;have G:EP X L U Q u s:=⟨v,H,I,r,h⟩;rcases l with⟨J,B⟩|⟨J,c,O,Z⟩
 .exact wpAny_Name (wpAny_loadName_local I.ok.kind J T B G) M
 .rcases J with J|J
  .exact wpAny_Name (wpAny_loadName_cell I.ok.kind J O Z G) M
  .exact wpAny_Name (wpAny_loadName_free I.ok.kind J O Z G N) M
def YX:PE X (.Constant (.int i) j pos) (tC<|.int i):=λ_ _ _ H _ I h=>wpAny_Constant_int ⟨.int i,H,I.tok _,⟨_,rfl⟩,h⟩
def U8:PE X (.Constant (.bool b) j pos) (tC<|.bl b):=λ_ _ _ H _ I h=>Constant_bool ⟨.bl b,H,I,rfl,h⟩
def Vc:PE X (.Constant .none j pos) (tC .non):=λ_ _ _ H _ I h=>Constant_none ⟨.non,H,I,rfl,h⟩
def Y3:PE X (.Constant (.str x) j pos) (tC<|.str x):=λ_ _ _ H _ I h=>Calls.Constant_str ⟨.str x,H,I.tok _,⟨_,rfl⟩,h⟩
def Gl(X:Cx)(x:Str):Prop:=X.env.kindOf x=some .globalImplicit
def UE(I:Inv X Z U H s)(G:Gl X x)(J:X.mg x=some u)(h:Q u s)(L:(x==("__debug__":Str))=false:=by decide):wpAny (model X.prog X.w) X.A (eval (.Name x pos) X.env) Q E s:=
 Calls.Name_function_global I.ok.kind G (Calls.loadGlobal_global (by rw[I.ok.glob];exact I.mod.glob.keeps I.bk) J h) L
def Wy(I:Inv X Z U H s)(M:Gl X x)(L:X.mg x=none)(J:bootBuiltins x=some u)(h:Q u s)(G:x≠"__name__":=by decide)(N:(x==("__debug__":Str))=false:=by decide):wpAny (model X.prog X.w) X.A (eval (.Name x pos) X.env) Q E s:=by
 obtain⟨T,R,O⟩:=I.mod.blt;exact Calls.Name_function_global I.ok.kind M (Calls.loadGlobal_builtin (by rw[I.ok.glob];exact I.mod.glob.keeps I.bk) L (by rw[I.ok.blt];exact R.keeps I.bk) ((O x G).trans J) h) N
def JK(J:Gl X x)(Z:X.mg x=some u)(r:RelV v u)(G:(x==("__debug__":Str))=false:=by decide):PE X (.Name x pos) (tC v):=
 λ_ _ _ H _ I h=>UE I J Z ⟨v,H,I,r,h⟩ G
def EK(L:Gl X x)(G:X.mg x=none)(Z:bootBuiltins x=some u)(r:RelV v u)(J:x≠"__name__":=by decide)(M:(x==("__debug__":Str))=false:=by decide):PE X (.Name x pos) (tC v):=
 λ_ _ _ H _ I h=>Wy I L G Z ⟨v,H,I,r,h⟩ J M
variable{a b:Expr}{ta tb:TE}{pos:Pos}
def PC(X:Cx)(op:CmpOp)(a b:Expr)(t:TE):Prop:=
 ∀(Z:kh)(s:Shared)(U:St)(H:Hp)(Q:VK),Inv X Z U H s->t U H Q->
  wpAny (model X.prog X.w) X.A (eval a X.env) (λv G=>wpAny (model X.prog X.w) X.A (eval b X.env) (λu J=>wpAny (model X.prog X.w) X.A (compareOp op v u) (EP X Z U Q) X.xe J) X.xe G) X.xe s
def tB(t:TE):TT:=λU H Q=>t U H λx Z=>∃c,x=.bl c/\Q c Z
def UP(h:PC X op a b t)(J:behindInMarks op b=false:=by first|exact nobehind _ (by decide) (by decide)|rfl):PT X (.Compare a [op] [b] pos) (tB t):=by
 intro Z s U H Q I M;refine wpAny_isTrue_Compare1 (thn (h Z s U H _ I M) λv D J=>thn J λu B N=>thn N λc T ⟨x,R,O,G,L⟩=>?_) J;obtain⟨d,rfl,q⟩:=L;cases G;exact zZ ⟨R,O,q⟩
def Vs(h:PE X e t)(M:∀whole,isTrue e X.env whole=(do let v <-whole;standAt e.pos;holding [v] (truthy v)):=by intro _;rfl):PT X e (tB t):=by
 intro Z s U H Q I L;refine isTrue_plain (thn (h Z s U H _ I L) λv R ⟨x,O,N,J,G⟩=>?_)<|M _;obtain⟨d,rfl,q⟩:=G;cases J;exact zZ ⟨O,N,q⟩
variable{rest:kX}
def Cq(t u:TT):TT:=λU H Q=>t U H λc Z=>if c=true then u U Z Q else Q false Z
def tOr(t u:TT):TT:=λU H Q=>t U H λc Z=>if c=true then Q true Z else u U Z Q
def Ck(t:TT):TT:=λU H Q=>t U H λc Z=>Q (!c) Z
def UW(J:PT X a tA):PW X (.BoolOp .And [a] pos) tA:=by
 intro G Z s U H Q I h;refine isTrue_and<|thn (J Z s U H Q I h) λc L e=>?_
 cases c with
 |true=>exact isTrue_and_nil e
 |false=>exact e
def Jc(J:PT X a tA):PW X (.BoolOp .Or [a] pos) tA:=by
 intro G Z s U H Q I h;refine isTrue_or<|thn (J Z s U H Q I h) λc L e=>?_
 cases c with
 |false=>exact isTrue_or_nil e
 |true=>exact e
def XH(R:PT X a tA)(O:PW X (.BoolOp .And (b::rest) pos) tB'):PW X (.BoolOp .And (a::b::rest) pos) (Cq tA tB'):=by
 intro M Z s U H Q I h;refine isTrue_and<|thn (R Z s U H _ I h) λc N ⟨L,G,J⟩=>?_
 cases c with
 |true=>exact O M Z N U L Q G J
 |false=>exact⟨L,G,J⟩
def Jq(R:PT X a tA)(O:PW X (.BoolOp .Or (b::rest) pos) tB'):PW X (.BoolOp .Or (a::b::rest) pos) (tOr tA tB'):=by
 intro M Z s U H Q I h;refine isTrue_or<|thn (R Z s U H _ I h) λc N ⟨L,G,J⟩=>?_
 cases c with
 |true=>exact⟨L,G,J⟩
 |false=>exact O M Z N U L Q G J
def Vx(J:PT X a tA):PT X (.UnaryOp .Not a pos) (Ck tA):=by
 intro Z s U H Q I h;exact isTrue_not<|J Z s U H (λc G=>Q (!c) G) I h
def AI(ta tb:TE):TE:=λU H Q=>ta U H λx Z=>∃c,x=.bl c/\if c=true then tb U Z Q else Q (.bl false) Z
def Cj(ta tb:TE):TE:=λU H Q=>ta U H λx Z=>∃c,x=.bl c/\if c=true then Q (.bl true) Z else tb U Z Q
def AC(ta:TE):TE:=λU H Q=>ta U H λx Z=>∃c,x=.bl c/\Q (.bl<|!c) Z
def X3(h:PE X a t):PE X (.BoolOp op [a] pos) t:=λZ s U H Q I J=>BoolOp_one<|h Z s U H Q I J
def X4(R:PE X a ta)(O:PE X (.BoolOp .And (b::rest) pos) tb):PE X (.BoolOp .And (a::b::rest) pos) (AI ta tb):=by
 intro Z s U H Q I h;refine BoolOp_and<|thn (R Z s U H _ I h) λv M ⟨x,L,G,N,J⟩=>?_;obtain⟨c,rfl,J⟩:=J;cases N;refine zZ ?_
 cases c with
 |true=>exact O Z M U L Q G J
 |false=>exact⟨.bl false,L,G,Y,J⟩
def AY(R:PE X a ta)(O:PE X (.BoolOp .Or (b::rest) pos) tb):PE X (.BoolOp .Or (a::b::rest) pos) (Cj ta tb):=by
 intro Z s U H Q I h;refine BoolOp_or<|thn (R Z s U H _ I h) λv M ⟨x,L,G,N,J⟩=>?_;obtain⟨c,rfl,J⟩:=J;cases N;refine zZ ?_
 cases c with
 |false=>exact O Z M U L Q G J
 |true=>exact⟨.bl true,L,G,Y,J⟩
def Qy(L:PE X a ta):PE X (.UnaryOp .Not a pos) (AC ta):=by
 intro Z s U H Q I h;refine UnaryOp_<|thn (L Z s U H _ I h) λv O ⟨x,N,M,G,J⟩=>?_;obtain⟨c,rfl,J⟩:=J;cases G;exact not_of<|zZ ⟨.bl<|!c,N,M,rfl,J⟩
def tIf(t:TT)(ta tb:TE):TE:=λU H Q=>t U H λc Z=>if c=true then ta U Z Q else tb U Z Q
def KJ(N:PT X c tA)(R:PE X a ta)(O:PE X b tb):PE X (.IfExp c a b pos) (tIf tA ta tb):=by
 intro Z s U H Q I h;refine wpAny_IfExp<|thn (N Z s U H _ I h) λd J ⟨M,L,G⟩=>?_
 cases d with
 |true=>exact R Z J U M Q L G
 |false=>exact O Z J U M Q L G
end
end L2
namespace L2
open PySem PySem.Spec PyProof.Rows
def SqL(K:W.Frag)(H:Hp)(a:Addr)(xs:kK):Prop:=
 Rd H a (.lst xs) \/
  ∃(o:Obj)(Z:kI)(n:Nat),K.lookup a=some o/\o.cls=.type "list" /\o.dict=none/\o.data=.seq Z n/\Z.size<=sizeLine/\Vals xs Z.toList
def SqT(K:W.Frag)(H:Hp)(a:Addr)(xs:kK):Prop:=
 Rd H a (.tup xs) \/
  ∃(o:Obj)(Z:kI)(n:Nat),K.lookup a=some o/\o.cls=.type "tuple" /\o.data=.seq Z n/\Z.size<=sizeLine/\Vals xs Z.toList
def zT:Value->Option V
 |.none=>some .non
 |.bool b=>some<|.bl b
 |.int i _=>some<|.int i
 |.str x _=>some<|.str x
 |.bytes b _=>some<|.byt b
 |.float b _=>some<|.flt b
 |.ref a=>some<|.ref a
 |.type n=>some<|.ty n
 |_=>none
def RelV.abs(r:RelV x u):zT u=some x:=by
 cases x with
 |non=>cases r;rfl
 |bl _=>cases r;rfl
 |int _=>obtain⟨t,rfl⟩:=r;rfl
 |str _=>obtain⟨t,rfl⟩:=r;rfl
 |byt _=>obtain⟨t,rfl⟩:=r;rfl
 |flt _=>obtain⟨t,rfl⟩:=r;rfl
 |ref _=>cases r;rfl
 |ty _=>cases r;rfl
def RelV.inj(r:RelV x u)(q:RelV y u):x=y:=ZP<|r.abs.symm.trans q.abs
theorem Vals.inj:∀{Z ys:kK}{J:kq},Vals Z J->Vals ys J->Z=ys
 |_,_,_,.nil,.nil=>rfl
 |_,_,_,.cons r t,.cons r' t'=>by rw[r.inj r',Vals.inj t t']
section
def SqL.of{K:W.Frag}(h:H a=some (.lst Z)):SqL K H a Z:=.inl<|.inl h
abbrev Z1:=@SqL.of
def SqT.of{K:W.Frag}(h:H a=some (.tup Z)):SqT K H a Z:=.inl<|.inl h
abbrev Z0:=@SqT.of
def Inv.list(I:Inv X G U H s)(h:SqL X.K H a J):∃Z:kq,Vals J Z/\PlainL s.heap a Z.toArray/\J.length<=sizeLine:=by
 rcases h with h|⟨o,Z,n,M,O,N,L,R,r⟩
 .obtain ⟨z,Z,n,r,e⟩:=h.ok I.hok
  exact⟨Z,r,⟨_,n,e,Y,Y,Y⟩,z⟩
 .refine ⟨Z.toList,r,⟨o,n,I.kIn a o M,O,N,by simpa using L⟩,?_⟩
  have e:=r.length;simp only[vI]at e;omega
def Inv.tuple(I:Inv X G U H s)(h:SqT X.K H a J):∃Z:kq,Vals J Z/\IsTup s.heap a Z.toArray/\J.length<=sizeLine:=by
 rcases h with h|⟨o,Z,n,M,N,L,O,r⟩
 .obtain ⟨z,Z,r,p⟩:=h.ok I.hok
  exact⟨Z,r,p.is,z⟩
 .refine ⟨Z.toList,r,⟨o,I.kIn a o M,N,n,by simpa using L⟩,?_⟩
  have e:=r.length;simp only[vI]at e;omega
def Inv.list_inj(I:Inv X G U H s)(h:SqL X.K H a N)(R:SqL X.K H a ys):N=ys:=by
 obtain⟨J,r,⟨o,n,e,_,_,d⟩,_⟩:=I.list h;obtain⟨Z,O,⟨B,D,L,_,_,M⟩,_⟩:=I.list R;rw[e]at L;cases L;rw[d]at M;injection M with T _;have:J=Z:=by simpa using congrArg Array.toList T
 subst this;exact r.inj O
def Inv.tuple_inj(I:Inv X G U H s)(h:SqT X.K H a N)(R:SqT X.K H a ys):N=ys:=by
 obtain⟨J,r,⟨o,e,_,n,d⟩,_⟩:=I.tuple h;obtain⟨Z,O,⟨B,L,_,D,M⟩,_⟩:=I.tuple R;rw[e]at L;cases L;rw[d]at M;injection M with T _;have:J=Z:=by simpa using congrArg Array.toList T
 subst this;exact r.inj O
end
abbrev Cx.wish(X:Cx)(E:ko):Cx:={X with xe:=E}
abbrev Cx.nox(X:Cx):Cx:=X.wish λ_ _=>False
def Cx.Ok.wish{X:Cx}(Z:X.Ok)(E:ko):(X.wish E).Ok:=
 ⟨Z.mod,Z.kind,Z.glob,Z.blt,Z.above,Z.inj,Z.has,Z.cab,Z.hd,Z.frames,Z.stk,Z.exf,Z.bs,Z.bsz,Z.noex,Z.exfs,Z.funs,Z.frf⟩
def Cx.Ok.unwish{X:Cx}(Z:(X.wish E).Ok):X.Ok:=
 ⟨Z.mod,Z.kind,Z.glob,Z.blt,Z.above,Z.inj,Z.has,Z.cab,Z.hd,Z.frames,Z.stk,Z.exf,Z.bs,Z.bsz,Z.noex,Z.exfs,Z.funs,Z.frf⟩
section
def Inv.wish(I:Inv X Z U H s)(E:ko):Inv (X.wish E) Z U H s:=⟨I.ok.wish E,I.os,I.bare,I.base,I.loc,I.cell,I.free,I.freeC,I.pin,I.hok,I.len⟩
def Inv.unwish(I:Inv (X.wish E) Z U H s):Inv X Z U H s:=⟨I.ok.unwish,I.os,I.bare,I.base,I.loc,I.cell,I.free,I.freeC,I.pin,I.hok,I.len⟩
def SP.unwish(h:SP (X.wish E) G D f L):SP X G D f L:=by
 cases f with
 |next=>obtain⟨Z,J,I,q⟩:=h;exact⟨Z,J,I.unwish,q⟩
 |brk=>obtain⟨Z,J,I,q⟩:=h;exact⟨Z,J,I.unwish,q⟩
 |cont=>obtain⟨Z,J,I,q⟩:=h;exact⟨Z,J,I.unwish,q⟩
 |ret u=>obtain⟨v,Z,J,I,r,q⟩:=h;exact⟨v,Z,J,I.unwish,r,q⟩
def PSs.nox{J:List Stmt}(h:PSs X.nox J t):PSs X J t:=λZ s U H D I G=>
 Zl (h Z s U H D (I.wish _) G) (λ_ _ q=>q.unwish) λ_ _ z=>False.elim z
end
section
variable{st:Stmt}{rest:List Stmt}{t u:TS}{te:TE}
def IL:TS:=λD U H=>D.nx U H
def Yg(t u:TS):TS:=λD U H=>t {D with nx:=u D} U H
def Yr:PSs X [] IL:=λ_ _ U H _ I h=>jj ⟨U,H,I,h⟩
def YW(L:PS X st t)(G:PSs X rest u):PSs X (st::rest) (Yg t u):=by
 intro Z s U H D I h;refine wpAny_execs_cons<|thn (L Z s U H {D with nx:=u D} I h) λf J q=>?_
 cases f with
 |next=>
  obtain⟨M,O,N,q⟩:=q;exact G Z J M O D N q
 |ret v=>exact q
 |brk=>exact q
 |cont=>exact q
def YY(J:PS X st t):PSs X [st] t:=by
 intro Z s U H D I h;refine wpAny_execs_cons<|thn (J Z s U H D I h) λf G q=>?_
 cases f with
 |next=>exact jj q
 |ret v=>exact q
 |brk=>exact q
 |cont=>exact q
def Inv.quiet(I:Inv X Z U H s):interactive X.env=false:=by simp[interactive,I.ok.kind]
def D9(te:TE):TS:=λD U H=>te U H λ_ Z=>D.nx U Z
def VF(L:PE X e te)(G:swapsWith e none pos.line X.env=pure false:=by rfl):PS X (.Expr e pos) (D9 te):=by
 intro Z s U H D I h;exact wpAny_Expr_any (thn (L Z s U H _ I h) λv O ⟨x,N,M,R,J⟩=>⟨U,N,M,J⟩) I.quiet G
def Ci(te:TE):TS:=λD U H=>te U H D.rt
def Ys(L:PE X e te):PS X (.Return (some e) pos) (Ci te):=by
 intro Z s U H D I h;exact wpAny_Return_some<|thn (L Z s U H _ I h) λv O ⟨x,N,M,J,G⟩=>⟨x,U,N,M,J,G⟩
def Y9(c:TT)(t u:TS):TS:=λD U H=>c U H λb Z=>if b=true then t D U Z else u D U Z
def Y2(N:PT X c tc)(R:PSs X a t)(O:PSs X b u):PS X (.If c a b pos) (Y9 tc t u):=by
 intro Z s U H D I h;refine wpAny_If<|thn (N Z s U H _ I h) λd J ⟨M,L,G⟩=>?_
 cases d with
 |true=>exact R Z J U M D L G
 |false=>exact O Z J U M D L G
def QM:TS:=λ_ _ _=>False
def Ws:PSs X sts QM:=λ_ _ _ _ _ _ h=>h.elim
end
abbrev TG:=V->St->Hp->(kM)->Prop
abbrev TGs:=List V->St->Hp->(kM)->Prop
def PG(X:Cx)(target:Expr)(t:TG):Prop:=
 ∀(Z:kh)(s:Shared)(U:St)(H:Hp)(v:V)(u:Value)(Q:kM),Inv X Z U H s->RelV v u->t v U H Q->
  wpAny (model X.prog X.w) X.A (assign target X.env u) (λ_ L=>∃J G,Inv X Z J G L/\Q J G) X.xe s
def PGs(X:Cx)(ts:kX)(t:TGs):Prop:=
 ∀(Z:kh)(s:Shared)(U:St)(H:Hp)(J:kK)(G:kq)(Q:kM),Inv X Z U H s->Vals J G->t J U H Q->
  wpAny (model X.prog X.w) X.A (assignInOrder ((assignEach ts X.env).map (·.2)) G) (λ_ N=>∃L M,Inv X Z L M N/\Q L M) X.xe s
abbrev CT:=V->V->V->Hp->(Hp->Prop)->Prop
def Cc(X:Cx)(t:CT):Prop:=
 ∀(Z:kh)(s:Shared)(U:St)(H:Hp)(o i v:V)(J G u:Value)(Q:Hp->Prop),Inv X Z U H s->RelV o J->RelV i G->RelV v u->t o i v H Q->
  wpAny (model X.prog X.w) X.A (setItem J G u) (λ_ M=>∃L,Inv X Z U L M/\Q L) X.xe s
abbrev TIp:=V->V->Hp->VK->Prop
def PIp(X:Cx)(op:Operator)(t:TIp):Prop:=
 ∀(Z:kh)(s:Shared)(U:St)(H:Hp)(x y:V)(v u:Value)(Q:VK),Inv X Z U H s->RelV x v->RelV y u->t x y H Q->
  wpAny (model X.prog X.w) X.A (inplaceOp op v u) (EP X Z U Q) X.xe s
section
variable{X:Cx}
def Vi(i:Nat):TG:=λv U H Q=>Q (U.set i<|some v) H
def Yd(i:Nat)(L:X.N.Nodup)(J:X.N[i]?=some x:=by exact Y)(hx:Loc X.env.scope x:=by exact Or.inl Y)(G:X.fn x=true\/X.env.scope.names.lookup x=some .local:=by first|exact .inl Y|exact .inr Y|assumption):PG X (.Name x pos) (Vi i):=by
 intro Z s U H v u Q I r h;exact wpAny_assign_Name<|WG I L J hx r (λN M=>⟨_,H,M,h⟩) G
def Nw:TGs:=λvs U H Q=>match vs with
 |[]=>Q U H
 |_=>False
def Nw.old(h:Nw Z U H Q):Z=[]/\Q U H:=by
 match Z,h with
 |[],h=>exact⟨Y,h⟩
def U9(t:TG)(u:TGs):TGs:=λvs U H Q=>match vs with
 |v::r=>t v U H λU' H'=>u r U' H' Q
 |_=>False
def U9.old(h:U9 t u Z U H Q):∃v r,Z=v::r/\t v U H λJ G=>u r J G Q:=by
 match Z,h with
 |v::r,h=>exact⟨v,r,Y,h⟩
def Y7:PGs X [] Nw:=by
 intro Z s U H J G Q I r h;replace h:=Nw.old h;obtain⟨e,h⟩:=h;subst e;cases r;exact assignInOrder_nil ⟨U,H,I,h⟩
def Yj(R:PG X e t)(O:PGs X J u)(N:(assignEach (e::J) X.env).map (·.2)=assign e X.env::(assignEach J X.env).map (·.2):=by rfl):PGs X (e::J) (U9 t u):=by
 intro Z s U H E A Q I r h;replace h:=U9.old h;obtain⟨v,F,T,h⟩:=h;subst T
 cases r with
 |cons r L=>
  rw[N];refine assignInOrder_cons<|thn (R Z s U H _ _ _ I r h) λ_ G ⟨σ1,D,B,M⟩=>?_;exact O Z G σ1 D _ _ Q B L M
def PU(K:W.Frag)(n:Nat)(t:TGs):TG:=λv U H Q=>Jb v λa=>∃Z,SqT K H a Z/\Z.length=n/\t Z U H Q
def VI(F:X.calm=true)(h:PGs X L t)(D:(assignEach L X.env).length=n:=by rfl)(G:(assignEach L X.env).findIdx? (·.1)=none:=by rfl):PG X (.Tuple L k pos) (PU X.K n t):=by
 intro Z s U H v u Q I r J;replace J:=Jb.old J;obtain⟨a,S,N,B,E,J⟩:=J;subst S;cases r;obtain⟨O,M,T,P⟩:=I.tuple B;refine assign_Tuple_tuple (I.ok.hd F) T (by simp[D,<-E,M.length]) G λA R=>?_;have C:Inv X Z U H {s with heap:=A}:=I.kept (t':=s.toks) λb o e=>R b o (Zc<|ZN e) e;exact h Z _ U H N _ Q C (by simpa using M) J
def zM(to ti:TE)(t:CT):TG:=λv U H Q=>to U H λo G=>ti U G λi J=>t o i v J λZ=>Q U Z
def XI(E:PE X o to)(F:PE X i ti)(D:Cc X t)(A:∀v,assign (.Subscript o i pos) X.env v=(do
   let J <-holding [v] (eval o X.env)
   let G <-holding [v,J] (eval i X.env)
   standAt pos
   holding [v,J,G] (setItem J G v)
   release [v,J,G] []):=by intro _;rfl):PG X (.Subscript o i pos) (zM to ti t):=by
 intro Z s U H v u Q I r h;rw[A];refine Zj<|wpAny_holding<|thn (E Z s U H _ I h) λJ M ⟨x,q,P,O,B⟩=>?_;refine Zj<|wpAny_holding<|thn (F Z M U q _ P B) λG L ⟨y,z,C,N,T⟩=>?_;refine Zj<|yw<|Zj<|wpAny_holding<|thn (D Z L U z x y v J G u _ C O N r T) λ_ m ⟨j,S,R⟩=>?_;exact wpAny_release ⟨U,j,S,R⟩
def BS(te:TE)(g:TG):TS:=λD U H=>te U H λx Z=>g x U Z D.nx
def Vz(R:PE X e te)(O:PG X tg g)(N:swapsWithSole [tg] e pos.line X.env=pure false:=by rfl)(M:swappedStores [tg] e X.env=pure none:=by rfl)(T:(assignEach [tg] X.env).map (·.2)=[assign tg X.env]:=by rfl):PS X (.Assign [tg] e pos) (BS te g):=by
 intro Z s U H D I h;refine wpAny_Assign_stores (thn (R Z s U H _ I h) λv J ⟨x,E,B,G,L⟩=>?_) N M;rw[T];exact thn (O Z J U E x v _ B G L) λ_ F q=>q
def Yp(i:Nat)(R:X.N.Nodup)(O:PE X e te)(M:X.N[i]?=some x:=by exact Y)(hx:Loc X.env.scope x:=by exact Or.inl Y)(L:swapsWith e (some<|.Name x pos') pos.line X.env=pure false:=by rfl)(N:X.fn x=true\/X.env.scope.names.lookup x=some .local:=by first|exact .inl Y|exact .inr Y|assumption):
  PS X (.Assign [.Name x pos'] e pos) (BS te<|Vi i):=by
 intro Z s U H D I h;refine wpAny_Assign_Name (thn (O Z s U H _ I h) λv A ⟨y,E,B,J,G⟩=>?_) L;exact WG B R M hx J (λF T=>⟨_,E,T,G⟩) N
def Cp(i:Nat)(te:TE)(ti:TIp):TS:=λD U H=>∃x,U[i]?=some (some x)/\te U H λy J=>ti x y J λz Z=>D.nx (U.set i<|some z) Z
def KB(p:X.N.Nodup)(R:X.N[i]?=some x)(O:Loc X.env.scope x)(t:PE X e te)(C:PIp X op ti)(q:X.fn x=true\/X.env.scope.names.lookup x=some .local:=by first|exact .inl Y|exact .inr Y|assumption):
  PS X (.AugAssign (.Name x pos') op e pos) (Cp i te ti):=by
 intro Z s U H D I h;obtain⟨v,d,h⟩:=h;obtain⟨m,P,j⟩:=I.loc;have N:Vis X.env.scope x:=by rcases O with k|k;exact .inl k;exact .inr<|.inl k
 obtain⟨u,r,l⟩:=j i x v R d N;refine wpAny_AugAssign_Name ?_
 have T:wpAny (model X.prog X.w) X.A (eval e X.env) (λw M=>wpAny (model X.prog X.w) X.A (inplaceOp op u w) (λr L=>wpAny (model X.prog X.w) X.A (storeName X.env x r) (λ_=>SP X Z D .next) X.xe L) X.xe M) X.xe s:=by
  refine thn (t Z s U H _ I h) λw B ⟨y,a,o,F,S⟩=>?_;refine thn (C Z B U a v y u w _ o r F S) λz s2 ⟨zv,n,b,E,A⟩=>?_;exact WG b p R O E (λs3 f=>⟨_,n,f,A⟩) q
 rcases l with⟨J,Q⟩|⟨J,c,g,G⟩
 .exact wpAny_loadName_local I.ok.kind J P Q T
 .rcases J with J|J
  .exact wpAny_loadName_cell I.ok.kind J g G T
  .rcases O with k|k
   .have:X.env.scope.names.lookup x=some .free:=J
    rw[k]at this;cases this
   .have:X.env.scope.names.lookup x=some .free:=J
    rw[k]at this;cases this
end
structure It where
 go:Nat->Hp->Prop
 yld:Nat->Hp->V->Hp->Prop
 stop:Nat->Hp->Prop
def UG(X:Cx)(pins:kh)(H:Hp)(b:Addr):Prop:=
 H b=none/\b≠X.env.locals/\b∉X.fs/\(b∈X.ex\/X.s₀.heap.objs.size<=b)/\(∀x c,X.env.cells.lookup x=some c->c≠b)/\∀p∈X.pn++ pins,p.1≠b
def Inv.fpOk(I:Inv X Z U H s)(J:s.heap.objs.size<=b)(L:M b=none):UG X Z M b:=by
 refine⟨L,yh<|Zv I.lt J,I.nofs J,.inr<|ZZ I.sz J,λx c e z=>?_,λp G z=>?_⟩
 .obtain ⟨v,q⟩:=I.cell x c e
  exact Zp (Zv q.lt (by rw[z];exact J))<|zX _
 .exact Zp (Zv (ZN (I.pin p G).1) (by rw[z];exact J)) (zX _)
structure Turn(P:Program)(w:World)(K:W.Frag)(tg:Expr)(J:It)(fp:List Addr)(it:Addr)(tn:Nat->Heap->Prop):Prop where
 mem:it∈fp
 obj:∀i h,tn i h->∀b∈fp,∃o,h.get? b=some o/\∀v,o.data≠.cell v
 keep:∀i h h',tn i h->(∀b∈fp,∀o,h.get? b=some o->h'.get? b=some o)->tn i h'
 item:∀(X:Cx),X.prog=P->X.w=w->X.K=K->X.calm=true->∀(i:Nat)(pins:List (Addr×Obj))(s:Shared)(U:St)(H:Hp)(E:Value->Shared->Prop),Inv X pins U H s->(∀b∈fp,UG X pins H b)->tn i s.heap->J.go i H->
  wpAny (model P w) X.A (pyNext (.ref it)) (λr s1=>∃u,r=some u/\
   wpAny (model P w) X.A (letOwnedTupleGo tg (.ref it) u) (λ_ s2=>∃x H',Inv X pins U H' s2/\RelV x u/\J.yld i H x H'/\tn (i+1) s2.heap/\∀b∈fp,H' b=none) E s1) E s
 done:∀(X:Cx),X.prog=P->X.w=w->X.K=K->X.calm=true->∀(i:Nat)(pins:List (Addr×Obj))(s:Shared)(U:St)(H:Hp)(E:Value->Shared->Prop),Inv X pins U H s->(∀b∈fp,UG X pins H b)->tn i s.heap->J.stop i H->
  wpAny (model P w) X.A (pyNext (.ref it)) (λr s1=>r=none/\Inv X pins U H s1) E s
 self:∀(A:Around)(i:Nat)(s:Shared)(Q:Value->Shared->Prop)(E:Value->Shared->Prop),tn i s.heap->Q (.ref it) s->wpAny (model P w) A (pyIter (.ref it)) Q E s
abbrev TI:=St->Hp->(It->Hp->Prop)->Prop
def PIE(X:Cx)(pins:kh)(U:St)(tg:Expr)(R:It->Hp->Prop)(itv:Value)(s2:Shared):Prop:=
 ∃(L:Addr)(M:kF)(G:Nat->Heap->Prop)(J:It)(Z:Hp),itv=.ref L/\Inv X pins U Z s2/\Turn X.prog X.w X.K tg J M L G/\G 0 s2.heap/\(∀b∈M,UG X pins Z b)/\R J Z
def PI(X:Cx)(tg iter:Expr)(wi:TI):Prop:=
 ∀(Z:kh)(s:Shared)(U:St)(H:Hp)(R:It->Hp->Prop),Inv X Z U H s->wi U H R->
  wpAny (model X.prog X.w) X.A (eval iter X.env) (λv J=>wpAny (model X.prog X.w) X.A (pyIter v) (PIE X Z U tg R) X.xe J) X.xe s
def LN(G:s.heap.get? it=some o)(O:o.cls=.type n)(N:o.data=.fields J)(L:["enumerate","zip","dict_itemiterator","dict_reverseitemiterator","odict_iterator","itertools.zip_longest","itertools.pairwise"].contains n=false)(Z:Q () s):wpAny M A (letOwnedTupleGo tg (.ref it) u) Q E s:=by
  unfold letOwnedTupleGo;cases tg <;> first
    |exact Zk Z
    | (cases u <;> first
        |exact Zk Z
        | (refine Zj<|wpAny_load G ?_
           rw[O,N];show wpAny M A (if(["enumerate","zip","dict_itemiterator","dict_reverseitemiterator","odict_iterator","itertools.zip_longest","itertools.pairwise"].contains n && J[0]?==some (rawInt _))=true then _ else _) Q E s;rw[Zo (by intro h;rw[L,Bool.false_and]at h;cases h)];exact Zk Z))
def Itl(K:W.Frag)(a:Addr):It:=
 ⟨λi H=>∃Z x,SqL K H a Z/\Z[i]?=some x,λi H x J=>J=H/\∀Z,SqL K H a Z->Z[i]?=some x,λi H=>∃Z,SqL K H a Z/\Z.length<=i⟩
def Itt(K:W.Frag)(a:Addr):It:=
 ⟨λi H=>∃Z x,SqT K H a Z/\Z[i]?=some x,λi H x J=>J=H/\∀Z,SqT K H a Z->Z[i]?=some x,λi H=>∃Z,SqT K H a Z/\Z.length<=i⟩
def Itr(lo:Int)(n:Nat):It:=⟨λi _=>i<n,λi H x Z=>Z=H/\x=.int (lo+i),λi _=>n<=i⟩
def E2{P:Program}{w:World}{K:W.Frag}{tg:Expr}(a it:Addr):Turn P w K tg (Itl K a) [it] it (λi h=>h.IsListIter it a i) where
 mem:=by simp
 obj:=λi h Z b G=>by
  have e:b=it:=by simpa using G
  subst e;obtain⟨o,e,c,d⟩:=Z;exact⟨o,e,λv z=>by rw[d]at z;cases z⟩
 keep:=λi h O Z k=>Z.at λo e=>k it (by simp) o e
 item:=by
  intro X A D S t i J s U H E I N Z F;subst A D S;obtain⟨m,x,M,B⟩:=F;obtain⟨T,R,p,r⟩:=I.list M;obtain⟨u,n,f⟩:=R.get B;obtain⟨q,y,f2,j,Q,C⟩:=N it (by simp);refine wpAny_pyNext_list_item Z p.isList (x:=u) (by simpa using n) λO L g=>?_;have I1:Inv X J U H {s with heap:=O}:=I.turned (t':=s.toks) (λb o G e=>(g.2 b G).trans e) q y j Q C;obtain⟨o,e,c,d⟩:=id L;exact⟨u,Y,LN (s:={s with heap:=O}) e c d (by decide) ⟨x,H,I1,f,⟨Y,λys l=>by rw[I.list_inj l M];exact B⟩,L,λb G=>(N b G).1⟩⟩
 done:=by
  intro X A D S t i J s U H E I N Z F;subst A D S;obtain⟨m,M,B⟩:=F;obtain⟨T,R,p,r⟩:=I.list M;obtain⟨q,y,f2,j,Q,C⟩:=N it (by simp);have hl:=R.length;exact wpAny_pyNext_list_end (I.ok.hd t) Z p.isList (by simp;omega) λO eb=>⟨Y,I.turned (t':=s.toks) (λb o G e=>eb b o G e) q y j Q C⟩
 self:=λ_ _ _ _ _ Z h=>wpAny_pyIter_listiter Z h
def BM{P:Program}{w:World}{K:W.Frag}{tg:Expr}(a it:Addr):Turn P w K tg (Itt K a) [it] it (λi h=>h.IsTupleIter it a i) where
 mem:=by simp
 obj:=λi h Z b L=>by
  have e:b=it:=by simpa using L
  subst e;obtain⟨o,e,c,d⟩:=Z;exact⟨o,e,λv z=>by rw[d]at z;cases z⟩
 keep:=λi h R Z k=>Z.at λo e=>k it (by simp) o e
 item:=by
  intro X A D S t i J s U H E I O Z F;subst A D S;obtain⟨m,x,N,B⟩:=F;obtain⟨G,T,p,r⟩:=I.tuple N;obtain⟨u,n,f⟩:=T.get B;obtain⟨q,y,f2,j,Q,C⟩:=O it (by simp);refine wpAny_pyNext_tuple_item Z (show s.heap.IsTuple a G.toArray from p) (x:=u) (by simpa using n) λR M g=>?_;have I1:Inv X J U H {s with heap:=R}:=I.turned (t':=s.toks) (λb o L e=>(g.2 b L).trans e) q y j Q C;obtain⟨o,e,c,d⟩:=id M;exact⟨u,Y,LN (s:={s with heap:=R}) e c d (by decide) ⟨x,H,I1,f,⟨Y,λys l=>by rw[I.tuple_inj l N];exact B⟩,M,λb L=>(O b L).1⟩⟩
 done:=by
  intro X A D S t i J s U H E I O Z F;subst A D S;obtain⟨m,N,B⟩:=F;obtain⟨G,T,p,r⟩:=I.tuple N;obtain⟨q,y,f2,j,Q,C⟩:=O it (by simp);have hl:=T.length;exact wpAny_pyNext_tuple_end (I.ok.hd t) Z (show s.heap.IsTuple a G.toArray from p) (by simp;omega) λR eb=>⟨Y,I.turned (t':=s.toks) (λb o L e=>eb b o L e) q y j Q C⟩
 self:=λ_ _ _ _ _ Z h=>wpAny_pyIter_tupleiter Z h
def BN{P:Program}{w:World}{K:PySem.W.Frag}{tg:Expr}(it:Addr)(M:Int)(n:Nat):Turn P w K tg (Itr M n) [it] it (λi h=>IsRangeIter h it (M+(i:Nat)*1) ((n:Int)-(i:Nat)) 1) where
 mem:=by simp
 obj:=λi h Z b G=>by
  have e:b=it:=by simpa using G
  subst e
  exact⟨_,Z,λv z=>by
   have q:Data.fields _=Data.cell v:=z;cases q⟩
 keep:=λi h O Z k=>k it (by simp) _ Z
 item:=by
  intro X D R F B i J s U H E I N Z T;subst D R F;obtain⟨j,Q,p,C,S,A⟩:=N it (by simp);have W:=Walks.range (prog:=X.prog) (w:=X.w) (I.ok.hd B) it M 1 n;refine W.item i s _ _ T Z λv O y g L m=>?_;obtain⟨t,rfl⟩:=g;have d:Inv X J U H {s with heap:=O,toks:=y}:=I.turned (λb o G e=>m b o (by simpa using G) e) j Q C S A;refine⟨_,Y,LN (s:={s with heap:=O,toks:=y}) (n:="range_iterator") L Y Y (by decide) ⟨.int<|M+i,H,d,⟨t,?_⟩,⟨rfl,rfl⟩,L,λb G=>(N b G).1⟩⟩;rw[Int.mul_one]
 done:=by
  intro X D R F B i J s U H E I N Z T;subst D R F;obtain⟨j,Q,p,C,S,A⟩:=N it (by simp);exact wpAny_pyNext_range_end (I.ok.hd B) Z (by have:n<=i:=T;omega) λO c=>⟨Y,I.turned (t':=s.toks) (λb o G e=>c b o G e) j Q C S A⟩
 self:=λ_ _ _ _ _ Z h=>wpAny_pyIter_rangeiter Z h
end L2
namespace L2
open PySem PySem.Spec PyProof.Rows
section
def LD(K:W.Frag)(tl:TE):TI:=λU H R=>tl U H λx Z=>Jb x λa=>(∃J,SqL K Z a J)/\R (Itl K a) Z
def zF(K:W.Frag)(tl:TE):TI:=λU H R=>tl U H λx Z=>Jb x λa=>(∃J,SqT K Z a J)/\R (Itt K a) Z
def VL(T:PE X l tl):PI X tg l (LD X.K tl):=by
 intro Z s U H R I h;refine thn (T Z s U H _ I h) λv J ⟨x,D,G,M,L⟩=>?_;replace L:=Jb.old L;obtain⟨a,e,⟨E,O⟩,q⟩:=L;subst e;cases M;obtain⟨N,F,p,A⟩:=G.list O;refine yY p.isList ?_;refine⟨J.heap.objs.size,[J.heap.objs.size],_,_,D,Y,G.kept (t':=J.toks) λb o e=>ZD _ e,E2 a _,⟨_,ZW _ Y,Y,Y⟩,λb B=>?_,q⟩;have e:b=J.heap.objs.size:=by simpa using B
 subst e;exact G.fpOk (ZF _)<|G.hok.fresh<|ZF _
def Js(T:PE X l tl):PI X tg l (zF X.K tl):=by
 intro J s U H R I h;refine thn (T J s U H _ I h) λv Z ⟨x,D,G,N,L⟩=>?_;replace L:=Jb.old L;obtain⟨a,e,⟨E,O⟩,q⟩:=L;subst e;cases N;obtain⟨M,F,p,A⟩:=G.tuple O;refine wpAny_pyIter_tuple (show Z.heap.IsTuple a M.toArray from p) ?_;refine⟨Z.heap.objs.size,[Z.heap.objs.size],_,_,D,Y,G.kept (t':=Z.toks) λb o e=>ZD _ e,BM a _,⟨_,ZW _ Y,Y,Y⟩,λb B=>?_,q⟩;have e:b=Z.heap.objs.size:=by simpa using B
 subst e;exact G.fpOk (ZF _)<|G.hok.fresh<|ZF _
def Iy{Z J:Int}(I:Inv X G U H s)(B: -(2 ^ 62)<=Z)(T:Z<2 ^ 62)(O: -(2 ^ 62)<=J)(N:J<2 ^ 62)(q:R (Itr Z (J-Z).toNat) H):wpAny (model X.prog X.w) X.A (pyIter<|.ref s.heap.objs.size) (PIE X G U tg R) E {s with heap:=s.heap.push {cls:=.type "range",data:=.fields #[.int Z t,.int J u,.int 1 v]},toks:=tk}:=by
 refine wpAny_pyIter_range (IsRange.new ..) (small_one B T O N) ?_;have L:Inv X G U H {s with heap:=s.heap.push {cls:=.type "range",data:=.fields #[.int Z t,.int J u,.int 1 v]},toks:=tk}:=I.kept λb o e=>ZD _ e;refine⟨(s.heap.push {cls:=.type "range",data:=.fields #[.int Z t,.int J u,.int 1 v]}).objs.size,[(s.heap.push {cls:=.type "range",data:=.fields #[.int Z t,.int J u,.int 1 v]}).objs.size],_,_,H,Y,
  L.kept (t':=tk) λb o e=>ZD _ e,BN _ Z (J-Z).toNat,?_,λb M=>?_,q⟩
 .have e1:Z+((0:Nat):Int)*1=Z:=by simp
  have D:(((J-Z).toNat:Nat):Int)-((0:Nat):Int)=Builtin.Range.rangeSize Z J 1:=by rw[rangeSize_one];split <;> omega
  show IsRangeIter _ _ (Z+((0:Nat):Int)*1) ((((J-Z).toNat:Nat):Int)-((0:Nat):Int)) 1;rw[e1,D];exact ZW _ Y
 .have e:b=(s.heap.push {cls:=.type "range",data:=.fields #[.int Z t,.int J u,.int 1 v]}).objs.size:=by simpa using M
  subst e;exact L.fpOk (ZF _)<|L.hok.fresh<|ZF _
def CF(ta:TA):TI:=λU H R=>ta U H λZ J=>∃j:Int,Z=[.int j]/\ -(2 ^ 62)<=j/\j<2 ^ 62/\R (Itr 0 j.toNat) J
def Jt(T:Gl X "range")(O:X.mg "range"=none)(B:PA X [a] ta)(N:starEach [a] X.env=[(false,eval a X.env)]:=by rfl):PI X tg (.Call (.Name "range" p) [a] [] pos) (CF ta):=by
 intro Z s U H R I h;refine Call_<|Wy I T O boot_range<|yM (thn (B pos Z s U H _ I h) λF A ⟨E,S,D,L,J⟩=>?_) N rfl;obtain⟨j,e,J,M,q⟩:=J;subst e
 cases L with
 |cons r G=>
  cases G;obtain⟨t,rfl⟩:=r;exact call_range_1<|Iy D (by omega) (by omega) J M<|by simpa using q
def J6(wi:TI)(g:TG)(tb:TS):TS:=λD U H=>wi U H λJ O=>∃W:Nat->Nat->St->Hp->Prop,(∃m,W 0 m U O)/\∀i m U H,W i m U H->
 (J.stop i H/\D.nx U H)\/(J.go i H/\∃N:kM,(∀L Z,N L Z->∃G,G<m/\W (i+1) G L Z)/\∀x Z,J.yld i H x Z->g x U Z fun σ2 M=>tb {D with nx:=N,ct:=N,bk:=D.nx} σ2 M)
def VV(fp:kF)(h:Heap):kh:=fp.filterMap λb=>(h.get? b).map λo=>(b,o)
def Vl(Z:b∈fp)(e:h.get? b=some o):(b,o)∈VV fp h:=List.mem_filterMap.mpr ⟨b,Z,by rw[e];rfl⟩
def Xi(Z:p∈VV fp h):p.1∈fp/\h.get? p.1=some p.2:=by
 obtain⟨b,J,e⟩:=List.mem_filterMap.mp Z
 cases q:h.get? b with
 |none=>rw[q]at e;cases e
 |some o=>
  rw[q]at e;have G:(b,o)=p:=ZP e;subst G;exact⟨J,q⟩
def Inv.pinned(I:Inv X Z U H s)(N:∀b∈fp,UG X Z H b)(M:∀b∈fp,∃o,s.heap.get? b=some o/\∀v,o.data≠.cell v):Inv X (Z++ VV fp s.heap) U H s:=
 I.pins_of λp L=>(ZV.mp L).elim (λz=>I.pin p<|ZQ _ z) λz=>by
  obtain⟨J,e⟩:=Xi z;obtain⟨T,R,O,_⟩:=N p.1 J;obtain⟨o,G,d⟩:=M p.1 J;rw[e]at G;cases G;exact⟨e,T,R,O,d⟩
def Inv.unpinned(I:Inv X (Z++ pl) U H s):Inv X Z U H s:=I.pins_of λp J=>I.pin p<|ZQ _<|yR _ J
def Vy(S:PassesOwn (model X.prog X.w) X.A X.env X.xe)(a:X.calm=true)(hi:PI X tg iter wi)(hg:PG X tg g)(L:PSs X body tb)(hs:∀x,foldedSetIterable iter X.env x=pure x:=by intro _;rfl):PS X (.For tg iter body [] pos) (J6 wi g tb):=by
 intro Z s U H D I h;refine wpAny_For (thn (hi Z s U H _ I h) λv s1 h1=>thn h1 λZ8 s2 h2=>?_) hs;obtain⟨it,P,p,J,H2,e,I2,T,y,f2,W,⟨m0,w0⟩,turn⟩:=h2;subst e;have G:∀{R:Hp},(∀b∈P,R b=none)->∀b∈P,UG X Z R b:=λhn b L=>⟨hn b L,(f2 b L).2⟩;refine codeAny_forLoop_any (λn l=>∃i Q R,Inv X Z Q R l/\p i l.heap/\(∀b∈P,R b=none)/\W i n Q R) ?_ m0 ⟨0,U,H2,I2,y,λb L=>(f2 b L).1,w0⟩;rintro n w ⟨i,σ3,j,I3,F,C,w3⟩;rcases turn i n σ3 j w3 with⟨stop,qn⟩|⟨go,N,hN,step⟩
 .refine vS S (thn (T.done X rfl rfl rfl a i Z w σ3 j X.xe I3 (G C) F stop) λr s4 ⟨q,I4⟩=>?_)
  subst q;exact jj ⟨σ3,j,I4,qn⟩
 .refine vS S (thn (T.item X rfl rfl rfl a i Z w σ3 j X.xe I3 (G C) F go) λr s4 ⟨u,q,h4⟩=>?_)
  subst q;refine vS S<|thn h4 λ_ c ⟨x,H5,I5,r5,y5,E,t⟩=>?_;have k:=I5.pinned (G t)<|T.obj _ _ E;refine vS S<|thn (hg _ c σ3 H5 x u _ k r5<|step x H5 y5) λ_ s6 ⟨σ6,H6,I6,q6⟩=>?_;refine vS S<|thn (L _ s6 σ6 H6 _ I6 q6) λf z B=>?_
  have again:∀{σ7:St}{O:Hp},Inv X (Z++ VV P c.heap) σ7 O z->N σ7 O->∃m,m<n/\∃i Q R,Inv X Z Q R z/\p i z.heap/\(∀b∈P,R b=none)/\W i m Q R:=λ{σ7 O} M A=>by
   obtain⟨m',hm,w7⟩:=hN σ7 O A;refine⟨m',hm,i+1,σ7,O,M.unpinned,T.keep _ _ _ E λb L o e=>(M.pin (b,o)<|ZQ _<|ZQ _<|Vl L e).1,λb L=>?_,w7⟩;obtain⟨o,e,d⟩:=T.obj _ _ E b L;exact(M.pin (b,o)<|ZQ _<|ZQ _<|Vl L e).2.1
  cases f with
  |next=>obtain⟨σ7,O,M,A⟩:=B;exact again M A
  |cont=>obtain⟨σ7,O,M,A⟩:=B;exact again M A
  |brk=>obtain⟨σ7,O,M,B⟩:=B;exact⟨σ7,O,M.unpinned,B⟩
  |ret v=>obtain⟨x7,σ7,O,M,r7,B⟩:=B;exact⟨x7,σ7,O,M.unpinned,r7,B⟩
end
def LT{K:PySem.W.Frag}{g:TG}{O:TS}{D:Ends}(J:kL)(S:J 0 U H)(F:∀i U H,i<=Z.length->J i U H->SqL K H a Z)(E:∀i x U H,Z[i]?=some x->J i U H->g x U H fun σ2 M=>O {D with nx:=J<|i+1,ct:=J<|i+1,bk:=D.nx} σ2 M)(I:∀U H,J Z.length U H->D.nx U H):
  ∃W:Nat->Nat->St->Hp->Prop,(∃m,W 0 m U H)/\∀i m U H,W i m U H->
   ((Itl K a).stop i H/\D.nx U H)\/((Itl K a).go i H/\∃N:kM,(∀L G,N L G->∃R,R<m/\W (i+1) R L G)/\∀x G,(Itl K a).yld i H x G->g x U G fun σ2 M=>O {D with nx:=N,ct:=N,bk:=D.nx} σ2 M):=by
 refine⟨λi m U H=>m=Z.length-i/\i<=Z.length/\J i U H,⟨Z.length,by simp,Za _,S⟩,?_⟩;rintro i m U H ⟨rfl,A,p⟩;have q:=F i U H A p
 by_cases hlt:i<Z.length
 .refine .inr ⟨⟨Z,Z[i],q,by simp[hlt]⟩,J<|i+1,λL G T=>⟨Z.length-(i+1),by omega,rfl,hlt,T⟩,λx G y=>?_⟩
  obtain⟨e,y⟩:=y;subst e;exact E i x U _ (y Z q) p
 .have e:i=Z.length:=by omega
  subst e;exact .inl ⟨⟨Z,q,ZF _⟩,I U H p⟩
def PV{K:PySem.W.Frag}{g:TG}{O:TS}{D:Ends}(J:kL)(S:J 0 U H)(F:∀i U H,i<=Z.length->J i U H->SqT K H a Z)(E:∀i x U H,Z[i]?=some x->J i U H->g x U H fun σ2 M=>O {D with nx:=J<|i+1,ct:=J<|i+1,bk:=D.nx} σ2 M)(I:∀U H,J Z.length U H->D.nx U H):
  ∃W:Nat->Nat->St->Hp->Prop,(∃m,W 0 m U H)/\∀i m U H,W i m U H->
   ((Itt K a).stop i H/\D.nx U H)\/((Itt K a).go i H/\∃N:kM,(∀L G,N L G->∃R,R<m/\W (i+1) R L G)/\∀x G,(Itt K a).yld i H x G->g x U G fun σ2 M=>O {D with nx:=N,ct:=N,bk:=D.nx} σ2 M):=by
 refine⟨λi m U H=>m=Z.length-i/\i<=Z.length/\J i U H,⟨Z.length,by simp,Za _,S⟩,?_⟩;rintro i m U H ⟨rfl,A,p⟩;have q:=F i U H A p
 by_cases hlt:i<Z.length
 .refine .inr ⟨⟨Z,Z[i],q,by simp[hlt]⟩,J<|i+1,λL G T=>⟨Z.length-(i+1),by omega,rfl,hlt,T⟩,λx G y=>?_⟩
  obtain⟨e,y⟩:=y;subst e;exact E i x U _ (y Z q) p
 .have e:i=Z.length:=by omega
  subst e;exact .inl ⟨⟨Z,q,ZF _⟩,I U H p⟩
def Rh{G:Int}{g:TG}{O:TS}{D:Ends}(Z:kL)(A:Z 0 U H)(E:∀i U H,i<n->Z i U H->g (.int<|G+i) U H fun σ2 M=>O {D with nx:=Z<|i+1,ct:=Z<|i+1,bk:=D.nx} σ2 M)(F:∀U H,Z n U H->D.nx U H):
  ∃W:Nat->Nat->St->Hp->Prop,(∃m,W 0 m U H)/\∀i m U H,W i m U H->
   ((Itr G n).stop i H/\D.nx U H)\/((Itr G n).go i H/\∃N:kM,(∀L J,N L J->∃R,R<m/\W (i+1) R L J)/\∀x J,(Itr G n).yld i H x J->g x U J fun σ2 M=>O {D with nx:=N,ct:=N,bk:=D.nx} σ2 M):=by
 refine⟨λi m U H=>m=n-i/\i<=n/\Z i U H,⟨n,by simp,Za _,A⟩,?_⟩;rintro i m U H ⟨rfl,I,p⟩
 by_cases hlt:i<n
 .refine .inr ⟨hlt,Z<|i+1,λL J T=>⟨n-(i+1),by omega,rfl,hlt,T⟩,λx J y=>?_⟩
  obtain⟨e,y⟩:=y;subst e y;exact E i U _ hlt p
 .have e:i=n:=by omega
  subst e;exact .inl ⟨ZF _,F U H p⟩
abbrev R2:=V->V->Hp->VK->Prop
def OpR(X:Cx)(f:Value->Value->Sem Value)(r:R2):Prop:=
 ∀(Z:kh)(s:Shared)(U:St)(H:Hp)(x y:V)(v u:Value)(Q:VK),Inv X Z U H s->RelV x v->RelV y u->r x y H Q->
  wpAny (model X.prog X.w) X.A (f v u) (EP X Z U Q) X.xe s
def UnR(X:Cx)(f:Value->Sem Value)(r:V->Hp->VK->Prop):Prop:=
 ∀(Z:kh)(s:Shared)(U:St)(H:Hp)(x:V)(v:Value)(Q:VK),Inv X Z U H s->RelV x v->r x H Q->
  wpAny (model X.prog X.w) X.A (f v) (EP X Z U Q) X.xe s
def Jr(X:Cx)(f:Value)(r:List V->Hp->VK->Prop):Prop:=
 ∀(Z:kh)(s:Shared)(U:St)(H:Hp)(J:kK)(G:kq)(Q:VK),Inv X Z U H s->Vals J G->r J H Q->
  wpAny (model X.prog X.w) X.A (call f G) (EP X Z U Q) X.xe s
def tOp(r:R2)(ta tb:TE):TE:=λU H Q=>ta U H λx J=>tb U J λy Z=>r x y Z Q
def tUn(r:V->Hp->VK->Prop)(ta:TE):TE:=λU H Q=>ta U H λx Z=>r x Z Q
def rI(C:Int->Int->Prop)(g:Int->Int->V):R2:=λx y H Q=>U1 x λi=>U1 y λj=>C i j/\Q (g i j) H
def rI.old(h:rI C g x y H Q):∃i j,x=.int i/\y=.int j/\C i j/\Q (g i j) H:=by
 replace h:=U1.old h;obtain⟨i,e,h⟩:=h;replace h:=U1.old h;obtain⟨j,Z,h⟩:=h;exact⟨i,j,e,Z,h⟩
def rI0(g:Int->Int->V):R2:=λx y H Q=>U1 x λi=>U1 y λj=>Q (g i j) H
def rI0.old(h:rI0 g x y H Q):∃i j,x=.int i/\y=.int j/\Q (g i j) H:=by
 replace h:=U1.old h;obtain⟨i,e,h⟩:=h;replace h:=U1.old h;obtain⟨j,Z,h⟩:=h;exact⟨i,j,e,Z,h⟩
def rU(g:Int->V):V->Hp->VK->Prop:=λx H Q=>∃i,x=.int i/\Q (g i) H
section
def S0(S:PE X a ta)(A:PE X b tb){R:V->V->Hp->Prop}(I:Inv X Z U H s)(h:ta U H λx N=>tb U N λy J=>R x y J){f:Value->Value->Sem Value}(F:∀v u M x y J,Inv X Z U J M->RelV x v->RelV y u->R x y J->wpAny (model X.prog X.w) X.A (f v u) Q X.xe M):
  wpAny (model X.prog X.w) X.A (eval a X.env) (λv L=>wpAny (model X.prog X.w) X.A (eval b X.env) (λu G=>wpAny (model X.prog X.w) X.A (f v u) Q X.xe G) X.xe L) X.xe s:=by
 refine thn (S Z s U H _ I h) λv O ⟨x,N,P,B,E⟩=>?_;refine thn (A Z O U N _ P E) λu M ⟨y,J,C,T,D⟩=>?_;exact F v u M x y J C B T D
def Y4(M:OpR X (binaryOp op) r)(O:PE X a ta)(N:PE X b tb):PE X (.BinOp a op b pos) (tOp r ta tb):=by
 intro Z s U H Q I h;exact wpAny_BinOp<|S0 O N I h λv u J x y T R L G q=>M Z J U T x y v u Q R L G q
def RZ(M:UnR X (unaryOp op) r)(N:PE X a ta):PE X (.UnaryOp op a pos) (tUn r ta):=by
 intro Z s U H Q I h;exact UnaryOp_<|thn (N Z s U H _ I h) λv J ⟨x,R,O,G,L⟩=>M Z J U R x v Q O G L
def opI{g:Int->Int->Int}(rule:∀(i j:Int)(t u:Tok)(s:Shared)(Q:ko)(E:ko),C i j->Q (.int (g i j) s.toks) {s with toks:=s.toks+1}->wpAny (model X.prog X.w) X.A (f (.int i t)<|.int j u) Q E s):
  OpR X f (rI C λi j=>.int<|g i j):=by
 intro Z s U H x y v u Q I L G h;replace h:=rI.old h;obtain⟨i,j,rfl,rfl,M,q⟩:=h;obtain⟨t,rfl⟩:=L;obtain⟨J,rfl⟩:=G;exact rule i j t J s _ _ M ⟨.int<|g i j,H,I.tok _,⟨_,rfl⟩,q⟩
def Q3{g:Int->Int->Int}(rule:∀(i j:Int)(t u:Tok)(s:Shared)(Q:ko)(E:ko),Q (.int (g i j) s.toks) {s with toks:=s.toks+1}->wpAny (model X.prog X.w) X.A (f (.int i t)<|.int j u) Q E s):
  OpR X f (rI0 λi j=>.int<|g i j):=by
 intro Z s U H x y v u Q I L G h;replace h:=rI0.old h;obtain⟨i,j,rfl,rfl,q⟩:=h;obtain⟨t,rfl⟩:=L;obtain⟨J,rfl⟩:=G;exact rule i j t J s _ _ ⟨.int<|g i j,H,I.tok _,⟨_,rfl⟩,q⟩
def Ol{g:Int->Int->Bool}(rule:∀(i j:Int)(t u:Tok)(s:Shared)(Q:ko)(E:ko),Q (.bool<|g i j) s->wpAny (model X.prog X.w) X.A (f (.int i t)<|.int j u) Q E s):
  OpR X f (rI0 λi j=>.bl<|g i j):=by
 intro Z s U H x y v u Q I L G h;replace h:=rI0.old h;obtain⟨i,j,rfl,rfl,q⟩:=h;obtain⟨t,rfl⟩:=L;obtain⟨J,rfl⟩:=G;exact rule i j t J s _ _ ⟨.bl<|g i j,H,I,rfl,q⟩
def zV(i j:Int):Prop:=0<j/\j<1073741824
def Cd(i j:Int):Prop:=0<=j/\j<=1000000/\i.natAbs<2 ^ 64
def Pn(i j:Int):Prop:=(-(2 ^ 64)<i/\i<2 ^ 64)\/(-(2 ^ 64)<j/\j<2 ^ 64)
def Pn.ok(h:Pn i j):IntMulOk i j:=by
 rcases h with⟨J,Z⟩|⟨J,Z⟩
 .exact .of_left (intBits_le_64 J Z)
 .exact .of_right (intBits_le_64 J Z)
def Vt:OpR X (binaryOp .Add) (rI0 λi j=>.int<|i+j):=Q3 λ_ _ _ _ _ _ _ q=>add_int q
def Mg:OpR X (binaryOp .Sub) (rI0 λi j=>.int<|i-j):=Q3 λ_ _ _ _ _ _ _ q=>sub_int q
def Ju:OpR X (binaryOp .Mult) (rI Pn λi j=>.int<|i*j):=opI λ_ _ _ _ _ _ _ Z q=>mul_int q Z.ok
def WT:OpR X (binaryOp .FloorDiv) (rI zV λi j=>.int<|i / j):=opI λi j _ _ _ _ _ Z q=>by
 have G:(0:Int)<j:=Z.1;have J:j<1073741824:=Z.2;exact floordiv_int (by omega) (by rw[Int.fdiv_eq_ediv_of_nonneg i (by omega)];exact q)<|.inl<|PyProof.noPylong_small<|by omega
def Ux:OpR X (binaryOp .Mod) (rI (λ_ j=>0<j) λi j=>.int<|i % j):=opI λi j _ _ _ _ _ Z q=>by
 have J:(0:Int)<j:=Z;exact mod_int' (by omega) (by rw[Int.fmod_eq_emod_of_nonneg i (by omega)];exact q)
def Q1:OpR X (binaryOp .Pow) (rI Cd λi j=>.int<|i ^ j.toNat):=opI λ_ _ _ _ _ _ _ Z q=>pow_int_small Z.1 Z.2.1 Z.2.2 q
def PK:OpR X (inplaceOp .Add) (rI0 λi j=>.int<|i+j):=Q3 λ_ _ _ _ _ _ _ q=>iadd_int q
def PJ:OpR X (inplaceOp .Mult) (rI Pn λi j=>.int<|i*j):=opI λ_ _ _ _ _ _ _ Z q=>imul_int q Z.ok
def unI{g:Int->Int}(rule:∀(i:Int)(t:Tok)(s:Shared)(Q:ko)(E:ko),Q (.int (g i) s.toks) {s with toks:=s.toks+1}->wpAny (model X.prog X.w) X.A (f<|.int i t) Q E s):
  UnR X f (rU λi=>.int<|g i):=by
 intro Z s U H x v Q I J h;obtain⟨i,rfl,q⟩:=h;obtain⟨t,rfl⟩:=J;exact rule i t s _ _ ⟨.int<|g i,H,I.tok _,⟨_,rfl⟩,q⟩
def Wd:UnR X (unaryOp .USub) (rU λi=>.int<|-i):=unI λ_ _ _ _ _ q=>neg_int q
end
def AN:V->V->Bool
 |.non,.non=>true|.non,.int _=>true|.int _,.non=>true|.non,.bl _=>true|.bl _,.non=>true|.non,.str _=>true|.str _,.non=>true
 |.int _,.int _=>true|.bl _,.bl _=>true|.str _,.str _=>true|.byt _,.byt _=>true
 |.int _,.str _=>true|.str _,.int _=>true|.bl _,.str _=>true|.str _,.bl _=>true
 |_,_=>false
def rEq:R2:=λx y H Q=>AN x y=true/\Q (.bl<|decide<|x=y) H
def rNe:R2:=λx y H Q=>AN x y=true/\Q (.bl<|!decide (x=y)) H
def Eg:decide (V.int i=V.int j)=(i==j):=by
 rw[yx];simp
def Lg:decide (V.bl i=V.bl j)=(i==j):=by
 rw[yx];simp
def Ef:decide (V.str i=V.str j)=(i==j):=by
 rw[yx];simp
def Eh:decide (V.byt i=V.byt j)=(i.toList==j.toList):=by
 rw[yx];cases i;cases j;simp
section
variable{a b c:Expr}{ta tb tc:TE}
def VU(I:Inv X Z U H s)(q:Q (.bl k) H)(e:k=k'):EP X Z U Q (.bool k') s:=by
 subst e;exact⟨.bl k,H,I,Y,q⟩
def Vk:OpR X (compareOp .Eq) rEq:=by
 intro M s U H x y v u Q I L Z h;obtain⟨G,q⟩:=h
 cases x with
 |non=>
  cases L
  cases y with
  |non=>cases Z;exact PySem.EqNone.eq_none_none<|VU I q<|by simp
  |bl j=>cases Z;exact PySem.EqNone.eq_none_bool<|VU I q<|by simp
  |int j=>obtain⟨J,rfl⟩:=Z;exact PySem.EqNone.eq_none_int<|VU I q<|by simp
  |str j=>obtain⟨J,rfl⟩:=Z;exact PySem.EqNone.eq_none_str<|VU I q<|by simp
  |_=>exact Zp (show false=true from G) Zg
 |bl i=>
  cases L
  cases y with
  |non=>cases Z;exact PySem.EqNone.eq_bool_none<|VU I q<|by simp
  |bl j=>cases Z;exact eq_bool<|VU I q Lg
  |str j=>obtain⟨J,rfl⟩:=Z;exact PySem.EqMixed.eq_bool_str<|VU I q<|by simp
  |_=>exact Zp (show false=true from G) Zg
 |int i=>
  obtain⟨t,rfl⟩:=L
  cases y with
  |non=>cases Z;exact PySem.EqNone.eq_int_none<|VU I q<|by simp
  |int j=>obtain⟨J,rfl⟩:=Z;exact eq_int<|VU I q Eg
  |str j=>obtain⟨J,rfl⟩:=Z;exact PySem.EqMixed.eq_int_str<|VU I q<|by simp
  |_=>exact Zp (show false=true from G) Zg
 |str i=>
  obtain⟨t,rfl⟩:=L
  cases y with
  |non=>cases Z;exact PySem.EqNone.eq_str_none<|VU I q<|by simp
  |bl j=>cases Z;exact PySem.EqMixed.eq_str_bool<|VU I q<|by simp
  |int j=>obtain⟨J,rfl⟩:=Z;exact PySem.EqMixed.eq_str_int<|VU I q<|by simp
  |str j=>obtain⟨J,rfl⟩:=Z;exact eq_str<|VU I q Ef
  |_=>exact Zp (show false=true from G) Zg
 |byt i=>
  obtain⟨t,rfl⟩:=L
  cases y with
  |byt j=>obtain⟨J,rfl⟩:=Z;exact W.eq_bytes<|VU I q Eh
  |_=>exact Zp (show false=true from G) Zg
 |_=>cases y <;> exact Zp (show false=true from G) Zg
def GQ:OpR X (compareOp .NotEq) rNe:=by
 intro M s U H x y v u Q I L Z h;obtain⟨G,q⟩:=h
 cases x with
 |non=>
  cases L
  cases y with
  |non=>cases Z;exact PySem.EqNone.ne_none_none<|VU I q<|by simp
  |bl j=>cases Z;exact PySem.EqNone.ne_none_bool<|VU I q<|by simp
  |int j=>obtain⟨J,rfl⟩:=Z;exact PySem.EqNone.ne_none_int<|VU I q<|by simp
  |str j=>obtain⟨J,rfl⟩:=Z;exact PySem.EqNone.ne_none_str<|VU I q<|by simp
  |_=>exact Zp (show false=true from G) Zg
 |bl i=>
  cases L
  cases y with
  |non=>cases Z;exact PySem.EqNone.ne_bool_none<|VU I q<|by simp
  |bl j=>cases Z;exact ne_bool<|VU I q<|congrArg not Lg
  |str j=>obtain⟨J,rfl⟩:=Z;exact PySem.EqMixed.ne_bool_str<|VU I q<|by simp
  |_=>exact Zp (show false=true from G) Zg
 |int i=>
  obtain⟨t,rfl⟩:=L
  cases y with
  |non=>cases Z;exact PySem.EqNone.ne_int_none<|VU I q<|by simp
  |int j=>obtain⟨J,rfl⟩:=Z;exact ne_int<|VU I q<|congrArg not Eg
  |str j=>obtain⟨J,rfl⟩:=Z;exact PySem.EqMixed.ne_int_str<|VU I q<|by simp
  |_=>exact Zp (show false=true from G) Zg
 |str i=>
  obtain⟨t,rfl⟩:=L
  cases y with
  |non=>cases Z;exact PySem.EqNone.ne_str_none<|VU I q<|by simp
  |bl j=>cases Z;exact PySem.EqMixed.ne_str_bool<|VU I q<|by simp
  |int j=>obtain⟨J,rfl⟩:=Z;exact PySem.EqMixed.ne_str_int<|VU I q<|by simp
  |str j=>obtain⟨J,rfl⟩:=Z;exact ne_str<|VU I q<|congrArg not Ef
  |_=>exact Zp (show false=true from G) Zg
 |byt i=>
  obtain⟨t,rfl⟩:=L
  cases y with
  |byt j=>obtain⟨J,rfl⟩:=Z;exact W.ne_bytes<|VU I q<|congrArg not Eh
  |_=>exact Zp (show false=true from G) Zg
 |_=>cases y <;> exact Zp (show false=true from G) Zg
def Th:OpR X (compareOp .Lt) (rI0 λi j=>.bl<|decide<|i<j):=Ol λ_ _ _ _ _ _ _ q=>lt_int q
def Ti:OpR X (compareOp .LtE) (rI0 λi j=>.bl<|decide<|i<=j):=Ol λ_ _ _ _ _ _ _ q=>le_int q
def UX:OpR X (compareOp .Gt) (rI0 λi j=>.bl<|decide<|j<i):=Ol λ_ _ _ _ _ _ _ q=>gt_int q
def Py:OpR X (compareOp .GtE) (rI0 λi j=>.bl<|decide<|j<=i):=Ol λ_ _ _ _ _ _ _ q=>ge_int q
def FG:OpR X (compareOp .In) (λx y H Q=>∃i j,x=.str i/\y=.str j/\Q (.bl<|!(Builtin.Str.occurrences j i 0 j.length 1).isEmpty) H):=by
 intro Z s U H x y v u Q I G J h;obtain⟨i,j,rfl,rfl,q⟩:=h;obtain⟨t,rfl⟩:=G;obtain⟨L,rfl⟩:=J;exact in_str<|VU I q rfl
def Tj:OpR X (compareOp .Is) (λx y H Q=>y=.non/\Q (.bl<|decide<|x=.non) H):=by
 intro J s U H x y v u Q I Z G h;obtain⟨rfl,q⟩:=h;cases G;refine is_none_gen<|VU I q ?_;cases x <;> first
  |(cases Z;rfl)
  |(obtain⟨t,rfl⟩:=Z;rfl)
def Oi:OpR X (compareOp .IsNot) (λx y H Q=>y=.non/\Q (.bl<|!decide (x=.non)) H):=by
 intro J s U H x y v u Q I Z G h;obtain⟨rfl,q⟩:=h;cases G;refine isnot_none_gen<|VU I q ?_;cases x <;> first
  |(cases Z;rfl)
  |(obtain⟨t,rfl⟩:=Z;rfl)
def OpR.or(h:OpR X f r)(L:OpR X f r'):OpR X f (λx y H Q=>r x y H Q\/r' x y H Q):=by
 intro Z s U H x y v u Q I G J q;rcases q with q|q
 .exact h Z s U H x y v u Q I G J q
 .exact L Z s U H x y v u Q I G J q
def Yu(b:Expr)(h:op≠.In:=by decide)(Z:op≠.NotIn:=by decide):behindInMarks op b=false:=by
 have G:(op==CmpOp.In)=false:=by cases op <;> first|rfl|exact Zp Y h
 have J:(op==CmpOp.NotIn)=false:=by cases op <;> first|rfl|exact Zp Y Z
 cases b <;> simp[behindInMarks,G,J]
def UC(M:OpR X (compareOp op) r)(R:PE X a ta)(O:PE X b tb)(N:behindInMarks op b=false):PE X (.Compare a [op] [b] pos) (tOp r ta tb):=by
 intro Z s U H Q I h;exact wpAny_Compare1 (S0 R O I h λv u J x y B T L G q=>M Z J U B x y v u Q T L G q) N
def D8(t:TE):TT:=λU H Q=>t U H λx Z=>∃k,x=.bl k/\Q k Z
def Yn(B:OpR X (compareOp op) r)(F:PE X a ta)(E:PE X b tb)(D:behindInMarks op b=false):PT X (.Compare a [op] [b] pos) (D8<|tOp r ta tb):=by
 intro Z s U H Q I h
 refine wpAny_isTrue_Compare1 (thn (F Z s U H _ I h) λv G ⟨x,q,C,N,T⟩=>thn (E Z G U q _ C T) λu J ⟨y,j,S,M,R⟩=>
  thn (B Z J U j x y v u _ S N M R) λc t ⟨z,P,A,L,k,e,O⟩=>?_) D
 subst e;cases L;exact zZ ⟨P,A,O⟩
def IQ(r r':R2)(ta tb tc:TE):TE:=λU H Q=>ta U H λx M=>tb U M λy L=>r x y L λz Z=>∃k,z=.bl k/\
 (if k=true then tc U Z λJ G=>r' y J G Q else Q (.bl false) Z)
def KO(q:OpR X (compareOp op) r)(J:OpR X (compareOp op') r')(p:PE X a ta)(g:PE X b tb)(m:PE X c tc)(t:lastMarks [op,op'] [b,c]=false:=by with_unfolding_all rfl):PE X (.Compare a [op,op'] [b,c] pos) (IQ r r' ta tb tc):=by
 intro Z s U H Q I h
 refine Compare_chain (thn (p Z s U H _ I h) λv E ⟨x,n,l,S,j⟩=>chain_link (thn (g Z E U n _ l j) λu D ⟨y,i,w,G,P⟩=>
  thn (q Z D U i x y v u _ w S G P) λd B ⟨z,N,M,A,k,e,L⟩=>?_)) t
 subst e;cases A;refine zZ ?_
 cases k with
 |false=>exact ite_ff ⟨.bl false,N,M,Y,L⟩
 |true=>exact ite_tt<|chain_last<|thn (m Z B U N _ M L) λR T ⟨O,o,f,F,C⟩=>J Z T U o y O u R Q f G F C
def Tc(g:OpR X (compareOp op) r)(J:OpR X (compareOp op') r')(l:PE X a ta)(w:PE X b tb)(f:PE X c tc)(p:lastMarks [op,op'] [b,c]=false:=by with_unfolding_all rfl):PT X (.Compare a [op,op'] [b,c] pos) (D8<|IQ r r' ta tb tc):=by
 intro Z s U H Q I h
 refine isTrue_chain (thn (l Z s U H _ I h) λv E ⟨x,H1,I1,C,t⟩=>test_link (thn (w Z E U H1 _ I1 t) λu D ⟨y,H2,I2,G,q⟩=>
  thn (g Z D U H2 x y v u _ I2 C G q) λd B ⟨z,N,M,S,k,e,L⟩=>?_)) p
 subst e;cases S;refine zZ ?_
 cases k with
 |false=>
  obtain⟨k',i,m⟩:=L;cases i;exact ite_ff ⟨N,M,m⟩
 |true=>
  refine ite_tt<|test_last<|thn (f Z B U N _ M L) λR T ⟨O,H4,I4,A,j⟩=>thn (J Z T U H4 y O u R _ I4 G A j) λd' s5 ⟨z2,H5,n,F,k2,o,P⟩=>?_;subst o;cases F;exact zZ ⟨H5,n,P⟩
def Ww:(sizeLine:Nat)<2 ^ 63:=by rw[vv];decide
def UQ:OpR X (binaryOp .Add) (λx y H Q=>∃i j,x=.str i/\y=.str j/\i.length+j.length<=sizeLine/\Q (.str<|i++ j) H):=by
 intro Z s U H x y v u Q I L G h;obtain⟨i,j,rfl,rfl,M,q⟩:=h;obtain⟨t,rfl⟩:=L;obtain⟨J,rfl⟩:=G;exact add_str (λJ N=>⟨.str<|i++ j,H,I.tok _,⟨_,rfl⟩,q⟩) M
def vals1(r:Vals [x] Z):∃u,Z=[u]/\RelV x u:=by
 cases r with
 |cons G J=>cases J;exact⟨_,Y,G⟩
def vals2(r:Vals [x,y] J):∃u Z,J=[u,Z]/\RelV x u/\RelV y Z:=by
 cases r with
 |cons N M=>
  cases M with
  |cons L G=>cases G;exact⟨_,_,Y,N,L⟩
def Xq(G:X.calm=true):Jr X (.builtin "max") (λZ H Q=>∃i j,Z=[.int i,.int j]/\Q (.int<|if j > i then j else i) H):=by
 intro J s U H Z M Q I r h;obtain⟨i,j,rfl,q⟩:=h;obtain⟨u,L,rfl,⟨t,rfl⟩,⟨O,rfl⟩⟩:=vals2 r;refine max_two_ints (I.ok.hd G) λR N k=>⟨_,H,I.kept k,?_,q⟩
 by_cases hj:j > i
 .rw [Zn hj,Zn hj];exact⟨_,Y⟩
 .rw [Zo hj,Zo hj];exact⟨_,Y⟩
def Fh(G:X.calm=true):Jr X (.builtin "min") (λZ H Q=>∃i j,Z=[.int i,.int j]/\Q (.int<|if j<i then j else i) H):=by
 intro J s U H Z M Q I r h;obtain⟨i,j,rfl,q⟩:=h;obtain⟨u,L,rfl,⟨t,rfl⟩,⟨O,rfl⟩⟩:=vals2 r;refine min_two_ints (I.ok.hd G) λR N k=>⟨_,H,I.kept k,?_,q⟩
 by_cases hj:j<i
 .rw [Zn hj,Zn hj];exact⟨_,Y⟩
 .rw [Zo hj,Zo hj];exact⟨_,Y⟩
end
structure Dz(h:Heap)(x dx C:Addr)(mA:Str->Option Value):Prop where
 obj:h.get? x=some (W.instObj C dx)
 ns:h.Ns1 dx mA
 ne:dx≠x
set_option tactic.hygienic true in
def Rb{h:Heap}(n:h.Ns1 T mA):∃J,h.get? T=some J/\∀name,W.lookIn name J=some (mA name):=by
 obtain⟨o,G,D,M,R,O,_,N⟩:=n;refine⟨o,M,λname=>?_⟩;have e:=N name;unfold nsFind findBy at e;rw[<-Array.find?_toList]at e;unfold W.lookIn;rw[R];dsimp only
 split
 .rename_i y q
  rw[q]at e;exact congrArg some e
 .rename_i q
  rw[q]at e
  have a:G.toList.any (·.refKey)=false:=by
   rw[List.any_eq_false];intro y L;obtain⟨z,t,Z⟩:=O y<|Array.mem_toList_iff.mp L;simp[DictEntry.refKey,Z]
  have B:¬G.toList.any (·.refKey)=true:=by rw[a];exact Zg
  rw[Zo B];exact congrArg some e
def Dz.look(I:Dz h x L C mA):∃Z,W.InstAt h x (W.instObj C L) C (some Z)/\∀name,W.lookIn name Z=some (mA name):=
 let⟨Z,J,G⟩:=Rb I.ns
 ⟨Z,⟨I.obj,rfl,rfl,J⟩,G⟩
section
variable{K:W.Frag}
def PQ(X:K.In s.heap)(I:Dz s.heap x T C mA)(N:W.plainGet K C name=true)(M:W.hasDictIn K C=true)(O:W.findIn K (.ref C) name=some none)(G:mA name=some v)(Z:W.handedIn v=true)(h:Q v {s with toks:=s.toks+1}):
  wpAny (model prog w) A (getAttr (.ref x) name expr) Q E s:=by
 obtain⟨R,J,L⟩:=I.look;exact W.get_value X J (W.plainGet_of N).1 (W.findObj_own M O Y (by rw[L,G])) Z h
def LO(X:K.In s.heap)(I:Dz s.heap x R C mA)(Z:W.plainGet K C name=true)(O:W.findIn K (.ref C) name=some (some<|.ref f))(M:W.isFn K (.ref f)=true)(L:mA name=none)(h:Q (.ref f,[.ref x]) s):
  wpAny (model prog w) A (getMethod (.ref x) name pl) Q E s:=by
 obtain⟨G,J,N⟩:=I.look;exact W.method_fn X J (W.plainGet_of Z).1 (W.plainGet_of Z).2 O (beq_iff_eq.mp M) (by show(W.lookIn name G).map (·.isSome)=some false;rw[N,L];rfl) h
def OG(X:K.In s.heap)(I:Dz s.heap x M C mA)(U:W.findIn K (.ref C) "__setattr__"=some (some<|.builtin "object.__setattr__"))(P:W.plainOver K C=true)(F:W.takerIn K C name=some none)(j:W.hasDictIn K C=true)(D:PySem.Within mA T)(S:T.length<=sizeLine)(h:∀L,Dz L x M C (λy=>if y=name then some v else mA y)->Heap.SameBut M s.heap L->Q () {s with heap:=L,toks:=s.toks+2}):
  wpAny (model prog w) A (setAttr (.ref x) name v) Q E s:=by
 obtain⟨m,J,k⟩:=I.look;refine W.set_plain X J U<|W.osa_open (s:={s with toks:=s.toks+1}) (r:=none) X J P F λb=>?_;obtain⟨p,z,O⟩:=W.any_some j;have B:s.heap.get? x=some ⟨.ref C,some M,.plain,#[]⟩:=I.obj;refine Zj<|Zk<|Zj<|Zj<|wpAny_loadPart B<|Zj<|W.Looks.here (s:={s with toks:=s.toks+1}) (W.looks_clsIn X z) ?_;rw[O];refine Zk (a:=some M)<|Zj<|Zk<|Zj ?_;refine wpAny_nsSet1 (s:={s with toks:=s.toks+1}) I.ns λL G Z=>?_;obtain⟨g,q,t,N,hdD,R⟩:=G.count<|PySem.Within.cons name v D;refine Zj<|wpAny_lookBehind N (by rw[hdD];exact pastItsLine_dict<|ZZ R (by rw[Zd];omega)) ?_;exact Zk<|h _ ⟨(Z.2 _<|Zq I.ne).trans I.obj,G,I.ne⟩ Z
def Nn(X:K.In s.heap)(J:W.makesIn K C=true)(G:W.findIn K (.ref C) "__init__"=some (some<|.ref f))(L:W.typeIn K (.ref f)=some (.type "function"))(h:codeAny (model prog w) (A.under<|.builtin "type.__call__" ⟨.ref C::Z,kw⟩) (.call (.ref f) ⟨.ref (s.heap.objs.size+1)::Z,kw⟩) (W.InitBack (s.heap.objs.size+1) R)
   {s with heap:=(s.heap.push W.emptyDict).push (W.instObj C s.heap.objs.size)}):
  codeAny (model prog w) A (.call (.ref C) ⟨Z,kw⟩) R s:=by
 obtain⟨N,g,d,t,M⟩:=s;exact W.make_core (W.makes_of X J) (W.looks_findIn X G) (λself=>W.bind_fn X self L) (.inl Y) h
end
def VG(f:Str)(v:V):List (Str×V)->List (Str×V)
 |[]=>[(f,v)]
 |(g,x)::r=>if g=f then(g,v)::r else(g,x)::VG f v r
theorem GU(f g:Str)(v:V):∀Z:List (Str×V),(VG f v Z).lookup g=if g=f then some v else Z.lookup g
 |[]=>by
  show List.lookup g [(f,v)]=_
  by_cases h:g=f
  .have hb:(g==f)=true:=beq_iff_eq.mpr h
   simp only[List.lookup,hb,Zn h]
  .have hb:(g==f)=false:=beq_eq_false_iff_ne.mpr h
   simp only[List.lookup,hb,Zo h]
 |(k,x)::r=>by
  have ih:=GU f g v r;rw[show VG f v ((k,x)::r)=(if k=f then(k,v)::r else(k,x)::VG f v r)from rfl]
  by_cases hk:k=f
  .rw [Zn hk]
   by_cases h:g=k
   .have hb:(g==k)=true:=beq_iff_eq.mpr h
    simp only[List.lookup,hb,Zn (h.trans hk)]
   .have hb:(g==k)=false:=beq_eq_false_iff_ne.mpr h
    simp only[List.lookup,hb,Zo (λe:g=f=>h<|e.trans hk.symm)]
  .rw [Zo hk]
   by_cases h:g=k
   .have hb:(g==k)=true:=beq_iff_eq.mpr h
    simp only[List.lookup,hb,Zo (λe:g=f=>hk<|h.symm.trans e)]
   .have hb:(g==k)=false:=beq_eq_false_iff_ne.mpr h
    simp only[List.lookup,hb];exact ih
theorem W3(f:Str)(v:V):∀Z:List (Str×V),f∈(VG f v Z).map (·.1)/\∀g,g∈Z.map (·.1)->g∈(VG f v Z).map (·.1)
 |[]=>⟨by simp[VG],λg h=>by simp at h⟩
 |(k,x)::r=>by
  obtain⟨G,J⟩:=W3 f v r;rw[show VG f v ((k,x)::r)=(if k=f then(k,v)::r else(k,x)::VG f v r)from rfl]
  by_cases hk:k=f
  .rw [Zn hk]
   subst hk;exact⟨by simp,λg h=>by simpa using h⟩
  .rw [Zo hk]
   refine⟨?_,λg h=>?_⟩
   .rw [ZT]
    exact ZK _ G
   .rw [ZT]at h |-
    rcases Zb.mp h with e|e
    .exact Zb.mpr (.inl e)
    .exact ZK _ (J g e)
theorem GW(f:Str)(v:V):∀Z:List (Str×V),(VG f v Z).length<=Z.length+1
 |[]=>by simp[VG]
 |(k,x)::r=>by
  have ih:=GW f v r;rw[show VG f v ((k,x)::r)=(if k=f then(k,v)::r else(k,x)::VG f v r)from rfl]
  by_cases hk:k=f
  .rw [Zn hk,Zd,Zd];omega
  .rw [Zo hk,Zd,Zd];omega
def US.some_of(r:US (some v) o):∃u,o=some u/\RelV v u:=by
 cases o with
 |none=>exact(show False from r).elim
 |some u=>exact⟨u,Y,r⟩
def US.none_of(r:US none o):o=none:=by
 cases o with
 |none=>rfl
 |some u=>exact(show False from r).elim
def Rf(r:RelV v u):W.handedIn u=true:=by
 cases v with
 |non=>cases(show u=Value.none from r);rfl
 |bl b=>cases(show u=Value.bool b from r);rfl
 |int i=>obtain⟨t,e⟩:=(show ∃t,u=Value.int i t from r);cases e;rfl
 |str x=>obtain⟨t,e⟩:=(show ∃t,u=Value.str x t from r);cases e;rfl
 |byt b=>obtain⟨t,e⟩:=(show ∃t,u=Value.bytes b t from r);cases e;rfl
 |flt b=>obtain⟨t,e⟩:=(show ∃t,u=Value.float b t from r);cases e;rfl
 |ref a=>cases(show u=Value.ref a from r);rfl
 |ty n=>cases(show u=Value.type n from r);rfl
section
def Gv(J:HOk P w H h)(e:H a=some (.ins C G fs)):∃Z,Dz h a G C Z/\(∀f,US (fs.lookup f)<|Z f)/\PySem.Within Z (fs.map (·.1))/\fs.length<=1000/\H G=some (.own a):=by
 obtain⟨d,z,M,L,Z,n,r,q⟩:=(show VN P w H h a (.ins C G fs)from J a _ e);exact⟨Z,⟨L,n,M⟩,r,q,z,d⟩
end
structure Cls(K:W.Frag)(C:Addr):Prop where
 pg:W.plainGet K C Str.empty=true
 hd:W.hasDictIn K C=true
 po:W.plainOver K C=true
 sa:W.findIn K (.ref C) "__setattr__"=some (some (.builtin "object.__setattr__"))
def Cls.get{K:W.Frag}(c:Cls K C)(f:Str):W.plainGet K C f=true:=c.pg
def V6(K:W.Frag)(C:Addr)(f:Str):Prop:=W.findIn K (.ref C) f=some none
def V6.taker{K:W.Frag}(n:V6 K C f):W.takerIn K C f=some none:=by
 unfold W.takerIn;rw[show W.findIn K (.ref C) f=some none from n]
 rfl
structure V1(K:W.Frag)(C:Addr)(m:Str)(f:Addr):Prop where
 at_:W.findIn K (.ref C) m=some (some (.ref f))
 fn:W.isFn K (.ref f)=true
 kp:W.keepIn K (.ref f)=true
section
def Dm(I:Inv X Z U H s)(e:H a=some (.ins C N fs))(c:Cls X.K C)(n:V6 X.K C f)(l:fs.lookup f=some v)(h:∀u J,Inv X Z U H J->RelV v u->Q u J):wpAny (model X.prog X.w) A (getAttr (.ref a) f b) Q E s:=by
 obtain⟨L,O,r,_,_,_⟩:=Gv I.hok e;obtain⟨u,M,G⟩:=US.some_of (v:=v) (o:=L f) (by rw[<-l];exact r f);exact PQ I.kIn O (c.get f) c.hd n M (Rf G)<|h u _ (I.tok _) G
def Tz(I:Inv X Z U H s)(e:H a=some (.ins C L fs))(c:Cls X.K C)(k:V1 X.K C m g)(l:fs.lookup m=none)(h:Q (.ref g,[.ref a]) s):wpAny (model X.prog X.w) A (getMethod (.ref a) m pl) Q E s:=by
 obtain⟨J,O,r,_,_,_⟩:=Gv I.hok e;have G:J m=none:=US.none_of (by rw[<-l];exact r m);exact LO I.kIn O (c.get m) k.at_ k.fn G h
def Bf(I:Inv X Z U H s)(e:H a=some (.ins C J fs))(c:Cls X.K C)(n:V6 X.K C f)(m:fs.length<1000)(B:RelV y u)(h:∀M,Inv X Z U (upd H a<|.ins C J<|VG f y fs) M->Q () M):wpAny (model X.prog X.w) A (setAttr (.ref a) f u) Q E s:=by
 obtain⟨N,O,r,L,_,R⟩:=Gv I.hok e;have D:(fs.map (·.1)).length<=sizeLine:=by rw[ZA,vv];omega
 refine OG I.kIn O c.sa c.po n.taker c.hd L D λj G T=>h _ ?_;have S:∃o,j.get? J=some o:=let⟨o,_,_,t,_⟩:=G.ns;⟨o,t⟩
 refine I.write (x:=a) (e:=J) (by rw[e];exact True.intro) (.inr R) (λb q P z=>(T.2 b P).trans z) S ?_;refine⟨by rw[Yc O.ne];exact R,?_,O.ne,G.obj,_,G.ns,λg=>?_,λg F=>?_⟩
 .have:=GW f y fs;omega
 .show US ((VG f y fs).lookup g) (if g=f then some u else N g)
  rw[GU]
  by_cases q:g=f
  .rw [Zn q,Zn q];exact B
  .rw [Zo q,Zo q];exact r g
 .by_cases q:g=f
  .rw [q];exact(W3 f y fs).1
  .refine (W3 f y fs).2 g (L g λz=>F ?_)
   show(if g=f then some u else N g)=none;rw[Zo q];exact z
def Inv.made(I:Inv X Z U H s):Inv X Z U (upd (upd H s.heap.objs.size<|.own<|s.heap.objs.size+1) (s.heap.objs.size+1)<|.ins C s.heap.objs.size [])
  {s with heap:=(s.heap.push W.emptyDict).push (W.instObj C s.heap.objs.size)}:=by
 have G:(s.heap.push W.emptyDict).get? s.heap.objs.size=some W.emptyDict:=ZW s.heap rfl
 have O:((s.heap.push W.emptyDict).push<|W.instObj C s.heap.objs.size).get? (s.heap.objs.size+1)=some (W.instObj C s.heap.objs.size):=by
  have:=ZW (s.heap.push W.emptyDict) (o:=W.instObj C s.heap.objs.size) rfl
  rwa [yj]at this
 have N:(s.heap.push W.emptyDict).Ns s.heap.objs.size (λ_=>none):=⟨W.emptyDict,#[],_,G,rfl,(λe M=>Zp M<|by simp),λ_=>rfl⟩;have R:=I.laid (a:=s.heap.objs.size) (o:=.own<|s.heap.objs.size+1) (h':=s.heap.push W.emptyDict) (t':=s.toks) (λb u q=>ZD _ q) (ZF _) ⟨_,G⟩;refine R.laid (a:=s.heap.objs.size+1) (o:=.ins C s.heap.objs.size []) (t':=s.toks) (λb u q=>ZD _ q) (yU<|yj _ _) ?_;have J:s.heap.objs.size≠s.heap.objs.size+1:=Zc<|yV _;refine⟨by rw[Yc J,YZ],Za _,J,O,λ_=>none,(Heap.Ns1.of_empty N).at λo q=>ZD _ q,λ_=>True.intro,λy L=>Zp Y L⟩
def En(J:attributeBase e f env (eval e env)=eval e env)(h:wpAny (model prog w) A (eval e env) (λo Z=>wpAny (model prog w) A (getAttr o f true) Q E Z) E s):wpAny (model prog w) A (eval (.Attribute e f pos) env) Q E s:=
 Attribute_any_ h (by rw[arm_eval_Attribute,J])
end
def AH(K:W.Frag)(ta:TE)(f:Str):TE:=λU H Q=>ta U H λx J=>Jb x λa=>∃C G Z v,J a=some (.ins C G Z)/\Cls K C/\V6 K C f/\Z.lookup f=some v/\Q v J
def C3(K:W.Frag)(ta tv:TE)(f:Str):TS:=λD U H=>tv U H λy L=>ta U L λx G=>∃a C J Z,x=.ref a/\G a=some (.ins C J Z)/\Cls K C/\V6 K C f/\Z.length<1000/\
 D.nx U (upd G a<|.ins C J<|VG f y Z)
section
def VE(L:PE X e ta)(M:attributeBase e f X.env (eval e X.env)=eval e X.env):PE X (.Attribute e f pos) (AH X.K ta f):=by
 intro Z s U H Q I h;refine En M<|thn (L Z s U H _ I h) λu F ⟨x,B,T,J,q⟩=>?_;replace q:=Jb.old q;obtain⟨a,N,C,S,A,v,O,c,n,l,q⟩:=q;subst N;obtain rfl:u=Value.ref a:=J;exact Dm T O c n l λD E R G=>⟨v,B,R,G,q⟩
def Jj(T:PE X o ta)(O:PE X value tv)(R:swapsWith value (some<|.Attribute o f pos') pos.line X.env=pure false):PS X (.Assign [.Attribute o f pos'] value pos) (C3 X.K ta tv f):=by
 intro Z s U H D I h;refine plainObj_wpAny_Assign_Attribute (thn (O Z s U H _ I h) λu J ⟨y,P,S,G,q⟩=>thn (T Z J U P _ S q) λN j ⟨x,m,A,L,a,C,t,z,B,E,c,n,l,M⟩=>?_) R;subst B;obtain rfl:N=Value.ref a:=L;exact Bf A E c n l G λQ F=>⟨U,_,F,M⟩
end
section
variable{H:Hp}
inductive Xc(K:W.Frag)(H:Hp):V->Value->Prop where
 |non:Xc K H .non (.type "NoneType")
 |bl (x:Bool):Xc K H (.bl x) (.type "bool")
 |int (i:Int):Xc K H (.int i) (.type "int")
 |str (x:Str):Xc K H (.str x) (.type "str")
 |flt (x:UInt64):Xc K H (.flt x) (.type "float")
 |lst {a:Addr}{xs:List V}(e:H a=some (.lst xs)):Xc K H (.ref a) (.type "list")
 |frz {a:Addr}{o:Obj}{xs:List V}(e:H a=some (.frz o (.lst xs))):Xc K H (.ref a) (.type "list")
 |tup {a:Addr}{xs:List V}(e:H a=some (.tup xs)):Xc K H (.ref a) (.type "tuple")
 |dK {a:Addr}{kvs:List (Key×V)}(e:H a=some (.dK kvs)):Xc K H (.ref a) (.type "dict")
 |dT {a:Addr}{kvs:List (List Key×V)}(e:H a=some (.dT kvs)):Xc K H (.ref a) (.type "dict")
 |ins {a C dx:Addr}{fs:List (Str×V)}(e:H a=some (.ins C dx fs)) (cl:Cls K C) (ha:W.findIn K (.ref C) "__class__"=some (some (.builtin "object.__class__")))
   (hn:W.specialIn K (.builtin "object.__class__") "__get__"=some (some (.builtin "getset_descriptor.__get__"))) (htk:W.takesIn K (.builtin "object.__class__")=some true)
   (hm:W.mroIn K C (.type "object")=some true):Xc K H (.ref a) (.ref C)
def FU(I:Inv X B U H s)(Z:RelV x u)(ty:Xc X.K H x t)(e:W.kitOne X.K t c=some b)(h:∀F,Q (.bool b) {s with toks:=F}):
  wpAny (model X.prog X.w) A (call (.builtin "isinstance") [u,c]) Q E s:=by
 cases ty with
 |non=>cases(show u=Value.none from Z);exact yK W.kitx_none I.kIn True.intro e (λz=>nomatch z) h
 |bl y=>cases(show u=Value.bool y from Z);exact yK W.kitx_bool I.kIn True.intro e (λz=>nomatch z) h
 |int i=>obtain⟨t,q⟩:=(show ∃t,u=Value.int i t from Z);cases q;exact yK W.kitx_int I.kIn True.intro e (λz=>nomatch z) h
 |str y=>obtain⟨t,q⟩:=(show ∃t,u=Value.str y t from Z);cases q;exact yK W.kitx_str I.kIn True.intro e (λz=>nomatch z) h
 |flt y=>obtain⟨t,q⟩:=(show ∃t,u=Value.float y t from Z);cases q;exact yK W.kitx_float I.kIn True.intro e (λz=>nomatch z) h
 | @lst a N G=>
  cases(show u=Value.ref a from Z);obtain⟨_,_,n,_,L⟩:=(show VN X.prog X.w H s.heap a (.lst N)from I.hok a _ G);exact yK W.kitx_list I.kIn ⟨_,L,Y⟩ e (λz=>nomatch z) h
 | @frz a S N G=>
  cases(show u=Value.ref a from Z);obtain⟨_,_,_,n,_,L⟩:=(show VN X.prog X.w H s.heap a (.frz S<|.lst N)from I.hok a _ G);exact yK W.kitx_list I.kIn ⟨_,L,Y⟩ e (λz=>nomatch z) h
 | @tup a N G=>
  cases(show u=Value.ref a from Z);obtain⟨_,_,_,p⟩:=(show VN X.prog X.w H s.heap a (.tup N)from I.hok a _ G);obtain⟨o,L,_,R,_⟩:=p;exact yK W.kitx_tuple I.kIn ⟨o,L,R⟩ e (λz=>nomatch z) h
 | @dK a M G=>
  cases(show u=Value.ref a from Z);obtain⟨_,_,d,_,p⟩:=(show VN X.prog X.w H s.heap a (.dK M)from I.hok a _ G);obtain⟨o,g,k,L,R,_⟩:=p;exact yK W.kitx_dict I.kIn ⟨o,L,R.1⟩ e (λz=>nomatch z) h
 | @dT a M G=>
  cases(show u=Value.ref a from Z);obtain⟨_,_,N,_,o,g,k,L,R,_⟩:=(show VN X.prog X.w H s.heap a (.dT M)from I.hok a _ G);exact yK W.kitx_dict I.kIn ⟨o,L,R.1⟩ e (λz=>nomatch z) h
 | @ins a C r w G D m P T j=>
  cases(show u=Value.ref a from Z);obtain⟨v,O,_⟩:=Gv I.hok G;obtain⟨f,J,_⟩:=O.look;exact yK (W.kitx_own (D.get _) D.hd m P T j) I.kIn J e (λz=>nomatch z) h
end
structure VW(k:Nat)(A:Around):Prop where
 hd:A.handled=none
 dp:A.depth+3*k+5<recursionLimit
 un:A.units+16*k+200<cLine
def VW.mono(r:VW k A)(h:j<=k):VW j A:=⟨r.hd,by have:=r.dp;omega,by have:=r.un;omega⟩
def VW.deeper(r:VW (k+1) A)(Z:Env):VW k (A.deeper Z):=
 ⟨r.hd,by have:=r.dp;show A.depth+1+3*k+5<_;omega,by have:=r.un;show A.units+3+16*k+200<_;omega⟩
def VW.in1(r:VW (k+1) A):VW k A.in1:=
 ⟨r.hd,by have:=r.dp;show A.depth+3*k+5<_;omega,by have:=r.un;show A.units+1+16*k+200<_;omega⟩
def DY{A:Around}:(A.under<|.builtin "type.__call__" ⟨.ref C::Z,kw⟩).depth=A.depth+1:=by
 first|rfl|simp[Around.under,Code.weight,Code.isCreation,Code.isGuard,Code.isCaller,Code.frames,Code.isFrame,guardIds]
def DX{A:Around}:(A.under<|.builtin "type.__call__" ⟨.ref C::Z,kw⟩).units=A.units+1:=by
 first|rfl|simp[Around.under,Code.cUnits,Code.frames,Code.isFrame]
def VW.make(r:VW (k+1) A)(C:Addr)(Z:kq)(J:List (Str×Value)):VW k (A.under<|.builtin "type.__call__" ⟨.ref C::Z,J⟩):=
 ⟨r.hd,by have:=r.dp;rw[DY];omega,by have:=r.un;rw[DX];omega⟩
def VW.depth(r:VW k A):A.depth<recursionLimit:=by have:=r.dp;omega
def VW.units(r:VW k A):A.units+64<cLine:=by have:=r.un;omega
def VW.units0(r:VW k A):A.units<cLine:=by have:=r.un;omega
def Xu:TA:=λ_ H Q=>Q [] H
def Vj(ta:TE)(tr:TA):TA:=λU H Q=>ta U H λx G=>tr U G λZ J=>Q (x::Z) J
section
variable{t:TA}
def VR:PA X [] Xu:=λ_ _ _ _ H Q I h=>Calls.spliced_nil ⟨[],H,I,.nil,h⟩
def VA(D:PE X e te)(B:PA X J t)(T:starEach (e::J) X.env=(false,eval e X.env)::starEach J X.env:=by rfl):PA X (e::J) (Vj te t):=by
 intro pos Z s U H Q I h;rw[T];show wpAny _ _ (spliced ((false,eval e X.env)::backTo pos (starEach J X.env))) _ _ s;refine Calls.spliced_cons<|thn (D Z s U H _ I h) λu L ⟨x,S,F,N,R⟩=>?_;exact thn (B pos Z L U S _ F R) λC P ⟨G,A,E,M,O⟩=>⟨x::G,A,E,.cons N M,O⟩
def pa1(J:PE X e0 t0)(Z:starEach [e0] X.env=(false,eval e0 X.env)::starEach [] X.env:=by rfl):PA X [e0] (Vj t0<|Xu):=VA J (VR) Z
def pa2(L:PE X e0 t0)(G:PE X e1 t1)(J:starEach [e0,e1] X.env=(false,eval e0 X.env)::starEach [e1] X.env:=by rfl)(Z:starEach [e1] X.env=(false,eval e1 X.env)::starEach [] X.env:=by rfl):PA X [e0,e1] (Vj t0<|Vj t1<|Xu):=VA L (VA G (VR) Z) J
def pa3(N:PE X e0 t0)(M:PE X e1 t1)(L:PE X e2 t2)(G:starEach [e0,e1,e2] X.env=(false,eval e0 X.env)::starEach [e1,e2] X.env:=by rfl)(J:starEach [e1,e2] X.env=(false,eval e1 X.env)::starEach [e2] X.env:=by rfl)(Z:starEach [e2] X.env=(false,eval e2 X.env)::starEach [] X.env:=by rfl):PA X [e0,e1,e2] (Vj t0<|Vj t1<|Vj t2<|Xu):=VA N (VA M (VA L (VR) Z) J) G
def pa4(R:PE X e0 t0)(O:PE X e1 t1)(N:PE X e2 t2)(M:PE X e3 t3)(L:starEach [e0,e1,e2,e3] X.env=(false,eval e0 X.env)::starEach [e1,e2,e3] X.env:=by rfl)(G:starEach [e1,e2,e3] X.env=(false,eval e1 X.env)::starEach [e2,e3] X.env:=by rfl)(J:starEach [e2,e3] X.env=(false,eval e2 X.env)::starEach [e3] X.env:=by rfl)(Z:starEach [e3] X.env=(false,eval e3 X.env)::starEach [] X.env:=by rfl):PA X [e0,e1,e2,e3] (Vj t0<|Vj t1<|Vj t2<|Vj t3<|Xu):=VA R (VA O (VA N (VA M (VR) Z) J) G) L
def pa5(B:PE X e0 t0)(T:PE X e1 t1)(R:PE X e2 t2)(O:PE X e3 t3)(N:PE X e4 t4)(M:starEach [e0,e1,e2,e3,e4] X.env=(false,eval e0 X.env)::starEach [e1,e2,e3,e4] X.env:=by rfl)(L:starEach [e1,e2,e3,e4] X.env=(false,eval e1 X.env)::starEach [e2,e3,e4] X.env:=by rfl)(G:starEach [e2,e3,e4] X.env=(false,eval e2 X.env)::starEach [e3,e4] X.env:=by rfl)(J:starEach [e3,e4] X.env=(false,eval e3 X.env)::starEach [e4] X.env:=by rfl)(Z:starEach [e4] X.env=(false,eval e4 X.env)::starEach [] X.env:=by rfl):PA X [e0,e1,e2,e3,e4] (Vj t0<|Vj t1<|Vj t2<|Vj t3<|Vj t4<|Xu):=VA B (VA T (VA R (VA O (VA N (VR) Z) J) G) L) M
def pa6(E:PE X e0 t0)(D:PE X e1 t1)(B:PE X e2 t2)(T:PE X e3 t3)(R:PE X e4 t4)(O:PE X e5 t5)(N:starEach [e0,e1,e2,e3,e4,e5] X.env=(false,eval e0 X.env)::starEach [e1,e2,e3,e4,e5] X.env:=by rfl)(M:starEach [e1,e2,e3,e4,e5] X.env=(false,eval e1 X.env)::starEach [e2,e3,e4,e5] X.env:=by rfl)(L:starEach [e2,e3,e4,e5] X.env=(false,eval e2 X.env)::starEach [e3,e4,e5] X.env:=by rfl)(G:starEach [e3,e4,e5] X.env=(false,eval e3 X.env)::starEach [e4,e5] X.env:=by rfl)(J:starEach [e4,e5] X.env=(false,eval e4 X.env)::starEach [e5] X.env:=by rfl)(Z:starEach [e5] X.env=(false,eval e5 X.env)::starEach [] X.env:=by rfl):PA X [e0,e1,e2,e3,e4,e5] (Vj t0<|Vj t1<|Vj t2<|Vj t3<|Vj t4<|Vj t5<|Xu):=VA E (VA D (VA B (VA T (VA R (VA O (VR) Z) J) G) L) M) N
def Cf(t:TA):TE:=λU H Q=>t U H λZ J=>Z.length<=sizeLine/\∀p,J p=none->Q (.ref p) (upd J p<|.tup Z)
def AF(t:TA):TE:=λU H Q=>t U H λZ J=>Z.length<=sizeLine/\∀p,J p=none->Q (.ref p) (upd J p<|.lst Z)
def Yv(h:PA X T t):PE X (.Tuple T x1 pos) (Cf t):=by
 intro Z s U H Q I O;refine wpAny_Tuple_spliced<|thn (h pos Z s U H _ I O) λN J ⟨M,L,G,r,z,q⟩=>⟨by rw[<-r.length];exact z,?_⟩;have R:L J.heap.objs.size=none:=G.hok.fresh<|ZF _;refine⟨.ref J.heap.objs.size,upd L J.heap.objs.size<|.tup M,G.laid (t':=J.toks) (λb u e=>ZD _ e) (ZF _) ?_,rfl,q _ R⟩;exact⟨z,N,r,⟨_,ZW _ Y,Y,Y,_,Y⟩⟩
def Vf(h:PA X T t):PE X (.List T pos) (AF t):=by
 intro Z s U H Q I O;refine wpAny_List_spliced<|thn (h pos Z s U H _ I O) λN J ⟨M,L,G,r,z,q⟩=>⟨by rw[<-r.length];exact z,?_⟩;have R:L J.heap.objs.size=none:=G.hok.fresh<|ZF _;refine⟨.ref J.heap.objs.size,upd L J.heap.objs.size<|.lst M,G.laid (t':=J.toks) (λb u e=>ZD _ e) (ZF _) ?_,rfl,q _ R⟩;exact⟨z,N,0,r,ZW _ Y⟩
end
abbrev Sp:=List V->Hp->VK->XK->Prop
abbrev CXT:=List Env->Hp->Shared->XK->Value->Shared->Prop
structure D1(P:Program)(w:World)(K:W.Frag)(mg:Str->Option Value)(base:Heap)(A:Around)(outer:List Env)(s:Shared)(H:Hp):Prop where
 frames:A.frames=some outer
 mod:Mod K mg base
 bs:∀b o,base.get? b=some o->s.heap.get? b=some o/\H b=none
 bsz:base.objs.size<=s.heap.objs.size
 funs:s.heap.FunFrames base outer
 frf:∀b∈frs outer,H b=none
 hok:HOk P w H s.heap
 bare:AllBare s.gens
def CE(outer:List Env)(P:Program)(w:World)(H:Hp)(s:Shared)(Q:VK)(u:Value)(s':Shared):Prop:=
 ∃v Z,s'.os=s.os/\AllBare s'.gens/\Un (frs outer) [] H Z s.heap s'.heap/\HOk P w Z s'.heap/\RelV v u/\Q v Z
def CR(CX:CXT)(outer:List Env)(P:Program)(w:World)(H:Hp)(s:Shared)(Q:VK)(E:XK)(r:Result)(s':Shared):Prop:=
 match r with
 |.ok (.ret u)=>CE outer P w H s Q u s'
 |.ok _=>False
 |.error e=>CX outer H s E e s'
structure Ym(P:Program)(w:World)(K:W.Frag)(mg:Str->Option Value)(base:Heap)(CX:CXT)(k:Nat)(f:Addr)(fd:FuncData)(ps:List Str)(sp:Sp):Prop where
 len:∀vs H Q E,sp vs H Q E->vs.length=ps.length
 run:∀(A:Around)(outer:List Env)(s:Shared)(H:Hp)(args:Args)(us:List Value)(vs:List V)(Q:VK)(E:XK),VW k A->D1 P w K mg base A outer s H->BindsTo s fd args (ps.zip us)->Vals vs us->sp vs H Q E->
  codeAny (model P w) A (.call (.ref f) args) (CR CX outer P w H s Q E) s
def Ym.mono{K:W.Frag}(F:Ym P w K N base CX j f R M L)(h:j<=k):
  Ym P w K N base CX k f R M L:=⟨F.len,λA Z s H args G J Q E O=>F.run A Z s H args G J Q E<|O.mono h⟩
def D1.make{K:W.Frag}(e:D1 P w K J base A outer s H)(C:Addr)(Z:kq)(G:List (Str×Value)):
  D1 P w K J base (A.under<|.builtin "type.__call__" ⟨.ref C::Z,G⟩) outer s H:=⟨by first|exact e.frames|(simpa[Around.under,Code.envs,Code.isFrame,pushEnvs]using e.frames),e.mod,e.bs,e.bsz,e.funs,e.frf,e.hok,e.bare⟩
section
def Inv.env0(I:Inv X Z U H s):D1 X.prog X.w X.K X.mg X.base X.A X.stack s H:=
 ⟨I.ok.frames,I.ok.mod,I.bs,ZZ I.ok.bsz I.sz,I.stack,I.stkFree,I.hok,I.bare⟩
def Inv.after(I:Inv X Z U H s)(h:CE X.stack X.prog X.w H s Q u L):EP X Z U Q u L:=by
 obtain⟨v,R,N,bare,M,G,r,q⟩:=h;obtain⟨O,g,d,t,J⟩:=L;obtain rfl:J=s.os:=N;exact⟨v,R,I.call (h':=O) (g':=g) (d':=d) (t':=t) (ch:=[]) M G bare (λb z=>Zp z<|by simp),r,q⟩
end
def RT(sp:Sp)(dvs:kK)(E:XK)(t:TA):TE:=λU H Q=>t U H λZ J=>sp (Z++ dvs) J Q E
def IM(C:Addr)(m:Str)(sp:Sp)(dvs:kK)(E:XK)(ta:TE)(t:TA):TE:=λU H Q=>ta U H λx J=>Jb x λa=>∃L Z,J a=some (.ins C L Z)/\Z.lookup m=none/\
 t U J λG M=>sp (x::(G++ dvs)) M Q E
def AD(C:Addr)(sp:Sp)(dvs:kK)(E:XK)(t:TA):TE:=λU H Q=>t U H λG J=>∀x Z,J x=none->J Z=none->Z≠x->
 sp (.ref x::(G++ dvs)) (upd (upd J Z<|.own x) x<|.ins C Z []) (λv L=>v=.non/\Q (.ref x) L) E
def Binds(K:W.Frag)(fd:FuncData)(ps:ky)(ds:kq):Prop:=
 ∀(s:Shared)(Z:kq),K.In s.heap->(Z++ ds).length=ps.length->BindsTo s fd ⟨Z,[]⟩ (ps.zip<|Z++ ds)
def Binds.all{K:W.Frag}(h:∀Z:kq,Z.length=J.length->bindArgs L ⟨Z,[]⟩=pure (J.zip Z)):Binds K L J []:=λs Z _ G=>by
 rw[yz]at G |-;exact .of_eq<|h Z G
def Je(CX:CXT)(X:Cx)(E:XK):Prop:=∀(Z:kh)(U:St)(H:Hp)(s:Shared)(e:Value)(J:Shared),Inv X Z U H s->CX X.stack H s E e J->X.xe e J
section
variable{f C:Addr}
def Ta(F:Ym X.prog X.w X.K X.mg X.base CX k f P M N)(T:VW k X.A)(A:Binds X.K P M G)(D:Vals dvs G)(R:Je CX X E)(I:Inv X Z U H s)(r:Vals vs us)(h:N (vs++ dvs) H Q E):wpAny (model X.prog X.w) X.A (call (.ref f) us) (EP X Z U Q) X.xe s:=by
 have L:Vals (vs++ dvs) (us++ G):=r.append D;have B:(us++ G).length=M.length:=by rw[<-L.length];exact F.len _ _ _ _ h
 refine wpAny_call<|vc (F.run X.A X.stack s H ⟨us,[]⟩ (us++ G) (vs++ dvs) Q E T I.env0 (A s us I.kIn B) L h) λr O J=>?_
 cases r with
 |error e=>exact R Z U H s e O I J
 |ok S=>
  cases S with
  |ret u=>exact I.after J
  |next=>exact False.elim J
  |brk=>exact False.elim J
  |cont=>exact False.elim J
def Xg(F:Ym X.prog X.w X.K X.mg X.base CX k f z O N)(T:VW k X.A)(A:Gl X x)(B:X.mg x=some (.ref f))(D:W.keepIn X.K (.ref f)=true)(j:Binds X.K z O m)(P:Vals dvs m)(R:Je CX X E)(y:PA X (e::J) t)(L:(x==("__debug__":Str))=false:=by decide)(S:starEach (e::J) X.env=(false,eval e X.env)::starEach J X.env:=by rfl)(G:(backTo pos<|starEach J X.env).any (·.1)=false:=by rfl):
  PE X (.Call (.Name x p) (e::J) [] pos) (RT N dvs E t):=by
 intro Z s U H Q I h;refine yg<|UE I A B ?_ L;refine vz (h₀:=X.base) I.ok.mod.kin D (thn (y pos Z s U H _ I h) λc d ⟨g,u,M,r,q⟩=>⟨M.kIn,?_⟩) S G;exact Ta F T j P R M r q
def KS(F:Ym X.prog X.w X.K X.mg X.base CX k f A L G)(N:VW k X.A)(T:Gl X x)(O:X.mg x=some (.ref f))(R:W.keepIn X.K (.ref f)=true)(D:Binds X.K A L S)(B:Vals dvs S)(M:Je CX X E)(Z:(x==("__debug__":Str))=false:=by decide):PE X (.Call (.Name x p) [] [] pos) (RT G dvs E Xu):=by
 intro J s U H Q I h;refine yg<|UE I T O ?_ Z;exact W.callWith_K0 I.kIn R<|Ta (us:=[]) F N D B M I .nil h
def Vd(y:PE X o ta)(c:Cls X.K C)(M:V1 X.K C m f)(F:Ym X.prog X.w X.K X.mg X.base CX k f d A R)(j:VW k X.A)(g:Binds X.K d A b)(z:Vals dvs b)(S:Je CX X E)(p:PA X (e::J) t)(G:starEach (e::J) X.env=(false,eval e X.env)::starEach J X.env:=by rfl)(L:(backTo pos<|starEach J X.env).any (·.1)=false:=by rfl)(P:eval (.Call (.Attribute o m apos) (e::J) [] pos) X.env=(do
   let ov <-eval o X.env
   standAt apos.atName
   let(f,first) <-holding [ov] (getMethod ov m pl)
   callWith pos f first (backTo pos<|starEach (e::J) X.env) (backToKw pos<|keywordEach [] X.env)):=by rfl):
  PE X (.Call (.Attribute o m apos) (e::J) [] pos) (IM C m R dvs E ta t):=by
 intro Z s U H Q I h;refine W.methodCall_KW (pl:=pl) (thn (y Z s U H _ I h) λu T ⟨x,i,O,B,q⟩=>?_) P;replace q:=Jb.old q;obtain⟨a,v,dx,fs,w,l,q⟩:=q;subst v;obtain rfl:u=Value.ref a:=B;refine Tz O w c M l ?_;refine vz (first:=[.ref a]) (h₀:=X.base) I.ok.mod.kin M.kp (thn (p pos Z T U i _ O q) λus n ⟨vs,H2,N,r,D⟩=>⟨N.kIn,?_⟩) G L;exact Ta (us:=.ref a::us) (vs:=.ref a::vs) F j g z S N (.cons Y r) D
def Vh(B:PE X o ta)(c:Cls X.K C)(G:V1 X.K C m f)(F:Ym X.prog X.w X.K X.mg X.base CX k f S N L)(T:VW k X.A)(A:Binds X.K S N y)(D:Vals dvs y)(O:Je CX X E)(R:eval (.Call (.Attribute o m apos) [] [] pos) X.env=(do
   let ov <-eval o X.env
   standAt apos.atName
   let(f,first) <-holding [ov] (getMethod ov m pl)
   callWith pos f first (backTo pos<|starEach [] X.env) (backToKw pos<|keywordEach [] X.env)):=by rfl):
  PE X (.Call (.Attribute o m apos) [] [] pos) (IM C m L dvs E ta Xu):=by
 intro Z s U H Q I h;refine W.methodCall_KW (pl:=pl) (thn (B Z s U H _ I h) λu z ⟨x,p,J,M,q⟩=>?_) R;replace q:=Jb.old q;obtain⟨a,P,g,t,j,l,q⟩:=q;subst P;obtain rfl:u=Value.ref a:=M;refine Tz J j c G l ?_;exact W.callWith_K0 (first:=[.ref a]) J.kIn G.kp<|Ta (us:=[.ref a]) (vs:=[.ref a]) F T A D O J (.cons rfl .nil) q
structure Mk(K:W.Frag)(C f:Addr):Prop where
 makes:W.makesIn K C=true
 init:W.findIn K (.ref C) "__init__"=some (some (.ref f))
 fn:W.isFn K (.ref f)=true
 kp:W.keepIn K (.ref C)=true
def Iu(M:Mk X.K C f)(F:Ym X.prog X.w X.K X.mg X.base CX k f p B A)(z:VW (k+1) X.A)(m:Binds X.K p B N)(t:Vals dvs N)(y:Je CX X E)(I:Inv X G U H s)(r:Vals R J)(h:∀x L,H x=none->H L=none->L≠x->A (.ref x::(R++ dvs)) (upd (upd H L<|.own x) x<|.ins C L []) (λv w=>v=.non/\Q (.ref x) w) E):
  wpAny (model X.prog X.w) X.A (call (.ref C) J) (EP X G U Q) X.xe s:=by
 have D:=h (s.heap.objs.size+1) s.heap.objs.size (I.hok.fresh<|yS _) (I.hok.fresh<|ZF _)<|Zc<|yV _;have O:=Inv.made (C:=C) I;have T:Vals (V.ref (s.heap.objs.size+1)::(R++ dvs)) (Value.ref (s.heap.objs.size+1)::(J++ N)):=.cons rfl (r.append t)
 have q:(Value.ref (s.heap.objs.size+1)::J++ N).length=B.length:=by
  have e:=T.length;rw[F.len _ _ _ _ D]at e;exact e.symm
 refine wpAny_call (Nn (f:=f) I.kIn M.makes M.init (beq_iff_eq.mp M.fn) (vc (F.run _ X.stack _ _ ⟨Value.ref (s.heap.objs.size+1)::J,[]⟩ (Value.ref (s.heap.objs.size+1)::(J++ N)) _ _ E (z.make C J [])
  (O.env0.make C J []) (m _ (Value.ref (s.heap.objs.size+1)::J) O.kIn q) T D) λr S Z=>?_))
 cases r with
 |error e=>exact y G U _ _ e S O Z
 |ok g=>
  cases g with
  |ret u=>
   obtain⟨v,l,d,P,c,j⟩:=O.after Z;subst c;exact⟨P,⟨V.ref<|s.heap.objs.size+1,l,d,rfl,j⟩⟩
  |next=>exact False.elim Z
  |brk=>exact False.elim Z
  |cont=>exact False.elim Z
def Me(M:Mk X.K C f)(F:Ym X.prog X.w X.K X.mg X.base CX k f z R O)(B:VW (k+1) X.A)(A:Gl X x)(D:X.mg x=some (.ref C))(j:Binds X.K z R m)(P:Vals dvs m)(T:Je CX X E)(y:PA X (e::J) t)(L:(x==("__debug__":Str))=false:=by decide)(S:starEach (e::J) X.env=(false,eval e X.env)::starEach J X.env:=by rfl)(G:(backTo pos<|starEach J X.env).any (·.1)=false:=by rfl):
  PE X (.Call (.Name x p) (e::J) [] pos) (AD C O dvs E t):=by
 intro Z s U H Q I h;refine yg<|UE I A D ?_ L;refine vz (h₀:=X.base) I.ok.mod.kin M.kp (thn (y pos Z s U H _ I h) λc d ⟨g,u,N,r,q⟩=>⟨N.kIn,?_⟩) S G;exact Iu M F B j P T N r q
end
structure Yq(N P:List Str)(sc:Scope):Prop where
 kind:sc.kind=.function
 co:sc.isCoroutine=false
 gen:sc.isGenerator=false
 nd:N.Nodup
 pre:N.take P.length=P
 par:∀x∈P,sc.names.lookup x=some .local\/sc.names.lookup x=some .cell
 nofree:∀y∈sc.names,y.2≠.free
theorem Rm{kindOf:Str->Option NameKind}:∀{binds:List (Str×Value)}{m:Str->Option Value},(∀v,(x,v)∉binds)->bindL kindOf binds m x=m x
 |[],_,_=>rfl
 |(n,v)::r,m,h=>by
  unfold bindL;rw[Rm λw Z=>h w (ZK _ Z)]
  split
  .have:x≠n:=by rintro rfl;exact h v ZY
   simp[this]
  .rfl
theorem Ro{kindOf:Str->Option NameKind}:∀{binds:List (Str×Value)}{m:Str->Option Value},(∀v,(x,v)∉binds)->bindC kindOf binds m x=m x
 |[],_,_=>rfl
 |(n,v)::r,m,h=>by
  unfold bindC;rw[Ro λw Z=>h w (ZK _ Z)]
  split
  .rfl
  .have:x≠n:=by rintro rfl;exact h v ZY
   simp[this]
theorem Rn{kindOf:Str->Option NameKind}:∀{P:ky}{Z:kq}{i:Nat}{m:Str->Option Value},P.Nodup->P[i]?=some x->Z[i]?=some v->kindOf x=some .local->
  bindL kindOf (P.zip Z) m x=some v
 |[],_,_,_,_,h,_,_=>by simp at h
 |_::_,[],_,_,_,_,h,_=>by simp at h
 |p::P,w::Z,0,m,nd,h1,h2,hk=>by
  simp at h1 h2;subst h1;subst h2;show bindL kindOf ((p,w)::P.zip Z) m p=_;unfold bindL;rw[Rm λv J=>(zW.mp nd).1 (List.of_mem_zip J).1,Zn hk];simp
 |p::P,w::Z,i+1,m,nd,h1,h2,hk=>by
  show bindL kindOf ((p,w)::P.zip Z) m x=_;unfold bindL;exact Rn (i:=i) (zW.mp nd).2 (by simpa using h1) (by simpa using h2) hk
theorem Rp{kindOf:Str->Option NameKind}:∀{P:ky}{Z:kq}{i:Nat}{m:Str->Option Value},P.Nodup->P[i]?=some x->Z[i]?=some v->kindOf x≠some .local->
  bindC kindOf (P.zip Z) m x=some v
 |[],_,_,_,_,h,_,_=>by simp at h
 |_::_,[],_,_,_,_,h,_=>by simp at h
 |p::P,w::Z,0,m,nd,h1,h2,hk=>by
  simp at h1 h2;subst h1;subst h2;show bindC kindOf ((p,w)::P.zip Z) m p=_;unfold bindC;rw[Ro λv J=>(zW.mp nd).1 (List.of_mem_zip J).1,Zo hk];simp
 |p::P,w::Z,i+1,m,nd,h1,h2,hk=>by
  show bindC kindOf ((p,w)::P.zip Z) m x=_;unfold bindC;exact Rp (i:=i) (zW.mp nd).2 (by simpa using h1) (by simpa using h2) hk
def start(N:ky)(vs:kK):St:=vs.map some++ List.replicate (N.length-vs.length) none
def Vg(CX:CXT)(P:Program)(w:World)(K:W.Frag)(mg:Str->Option Value)(base:Heap)(N:ky)(qual:Str)(scope:Scope)(f:Addr)(cd:Value)(A:Around)(outer:List Env)(s:Shared)(H:Hp)(E:XK):Cx where
 prog:=P
 w:=w
 K:=K
 mg:=mg
 base:=base
 A:=A.deeper (envOfC qual scope s.heap.objs.size f cd)
 N:=N
 s₀:=s
 H₀:=H
 env:=envOfC qual scope s.heap.objs.size f cd
 outer:=outer
 stack:=envOfC qual scope s.heap.objs.size f cd::outer
 ex:=[]
 calm:=true
 fn:=λ_=>true
 pn:=[]
 xe:=λe J=>wpAny (model P w) (A.deeper<|envOfC qual scope s.heap.objs.size f cd) (leaving (envOfC qual scope s.heap.objs.size f cd) e) (λ_ Z=>CX outer H s E e Z) (λG Z=>CX outer H s E G Z) J
def N9{Z:Scope}(h:Z.names.lookup x=some .cell):∃c,(cellsFrom n Z.names []).lookup x=some c:=by
 have q:=W.cellsFrom_some Z.names n []<|.inl h;exact vU.mp q
def FV{C:CXT}{P:Program}{w:World}{K:W.Frag}(S:Yq N O scope)(j:A.handled=none)(J:D1 P w K F base A outer s H)(g:M.length=O.length)(r:Vals M D)(x:InCallC s s.heap.objs.size (bindL (envOfC qual scope s.heap.objs.size f cd).kindOf (O.zip D) λ_=>none) (cellsFrom (s.heap.objs.size+1) scope.names []) (bindC (envOfC qual scope s.heap.objs.size f cd).kindOf (O.zip D) λ_=>none) s1):
  Inv (Vg C P w K F base N qual scope f cd A outer s H E) [] (start N M) H s1:=by
 have Q:O.length<=N.length:=by have:=congrArg List.length S.pre;rw[ZL]at this;omega
 obtain⟨B,m,rfl,U⟩:=x.done;have G:∀b:Addr,b∉(Vg C P w K F base N qual scope f cd A outer s H E).ex:=λb z=>Zp (show b∈([]:kF)from z) (by simp);refine⟨⟨J.mod,S.kind,Y,Y,ZF _,λy z c B Z=>?_,λy L=>?_,λy c _ h=>?_,λ_=>j,Around.frames_deeper J.frames,.inr ⟨Y,Y⟩,λb z=>Zp z<|G b,J.bs,J.bsz,λb _ _=>G b,λb z=>Zp z<|G b,J.funs,J.frf⟩,
  rfl,J.bare,Un.kept U,⟨_,x.toInCall.ns,λi y v B Z d=>?_⟩,λy c h=>⟨_,x.cell y c h⟩,J.hok.fresh<|ZF _,λy c h=>?_,λp T=>Zp (show p∈([]:kh)from T) (by simp),J.hok.kept U,?_⟩
 .exact name_of_addr x.apart (yG B) (yG Z)
 .have L:scope.names.lookup y=some .cell\/scope.names.lookup y=some .free:=L
  rcases L with L|L
  .exact N9 L
  .exact Zp rfl (S.nofree _<|yG L)
 .exact Zf (x.above y c<|yG h)
 .have hi:i<M.length:=by
   unfold start at Z
   by_cases hi:i<M.length
   .exact hi
   .rw [zq (by simpa using hi)]at Z
    rw[yH]at Z
    split at Z <;> cases Z
  have t:M[i]?=some v:=by
   unfold start at Z;rw[zn (by simpa using hi),ZG]at Z
   cases e:M[i]? with
   |none=>rw[e]at Z;cases Z
   |some a=>rw[e]at Z;cases Z;rfl
  obtain⟨u,I,X⟩:=r.get t
  have T:O[i]?=some y:=by
   rw[<-S.pre,List.getElem?_take_of_lt (by omega)];exact B
  have R:O.Nodup:=by rw[<-S.pre];exact S.nd.sublist<|yp _ _
  exists u,X;rcases S.par y (ZH T)with k|k
  .exact .inl ⟨k,Rn R T I k⟩
  .obtain ⟨c,e⟩:=N9 (n:=s.heap.objs.size+1) k
   refine .inr ⟨.inl k,c,e,?_⟩;have q:=x.cell y c e;rw[Rp R T I (by show scope.names.lookup y≠_;rw[k];decide)]at q;exact q
 .exact J.hok.fresh (Zf<|x.above y c<|yG h)
 .unfold start
  show _=N.length;rw[ZJ,ZA,yt];omega
def P8{j:CXT}{P:Program}{K:W.Frag}{dV kV C a G ct oc:Value}(lk:K.lookup f=some ⟨oc,od,.func<|W.fnOf name qual params body scope dV kV C a an G ct,osl⟩)(l:W.codeIn K G qual=true)(S:Yq N g scope)(B:∀L H Q E,i L H Q E->L.length=g.length)(R:∀(A:Around)(Z:List Env)(s:Shared)(H:Hp)(L:kK)(Q:VK)(E:XK),VW k (A.deeper<|envOfC qual scope s.heap.objs.size f G)->i L H Q E->
   ∃t,PSs (Vg j P w K p base N qual scope f G A Z s H E) body t/\t {nx:=λ_ M=>Q .non M,rt:=Q} (start N L) H):
  Ym P w K p base j (k+1) f (W.fnOf name qual params body scope dV kV C a an G ct) g i:=by
 refine⟨B,λA Z s H args us L Q E d U hb r D=>?_⟩;have hl:=B _ _ _ _ D;have KX:K.In s.heap:=U.mod.kin.keeps λb o e=>(U.bs b o e).1;have c:s.heap.NoLimit:=U.mod.nolimit.keeps λb o e=>(U.bs b o e).1
 have O:∀y∈g.zip us,scope.names.lookup y.1=some .local\/(scope.names.lookup y.1=some .cell/\((cellsFrom (s.heap.objs.size+1) scope.names []).lookup y.1).isSome=true):=λ⟨n,v⟩ hy=>by
  rcases S.par n (List.of_mem_zip hy).1 with q|q
  .exact .inl q
  .exact .inr ⟨q,W.cellsFrom_some _ _ _<|.inl q⟩
 refine codeAny_call_function d.depth (KX _ _ lk) Y S.co S.gen Y (W.codeRec_of KX l) (hb _ _ _ _ ?_);refine wpAny_newFunctionEnv_cells S.kind O λZ8 he h x=>?_;subst he;refine⟨c.keeps x.toInCall.keep,codeAny_func ?_⟩;obtain⟨t,ht,hq⟩:=R A Z s H L Q E (d.deeper _) D;have I:Inv (Vg j P w K p base N qual scope f G A Z s H E) [] (start N L) H h:=FV S d.hd U hl r x;refine Zl (ht [] h (start N L) H _ I hq) (λfl z T=>?_) λe z T=>T
 have F:∀{X:St}{M:Hp}{v:V}{u:Value},Inv (Vg j P w K p base N qual scope f G A Z s H E) [] X M z->RelV v u->Q v M->CE Z P w H s Q u z:=
  λ{X M v u} J m q=>⟨v,M,J.os,J.bare,J.base,J.hok,m,q⟩
 cases fl with
 |ret u=>
  obtain⟨v,X,M,J,m,q⟩:=T;exact F J m q
 |next=>
  obtain⟨X,M,J,q⟩:=T;exact F (v:=V.non) (u:=Value.none) J Y q
 |brk=>
  obtain⟨_,_,_,q⟩:=T;exact False.elim q
 |cont=>
  obtain⟨_,_,_,q⟩:=T;exact False.elim q
end L2
namespace L2
open PySem PySem.Spec PyProof.Rows
section
variable{t:TA}{id T:String}{r:List V->Hp->VK->Prop}
def tCB(r:List V->Hp->VK->Prop)(t:TA):TE:=λU H Q=>t U H λZ J=>r Z J Q
def Yt(S:Jr X (.builtin id) r)(A:Gl X x)(F:X.mg x=none)(D:bootBuiltins x=some (.builtin id))(C:PA X (e::J) t)(E:x≠"__name__":=by decide)(L:(x==("__debug__":Str))=false:=by decide)(he:starEach (e::J) X.env=(false,eval e X.env)::starEach J X.env:=by rfl)(G:(backTo pos<|starEach J X.env).any (·.1)=false:=by rfl):PE X (.Call (.Name x p) (e::J) [] pos) (tCB r t):=by
 intro Z s U H Q I h;refine yg<|Wy I A F D ?_ E L;exact PyProof.Rows.callWith_builtin1 (thn (C pos Z s U H _ I h) λN O ⟨M,j,P,R,B⟩=>S Z O U j M N Q P R B) he G
def VM(C:Jr X (.type T) r)(A:Gl X x)(F:X.mg x=none)(D:bootBuiltins x=some (.type T))(P:PA X (e::J) t)(E:x≠"__name__":=by decide)(L:(x==("__debug__":Str))=false:=by decide)(S:starEach (e::J) X.env=(false,eval e X.env)::starEach J X.env:=by rfl)(G:(backTo pos<|starEach J X.env).any (·.1)=false:=by rfl):PE X (.Call (.Name x p) (e::J) [] pos) (tCB r t):=by
 intro Z s U H Q I h;refine yg<|Wy I A F D ?_ E L;exact yM (thn (P pos Z s U H _ I h) λN O ⟨M,y,j,R,B⟩=>C Z O U y M N Q j R B) S G
end
end L2
namespace HT
open PySem PyProof.Rows
section
open PySem.SeqAt
open PySem.AutoSeq1 (wpAny_loadPart')
open PySem.MeetsSeq PySem.MeetsSeq2 PySem.MeetsSeq3
end
section
def cat_tup(X:IsTup s.heap t G.toArray)(P:IsTup s.heap b Z.toArray)(F:G≠[])(y:Z=[]->Q (.ref t) s)(j:Z≠[]->Q (.ref s.heap.objs.size) {s with heap:=s.heap.push {cls:=.type "tuple",data:=.seq (G++ Z).toArray}})(T:G.length+Z.length<=sizeLine):wpAny (model prog w) A (binaryOp .Add (.ref t)<|.ref b) Q E s:=by
 obtain⟨⟨B,U,data,sl⟩,R,S,n,I⟩:=id X;obtain⟨⟨C,O,data2,L⟩,J,N,D,M⟩:=id P;simp only at S I N M;subst S I N M;have e:G.toArray++ Z.toArray=(G++ Z).toArray:=by simp
 by_cases hw:Z=[]
 .exact concat_meets ⟨_,R,rfl⟩ ⟨_,J,rfl⟩ noFill_tuple_add seq_tuple_add jb vX (vV _ _)
   (tuple_addW1 t b G.toArray Z.toArray n D U O sl L (by simpa using F)<|by simp[hw]) ⟨R,J,y hw⟩
 .refine concat_meets ⟨_,R,rfl⟩ ⟨_,J,rfl⟩ noFill_tuple_add seq_tuple_add jb vX (vV _ _)
   (tuple_addW2 t b G.toArray Z.toArray n D U O sl L (by simpa using F) (by simpa using hw) (by rw[ZM,ZM];exact T)) ⟨R,J,?_⟩
  rw[e];exact j hw
def sIx(n d:Nat):Option Int->Nat
 |none=>d
 |some v=>if v<0 then(v+(n:Int)).toNat else min v.toNat n
def sIx_none(n d:Nat):sIx n d none=d:=rfl
def sIx_nat(n d k:Nat):sIx n d (some (k:Int))=min k n:=by
 show(if(k:Int)<0 then((k:Int)+(n:Int)).toNat else min (k:Int).toNat n)=min k n;rw[Zo (by omega),yN]
def Qn(n d:Nat)(Z:d<=n)(o:Option Int):sIx n d o<=n:=by
 cases o with
 |none=>exact Z
 |some v=>
  show(if v<0 then(v+(n:Int)).toNat else min v.toNat n)<=n
  by_cases hv:v<0
  .rw [Zn hv];omega
  .rw [Zo hv];exact Nat.min_le_right _ _
def Ek(v:Int)(n d:Nat):(if v<0 then max (v+(n:Int)) 0 else min v (n:Int))=((sIx n d (some v):Nat):Int):=by
 show(if v<0 then max (v+(n:Int)) 0 else min v (n:Int))=(((if v<0 then(v+(n:Int)).toNat else min v.toNat n):Nat):Int)
 by_cases hv:v<0
 .simp only[Zn hv];omega
 .simp only[Zo hv];omega
def Dy(Z J:Option Int)(n:Nat):Builtin.Slice.sliceAdjust Z J 1 (n:Int)=(((sIx n 0 Z:Nat):Int),((sIx n n J:Nat):Int)):=by
 have G:¬((1:Int)<0):=by omega
 unfold Builtin.Slice.sliceAdjust;simp only[G,if_false];refine Prod.ext ?_ ?_
 .cases Z with
  |none=>rfl
  |some v=>exact Ek v n 0
 .cases J with
  |none=>rfl
  |some v=>exact Ek v n n
def B4(i j:Nat):Builtin.Slice.slicePlaces (i:Int) (j:Int) 1=j-i:=by
 unfold Builtin.Slice.slicePlaces;have Z:(1:Int) > 0:=by omega
 simp only[Z,if_true,Int.ediv_one]
 split <;> omega
def TH(p:IsPart v o)(h:Q o s):wpAny (model prog w) A (Builtin.Slice.slicePartIndex v) Q E s:=by
 cases p with
 |none=>exact slicePart_none h
 |int i t=>exact slicePart_int h
def Wi{Z G:Option Int}{n:Nat}(O:s.heap.IsSliceOf sl vl vu .none)(N:IsPart vl Z)(M:IsPart vu G)(h:Q (((sIx n 0 Z:Nat):Int),1,sIx n n G-sIx n 0 Z) s):wpAny (model prog w) A (Builtin.Slice.sliceApplied (.ref sl)<|pure (n:Int)) Q E s:=by
 obtain⟨T,J,R,L⟩:=id O;unfold Builtin.Slice.sliceApplied Builtin.Slice.sliceFields;refine Zj<|Zj<|Zm J L (x:=vl) rfl (Zj<|Zm J L (x:=vu) rfl (Zj<|Zm J L (x:=.none) rfl (Zk ?_)));refine Zj<|slicePart_none ?_;show wpAny _ _ (if((1:Int)==0)=true then _ else _) _ _ s;rw[Zo (by decide)];refine Zj<|TH N<|Zj<|TH M<|Zj<|Zk ?_;show wpAny _ _ (match Builtin.Slice.sliceAdjust Z G 1 (n:Int)with|(Z,G)=>pure (Z,(1:Int),Builtin.Slice.slicePlaces Z G 1)) _ _ s;rw[Dy Z G n];show wpAny _ _ (pure (((sIx n 0 Z:Nat):Int),(1:Int),Builtin.Slice.slicePlaces ((sIx n 0 Z:Nat):Int) ((sIx n n G:Nat):Int) 1)) _ _ s;rw[B4];exact Zk h
def KF(Z:Array Value)(i k:Nat):((List.range k).filterMap λ(m:Nat)=>Z[((i:Int)+(m:Int)*1).toNat]?).toArray=((Z.toList.drop i).take k).toArray:=by
 have e:(λ(m:Nat)=>Z[((i:Int)+(m:Int)*1).toNat]?)=λm=>Z[i+m]?:=by
  funext m
  have:((i:Int)+(m:Int)*1).toNat=i+m:=by omega
  rw[this]
 rw[e];have:=pick_run Z i k;rw[List.filterMap_map]at this;have J:((λx=>Z[x]?) ∘ λx=>i+x)=λm=>Z[i+m]?:=rfl;rw[J]at this;rw[this]
def getItem_tuple_cut{J G:Option Int}(L:IsTup s.heap t items)(T:s.heap.IsSliceOf sl vl vu .none)(D:IsPart vl J)(B:IsPart vu G)(I:¬(sIx items.size 0 J=0/\sIx items.size items.size G=items.size))(h:Q (.ref s.heap.objs.size) {s with heap:=s.heap.push {cls:=.type "tuple",data:=.seq ((items.toList.drop<|sIx items.size 0 J).take<|sIx items.size items.size G-sIx items.size 0 J).toArray}})(S:items.size<=sizeLine):wpAny (model prog w) A (getItem (.ref t)<|.ref sl) Q E s:=by
 have Z:sizeOk (.seq ((items.toList.drop<|sIx items.size 0 J).take<|sIx items.size items.size G-sIx items.size 0 J).toArray):=by
  show((items.toList.drop<|sIx items.size 0 J).take<|sIx items.size items.size G-sIx items.size 0 J).toArray.size<=sizeLine;rw[ZM,ZL,yI,vI];omega
 have P:sIx items.size items.size G<=items.size:=Qn _ _ (ZF _) G;obtain⟨F,M,O,U⟩:=id T;have R:s.TypeIs (.ref sl) "slice":=⟨F,M,O⟩;unfold getItem
 try with_reducible refine wpAny_holding ?_
 first|refine Zj (Zk ?_)|skip
 refine Zj<|wpAny_sequenceKey L.typeIs (by decide) ?_;refine Zj (wpAny_callSpecial?_slot (name:=Str.ofString "__getitem__") L.typeIs jE
  (yL jE L.typeIs entry_tuple_getitem ?_<|args_tuple_getitem _ _))
 show wpAny _ _ (Builtin.Tuple.tupleItemsOf (.ref t) >>=_) _ _ s;refine Zj<|tupleItemsOf_ L ?_;refine Zj<|jg R ?_;rw[Zn (by decide)];refine Zj<|Wi T D B ?_
 have N:¬((((sIx items.size 0 J:Nat):Int)==0 && (1:Int)==1 && (sIx items.size items.size G-sIx items.size 0 J)==items.size)=true):=by
  intro q;rw[ZX,ZX]at q;have X:((sIx items.size 0 J:Nat):Int)=0:=eq_of_beq q.1.1;have C:sIx items.size items.size G-sIx items.size 0 J=items.size:=eq_of_beq q.2;exact I ⟨by omega,by omega⟩
 show wpAny _ _ (if(((sIx items.size 0 J:Nat):Int)==0 && (1:Int)==1 && (sIx items.size items.size G-sIx items.size 0 J)==items.size)=true then _ else _) _ _ s;rw[Zo N,KF]
 first
  |exact Zj (m:=Builtin.Tuple.tupleExact _)<|yk (Zk ⟨_,rfl,Zk h⟩) Z
  |exact Zj (m:=Builtin.Tuple.tupleExact _)<|yk (Zj<|Zk<|Zk ⟨_,rfl,Zk h⟩) Z
  |exact Zj<|Zj (m:=Builtin.Tuple.tupleExact _)<|yk (Zk<|Zk ⟨_,rfl,Zk h⟩) Z
  |exact Zj<|Zj (m:=Builtin.Tuple.tupleExact _)<|yk (Zk ⟨_,rfl,Zk h⟩) Z
end
end HT
namespace L2
open PySem PySem.Spec PyProof.Rows
abbrev TO:=St->Hp->(Option Int->Hp->Prop)->Prop
def PO(X:Cx)(e:Option Expr)(t:TO):Prop:=
 ∀(Z:kh)(s:Shared)(U:St)(H:Hp)(Q:Option Int->Hp->Prop),Inv X Z U H s->t U H Q->
  wpAny (model X.prog X.w) X.A (evalPart e X.env) (λu G=>∃o J,Inv X Z U J G/\IsPart u o/\Q o J) X.xe s
def L8:TO:=λ_ H Q=>Q none H
def AA(t:TE):TO:=λU H Q=>t U H λx Z=>∃i,x=.int i/\Q (some i) Z
section
variable{X:Cx}{te:TE}{lo hi:Option Expr}{tl th:TO}
def Jl:PO X none L8:=by
 intro Z s U H Q I h;rw[evalPart_none];exact Zk ⟨none,H,I,.none,h⟩
def Jk(h:PE X e te):PO X (some e) (AA te):=by
 intro Z s U H Q I L;rw[evalPart_some];refine thn (h Z s U H _ I L) λu O ⟨x,N,M,J,G⟩=>?_;obtain⟨i,rfl,q⟩:=G;obtain⟨t,rfl⟩:=J;exact⟨some i,N,M,.int i t,q⟩
def SlR(X:Cx)(r:V->Option Int->Option Int->Hp->VK->Prop):Prop:=
 ∀(Z:kh)(s:Shared)(U:St)(H:Hp)(x:V)(v G J:Value)(lo hi:kB)(sl:Addr)(Q:VK),Inv X Z U H s->RelV x v->s.heap.IsSliceOf sl G J .none->IsPart G lo->IsPart J hi->r x lo hi H Q->
  ∃T L,typeLookup (.type T) "__getitem__"=pure (some<|.builtin L)/\s.TypeIs v T/\wpAny (model X.prog X.w) X.A (getItem v<|.ref sl) (EP X Z U Q) X.xe s
def tSl(r:V->Option Int->Option Int->Hp->VK->Prop)(te:TE)(tl th:TO):TE:=λU H Q=>te U H λx G=>tl U G λl J=>th U J λu Z=>r x l u Z Q
def JO(P:SlR X r)(z:PE X e te)(j:PO X lo tl)(S:PO X hi th):PE X (.Subscript e (.Slice lo hi none p2) pos) (tSl r te tl th):=by
 intro Z s U H Q I h;refine Subscript_<|thn (z Z s U H _ I h) λv O ⟨x,d,p,R,E⟩=>?_;refine wpAny_Slice<|thn (j Z O U d _ p E) λL N ⟨l,c,k,A,D⟩=>thn (S Z N U c _ k D) λG J ⟨u,M,g,F,B⟩=>?_;rw[evalPart_none];refine Zk ?_;have m:Inv X Z U M {J with heap:=J.heap.push {cls:=.type "slice",data:=.fields #[L,G,.none]}}:=g.kept (t':=J.toks) λb f q=>ZD _ q;obtain⟨T,w,t,C,y⟩:=P Z {J with heap:=J.heap.push {cls:=.type "slice",data:=.fields #[L,G,.none]}} U M x v L G l u J.heap.objs.size Q m R (Heap.IsSliceOf.new ..) A F B;show wpAny (model X.prog X.w) X.A (subscriptTail e (.Slice lo hi none p2) v<|.ref J.heap.objs.size) (EP X Z U Q) X.xe {J with heap:=J.heap.push {cls:=.type "slice",data:=.fields #[L,G,.none]}};exact tail_any (ops:=[.ref J.heap.objs.size,v]) C t y<|by with_unfolding_all rfl
def U4(xs:kK)(lo hi:kB):kK:=(xs.drop<|HT.sIx xs.length 0 lo).take<|HT.sIx xs.length xs.length hi-HT.sIx xs.length 0 lo
def GY(Z:kK)(lo hi:kB):(U4 Z lo hi).length<=Z.length:=by
 unfold U4;rw[ZL,yI];omega
def C4(K:W.Frag):V->Option Int->Option Int->Hp->VK->Prop:=λx lo hi H Q=>∃a Z,x=.ref a/\SqT K H a Z/\
 ¬(HT.sIx Z.length 0 lo=0/\HT.sIx Z.length Z.length hi=Z.length)/\∀p,H p=none->Q (.ref p) (upd H p<|.tup<|U4 Z lo hi)
def Bb:SlR X (C4 X.K):=by
 intro L s U H x v A F lo hi sl Q I O E T R h;obtain⟨a,J,rfl,B,D,q⟩:=h;cases O;obtain⟨G,r,N,M⟩:=I.tuple B;have Z:G.toArray.size=J.length:=by rw[ZM];exact r.length.symm
 exists "tuple",_,PyProof.Rows.slot_tuple_getitem.lookup,N.typeIs;refine HT.getItem_tuple_cut N E T R (by rw[Z];exact D) ?_ (by rw[Z];exact M);rw[Z];refine⟨.ref s.heap.objs.size,_,I.laid (t':=s.toks) (o:=.tup<|U4 J lo hi) (λb S q=>ZD _ q) (ZF _) ?_,rfl,q _<|I.hok.fresh<|ZF _⟩;exact⟨ZZ (GY J lo hi) M,_,(r.drop<|HT.sIx J.length 0 lo).take<|HT.sIx J.length J.length hi-HT.sIx J.length 0 lo,GG.new _ _⟩
def NZ(K:W.Frag):R2:=λx y H Q=>∃a b J Z,x=.ref a/\y=.ref b/\SqT K H a J/\SqT K H b Z/\J≠[]/\J.length+Z.length<=sizeLine/\
 (Z=[]->Q (.ref a) H)/\(Z≠[]->∀p,H p=none->Q (.ref p) (upd H p<|.tup<|J++ Z))
def Vals.nil_iff(r:Vals Z J):J=[]↔Z=[]:=by
 cases r with
 |nil=>simp
 |cons _ _=>simp
def WU:OpR X (binaryOp .Add) (NZ X.K):=by
 intro G s U H x y v u Q I T R h;obtain⟨a,b,O,N,rfl,rfl,P,C,S,M,D,B⟩:=h;cases T;cases R;obtain⟨A,J,F,_⟩:=I.tuple P;obtain⟨L,Z,E,_⟩:=I.tuple C;refine HT.cat_tup F E (λz=>S<|J.nil_iff.mp z) (λz=>⟨.ref a,H,I,rfl,D<|Z.nil_iff.mp z⟩) (λz=>?_) (by rw[<-J.length,<-Z.length];exact M);refine⟨.ref s.heap.objs.size,_,I.laid (t':=s.toks) (o:=.tup<|O++ N) (λb j q=>ZD _ q) (ZF _) ?_,rfl,B (λw=>z<|Z.nil_iff.mpr w) _<|I.hok.fresh<|ZF _⟩;exact⟨by rw[ZJ];exact M,_,J.append Z,GG.new _ _⟩
end
def ixN(n:Nat)(i:Int):Option Nat:=if 0<=i then(if i<n then some i.toNat else none)else if -(n:Int)<=i then some (i+n).toNat else none
def atI{α:Type}(xs:List α)(i:Int):Option α:=(ixN xs.length i).bind λj=>xs[j]?
def ET(h:ixN n i=some j):seqIndex? i n=some j/\j<n/\ -(n:Int)<=i/\i<n:=by
 unfold ixN at h
 by_cases h0:0<=i
 .rw [Zn h0]at h
  by_cases h1:i<n
  .rw [Zn h1]at h
   have e:i.toNat=j:=ZP h;exact⟨by rw[seqIndex_of h0 h1,e],by omega,by omega,h1⟩
  .rw [Zo h1]at h;cases h
 .rw [Zo h0]at h
  by_cases h1: -(n:Int)<=i
  .rw [Zn h1]at h
   have e:(i+n).toNat=j:=ZP h;exact⟨by rw[seqIndex_neg (by omega) h1,e],by omega,h1,by omega⟩
  .rw [Zo h1]at h;cases h
def M6(h:atI Z i=some v):∃j,seqIndex? i Z.length=some j/\Z[j]?=some v/\j<Z.length/\ -(Z.length:Int)<=i/\i<Z.length:=by
 unfold atI at h
 cases e:ixN Z.length i with
 |none=>rw[e]at h;cases h
 |some j=>
  rw[e]at h;obtain⟨M,L,G,J⟩:=ET e;exact⟨j,M,h,L,G,J⟩
def Ya{Z:List α}{j:Nat}{v:α}(h:Z[j]?=some v):atI Z (j:Int)=some v:=by
 have J:j<Z.length:=(ZE.mp h).1
 have e:ixN Z.length (j:Int)=some j:=by
  unfold ixN;rw[Zn (by omega),Zn (by omega)];simp
 unfold atI;rw[e];exact h
def BF(Z:List α)(v:α):atI (Z++[v]) (-1)=some v:=by
 have J:(Z++[v]).length=Z.length+1:=by simp
 have e:ixN (Z++[v]).length (-1)=some Z.length:=by
  unfold ixN;rw[J,Zo<|by decide,Zn (by omega)]
  congr 1
  omega
 unfold atI;rw[e];show(Z++[v])[Z.length]?=some v;simp
def Pk(b:Expr):Prop:=∀o i,subscripted b false o i=operate [o,i] (getItem o i)
def IxR(X:Cx)(r:R2):Prop:=
 ∀(value slice:Expr)(Z:kh)(s:Shared)(U:St)(H:Hp)(x y:V)(v u:Value)(Q:VK),Inv X Z U H s->RelV x v->RelV y u->r x y H Q->
  subscripted slice false v u=operate [v,u] (getItem v u)->wpAny (model X.prog X.w) X.A (subscriptTail value slice v u) (EP X Z U Q) X.xe s
def MtR(X:Cx)(id:String)(r:V->List V->Hp->VK->Prop):Prop:=
 ∀(Z:kh)(s:Shared)(U:St)(H:Hp)(x:V)(J:kK)(v:Value)(G:kq)(Q:VK),Inv X Z U H s->RelV x v->Vals J G->r x J H Q->
  wpAny (model X.prog X.w) X.A (call (.builtin id) (v::G)) (EP X Z U Q) X.xe s
section
variable{a b:Expr}{ta tb:TE}
def Yf(N:IxR X r)(R:PE X a ta)(O:PE X b tb)(M:Pk b:=by exact λ_ _=>Y):PE X (.Subscript a b pos) (tOp r ta tb):=by
 intro Z s U H Q I h;exact Subscript_<|S0 R O I h λv u J x y B T L G q=>N a b Z J U B x y v u Q T L G q<|M _ _
def B2(K:W.Frag):R2:=λx y H Q=>Jb x λp=>U1 y λi=>∃Z v,SqL K H p Z/\atI Z i=some v/\Q v H
def B2.old{K:W.Frag}(h:B2 K x y H Q):∃p Z i v,x=.ref p/\y=.int i/\SqL K H p Z/\atI Z i=some v/\Q v H:=by
 replace h:=Jb.old h;obtain⟨p,e,h⟩:=h;replace h:=U1.old h;obtain⟨i,J,Z,v,h⟩:=h;exact⟨p,Z,i,v,e,J,h⟩
def UB(K:W.Frag):R2:=λx y H Q=>Jb x λp=>U1 y λi=>∃Z v,SqT K H p Z/\atI Z i=some v/\Q v H
def UB.old{K:W.Frag}(h:UB K x y H Q):∃p Z i v,x=.ref p/\y=.int i/\SqT K H p Z/\atI Z i=some v/\Q v H:=by
 replace h:=Jb.old h;obtain⟨p,e,h⟩:=h;replace h:=U1.old h;obtain⟨i,J,Z,v,h⟩:=h;exact⟨p,Z,i,v,e,J,h⟩
def AT:R2:=λx y H Q=>∃z i c,x=.str z/\y=.int i/\z.length<=sizeLine/\atI z.cps.toList i=some c/\Q (.str ⟨#[c]⟩) H
def Yw:IxR X (B2 X.K):=by
 intro value slice Z s U H x y v u Q I D B h O;replace h:=B2.old h;obtain⟨p,m,i,z,rfl,rfl,E,A,q⟩:=h;cases D;obtain⟨t,rfl⟩:=B;obtain⟨N,r,M,g⟩:=I.list E;obtain⟨j,G,P,c,C,S⟩:=M6 A;obtain⟨w,R,L⟩:=r.get P;have F:=r.length;have k:=Ww;have J:EP X Z U Q w s:=⟨z,H,I,L,q⟩
 by_cases h0:0<=i
 .have hj:i.toNat=j:=by
   rw[seqIndex_of h0 S]at G;exact ZP G
  exact item_listR M.isList h0 (by omega) (by rw[hj];simpa using R) J O
 .have hj:(i+(N.toArray.size:Int)).toNat=j:=by
   rw[seqIndex_neg (by omega) C]at G;rw[ZM,<-F];exact ZP G
  exact subscriptTail_builtinR (x:=w) M.isList.typeIs slot_list_getitem.lookup
   (wpAny_getItem_list_neg (Q:=λr T=>r=w/\EP X Z U Q r T) M.isList (by omega) (by rw[ZM] <;> omega) (by omega) (by rw[hj];simpa using R) ⟨rfl,J⟩) O
def Yl:IxR X (UB X.K):=by
 intro value slice Z s U H x y v u Q I O N h T;replace h:=UB.old h;obtain⟨p,C,i,z,rfl,rfl,B,E,q⟩:=h;cases O;obtain⟨t,rfl⟩:=N;obtain⟨R,r,L,P⟩:=I.tuple B;obtain⟨j,A,F,c,k,g⟩:=M6 E;obtain⟨w,S,J⟩:=r.get F;have D:=r.length;have m:=Ww;have G:EP X Z U Q w s:=⟨z,H,I,J,q⟩;exact subscriptTail_builtinR (x:=w) L.typeIs slot_tuple_getitem.lookup
  (getItem_tuple (j:=j) (Q:=λr M=>r=w/\EP X Z U Q r M) L (by omega) (by omega) (by rw[ZM,<-D];exact A) (by simpa using S) ⟨rfl,G⟩) T
def Mr:IxR X AT:=by
 intro value slice Z s U H x y v u Q I L G h M;obtain⟨z,i,c,rfl,rfl,A,O,q⟩:=h;obtain⟨t,rfl⟩:=L;obtain⟨F,rfl⟩:=G;obtain⟨j,J,B,C,T,R⟩:=M6 O;have N:z.cps.toList.length=z.length:=by simp[Str.length]
 rw[N]at J T R;have S:=Ww
 exact tail_any (typeIs_str s z t) slot_str_getitem.lookup (getItem_str (c:=c) (by
  have E:decide (i < -(2 ^ 63:Int))=false:=Zw (by omega);have D:decide (i ≥ 2 ^ 63)=false:=Zw (by omega);rw[E,D,Bool.or_false]) (by rw[J];simpa using B) ⟨.str ⟨#[c]⟩,H,I.tok _,⟨_,rfl⟩,q⟩) M
def DV(Z:kq)(n j:Nat)(u:Value):Obj.mapSeq (·.setIfInBounds j u) {cls:=.type "list",data:=.seq Z.toArray n}={cls:=.type "list",data:=.seq (Z.set j u).toArray n}:=by
 simp[Obj.mapSeq]
def Inv.lst(I:Inv X G U H s)(h:H p=some (.lst J)):
  ∃(Z:kq)(n:Nat),Vals J Z/\s.heap.get? p=some {cls:=.type "list",data:=.seq Z.toArray n}/\J.length<=sizeLine:=by
 obtain⟨z,Z,n,r,e⟩:=I.hok p _ h;exact⟨Z,n,r,e,z⟩
def Inv.lstUpd{G Z:kq}(I:Inv X J U H s)(h:H p=some (.lst R))(N:s.heap.get? p=some {cls:=.type "list",data:=.seq G.toArray n})(L:f {cls:=.type "list",data:=.seq G.toArray n}={cls:=.type "list",data:=.seq Z.toArray n'})(r:Vals ys Z)(M:ys.length<=sizeLine)(t:Nat):
  Inv X J U (upd H p<|.lst ys) {s with heap:=s.heap.update p f,toks:=t}:=by
 have e:(s.heap.update p f).get? p=some {cls:=.type "list",data:=.seq Z.toArray n'}:=by
  rw[ye f N (by rw[L] <;> rfl),L]
 refine I.write (x:=p) (e:=p) (by rw[h];trivial) (.inl Y) (λb u O q=>(yd _ _<|Zq O).trans q) ⟨_,e⟩ ?_;exact⟨M,Z,n',r,e⟩
def AR:V->V->V->Hp->(Hp->Prop)->Prop:=λo i v H Q=>∃p Z k j,o=.ref p/\i=.int k/\H p=some (.lst Z)/\ixN Z.length k=some j/\Q (upd H p<|.lst<|Z.set j v)
def set_list:Cc X AR:=by
 intro Z s U H o i v C P u Q I E F D h;obtain⟨p,B,k,j,rfl,rfl,N,S,q⟩:=h;cases E;obtain⟨t,rfl⟩:=F;obtain⟨J,n,r,L,A⟩:=I.lst N;obtain⟨G,z,R,O⟩:=ET S;have M:=r.length;have y:=Ww
 have T:Inv X Z U (upd H p<|.lst<|B.set j v) {s with heap:=s.heap.update p (Obj.mapSeq (·.setIfInBounds j u))}:=
  I.lstUpd N L (DV J n j u) (r.set D j) (by rw[zp];exact A) s.toks
 by_cases h0:0<=k
 .have hk:k.toNat=j:=by
   rw[seqIndex_of h0 O]at G;exact ZP G
  exact W.ki_setAt L h0 (by omega) (by rw[ZM,<-M];exact O) (by rw[hk];exact⟨_,T,q⟩)
 .have hk:(k+(J.toArray.size:Int)).toNat=j:=by
   rw[seqIndex_neg (by omega) R]at G;rw[ZM,<-M];exact ZP G
  exact W.ki_setBack L (by omega) (by rw[ZM,<-M];exact R) (by omega) (by rw[hk];exact⟨_,T,q⟩)
def MM(Z J:kB)(n:Nat):(sliceBounds Z J none n).1=((HT.sIx n 0 Z:Nat):Int)/\(sliceBounds Z J none n).2.1=((HT.sIx n n J:Nat):Int)/\(sliceBounds Z J none n).2.2=1:=by
 refine⟨?_,?_,Y⟩
 .cases Z with
  |none=>simp[sliceBounds,HT.sIx]
  |some i=>
   simp only[sliceBounds,HT.sIx,Option.getD_none,show(1:Int) > 0 by decide,if_true]
   by_cases h:i<0
   .simp only[h,if_true] <;> omega
   .simp only[h,if_false] <;> omega
 .cases J with
  |none=>simp[sliceBounds,HT.sIx]
  |some i=>
   simp only[sliceBounds,HT.sIx,Option.getD_none,show(1:Int) > 0 by decide,if_true]
   by_cases h:i<0
   .simp only[h,if_true] <;> omega
   .simp only[h,if_false] <;> omega
def RM(Z:kq)(J G:kB):slicePick Z.toArray J G none=((Z.drop<|HT.sIx Z.length 0 J).take<|HT.sIx Z.length Z.length G-HT.sIx Z.length 0 J).toArray:=by
 obtain⟨N,M,L⟩:=MM J G Z.toArray.size;unfold slicePick;rw[N,M,L];simp only[sliceRange_one,pick_run,ZM] <;> rfl
def C6(K:W.Frag):V->Option Int->Option Int->Hp->VK->Prop:=λx J G H Q=>∃a Z,x=.ref a/\SqL K H a Z/\∀p,H p=none->Q (.ref p) (upd H p<|.lst<|U4 Z J G)
def WK:SlR X (C6 X.K):=by
 intro M s U H x v S A G L sl Q I O F T R h;obtain⟨a,Z,rfl,E,q⟩:=h;cases O;obtain⟨B,r,N,D⟩:=I.list E;have J:=r.length;exists "list",_,slot_list_getitem.lookup,N.isList.typeIs;refine wpAny_getItem_list_slice N.isList F T R .none (by simp) ?_ (by rw[ZM] <;> omega);rw[RM,<-J];refine⟨.ref s.heap.objs.size,_,I.laid (t':=s.toks) (o:=.lst<|U4 Z G L) (λb C q=>ZD _ q) (ZF _) ?_,rfl,q _<|I.hok.fresh<|ZF _⟩;exact⟨ZZ (GY Z G L) D,_,0,(r.drop<|HT.sIx Z.length 0 G).take<|HT.sIx Z.length Z.length L-HT.sIx Z.length 0 G,ZW _ rfl⟩
def WZ:V->Bool
 |.non=>true
 |.bl _=>true
 |.int _=>true
 |.str _=>true
 |_=>false
def eqV:V->V->Bool
 |.non,.non=>true
 |.bl a,.bl b=>a==b
 |.bl a,.int b=>(if a then 1 else 0)==b
 |.int a,.bl b=>a==(if b then 1 else 0)
 |.int a,.int b=>a==b
 |.str a,.str b=>a==b
 |_,_=>false
def Su(G:RelV y u)(Z:RelV x v)(M:WZ y=true)(L:WZ x=true):SeqAt.EqAt A s u v (eqV y x):=by
 cases y with
 |non=>
  cases G
  cases x with
  |non=>cases Z;exact SeqAt.EqAt.same _
  |bl b=>cases Z;exact SeqAt.EqAt.none_bool b
  |int b=>obtain⟨t,rfl⟩:=Z;exact SeqAt.EqAt.none_int b t
  |str b=>obtain⟨t,rfl⟩:=Z;exact SeqAt.EqAt.none_str b t
  |_=>exact Zp (show false=true from L) Zg
 |bl a=>
  cases G
  cases x with
  |non=>cases Z;exact SeqAt.EqAt.bool_none a
  |bl b=>cases Z;exact SeqAt.EqAt.bool_bool a b
  |int b=>obtain⟨t,rfl⟩:=Z;exact SeqAt.EqAt.bool_int a b t
  |str b=>obtain⟨t,rfl⟩:=Z;exact SeqAt.EqAt.bool_str a b t
  |_=>exact Zp (show false=true from L) Zg
 |int a=>
  obtain⟨J,rfl⟩:=G
  cases x with
  |non=>cases Z;exact SeqAt.EqAt.int_none a J
  |bl b=>cases Z;exact SeqAt.EqAt.int_bool a J b
  |int b=>obtain⟨t,rfl⟩:=Z;exact SeqAt.EqAt.int_int a J b t
  |str b=>obtain⟨t,rfl⟩:=Z;exact SeqAt.EqAt.int_str a J b t
  |_=>exact Zp (show false=true from L) Zg
 |str a=>
  obtain⟨J,rfl⟩:=G
  cases x with
  |non=>cases Z;exact SeqAt.EqAt.str_none a J
  |bl b=>cases Z;exact SeqAt.EqAt.str_bool a J b
  |int b=>obtain⟨t,rfl⟩:=Z;exact SeqAt.EqAt.str_int a J b t
  |str b=>obtain⟨t,rfl⟩:=Z;exact SeqAt.EqAt.str_str a J b t
  |_=>exact Zp (show false=true from L) Zg
 |_=>exact Zp (show false=true from M) Zg
def eqU(x:V)(u:Value):Bool:=match u with
 |.none=>eqV .non x
 |.bool b=>eqV (.bl b) x
 |.int i _=>eqV (.int i) x
 |.str z _=>eqV (.str z) x
 |_=>false
def LY(r:RelV y u)(f:WZ y=true):eqU x u=eqV y x:=by
 cases y with
 |non=>cases r;rfl
 |bl b=>cases r;rfl
 |int i=>obtain⟨t,rfl⟩:=r;rfl
 |str z=>obtain⟨t,rfl⟩:=r;rfl
 |_=>exact Zp (show false=true from f) Zg
theorem Wb:∀{Z:kK}{J:kq},Vals Z J->Z.all WZ=true->J.any (eqU x)=Z.any λy=>eqV y x
 |_,_,.nil,_=>rfl
 |y::Z,u::J,.cons r t,f=>by
  rw[jm,ZX]at f;rw[vW,vW,LY r f.1,Wb t f.2]
theorem XM(L:RelV x v)(M:WZ x=true):∀{J:kK}{G:kq},Vals J G->J.all WZ=true->∀u∈G,SeqAt.EqAt A s u v<|eqU x u
 |_,_,.nil,_=>λu Z=>by cases Z
 |y::J,u::G,.cons r t,f=>λN Z=>by
  rw[jm,ZX]at f;rcases Zb.mp Z with rfl|Z
  .rw [LY r f.1];exact Su r L f.1 M
  .exact XM L M t f.2 N Z
def inV(x:V)(xs:kK):Bool:=xs.any λy=>eqV y x
def rIn(K:W.Frag)(neg:Bool):R2:=λx y H Q=>∃p Z,y=.ref p/\(SqL K H p Z\/SqT K H p Z)/\WZ x=true/\Z.all WZ=true/\Q (.bl<|if neg then !inV x Z else inV x Z) H
def Uo:OpR X (compareOp .In) (rIn X.K false):=by
 intro M s U H x y v u Q I L O h;obtain⟨p,R,rfl,Z,N,J,q⟩:=h;cases O;rcases Z with Z|Z
 .obtain ⟨its,r,pl,hz⟩:=I.list Z
  refine SeqAt.in_listAt (eqU x) pl.isList (λw G=>XM L N r J w<|by simpa using G) ⟨.bl _,H,I,rfl,?_⟩;rw[show its.toArray.any (eqU x)=its.any (eqU x) by simp,Wb r J];exact q
 .obtain ⟨its,r,pl,hz⟩:=I.tuple Z
  refine SeqAt.in_tupleAt (eqU x) pl (λw G=>XM L N r J w<|by simpa using G) ⟨.bl _,H,I,rfl,?_⟩;rw[show its.toArray.any (eqU x)=its.any (eqU x) by simp,Wb r J];exact q
def JU:OpR X (compareOp .NotIn) (rIn X.K true):=by
 intro M s U H x y v u Q I L O h;obtain⟨p,R,rfl,Z,N,J,q⟩:=h;cases O;rcases Z with Z|Z
 .obtain ⟨its,r,pl,hz⟩:=I.list Z
  refine SeqAt.notIn_listAt (eqU x) pl.isList (λw G=>XM L N r J w<|by simpa using G) ⟨.bl _,H,I,rfl,?_⟩;rw[show its.toArray.any (eqU x)=its.any (eqU x) by simp,Wb r J];exact q
 .obtain ⟨its,r,pl,hz⟩:=I.tuple Z
  refine SeqAt.notIn_tupleAt (eqU x) pl (λw G=>XM L N r J w<|by simpa using G) ⟨.bl _,H,I,rfl,?_⟩;rw[show its.toArray.any (eqU x)=its.any (eqU x) by simp,Wb r J];exact q
def Yo:Jr X (.builtin "len") (λG H Q=>∃p ys,G=[.ref p]/\(SqL X.K H p ys\/SqT X.K H p ys)/\Q (.int ys.length) H):=by
 intro L s U H G N Q I r h;obtain⟨p,ys,rfl,J,q⟩:=h;obtain⟨u,rfl,M⟩:=vals1 r;cases M;have O:=Ww;rcases J with J|J
 .obtain ⟨its,r',pl,hz⟩:=I.list J
  have Z:=r'.length;exact Calls.call_len_list pl.isList (by simp only[ZM] <;> omega) ⟨.int ys.length,H,I.tok _,⟨s.toks+1,by rw[ZM,Z]⟩,q⟩
 .obtain ⟨its,r',pl,hz⟩:=I.tuple J
  have Z:=r'.length;exact len_tuple pl (by simp only[ZM] <;> omega) ⟨.int ys.length,H,I.tok _,⟨s.toks+1,by rw[ZM,Z]⟩,q⟩
def U5:Jr X (.builtin "len") (λZ H Q=>∃z,Z=[.str z]/\z.length<=sizeLine/\Q (.int z.length) H):=by
 intro J s U H Z G Q I r h;obtain⟨z,rfl,L,q⟩:=h;obtain⟨u,rfl,t,rfl⟩:=vals1 r;have M:=Ww;exact len_str (by omega) ⟨.int z.length,H,I.tok _,⟨_,Y⟩,q⟩
def JB:Jr X (.type "list") (λA H Q=>∃p ys,A=[.ref p]/\(SqL X.K H p ys\/SqT X.K H p ys)/\∀l,H l=none->Q (.ref l) (upd H l<|.lst ys)):=by
 intro M s U H A P Q I r h;obtain⟨p,ys,rfl,R,q⟩:=h;obtain⟨u,rfl,C⟩:=vals1 r;cases C;have B:∀(Z:kq),Vals ys Z->ys.length<=sizeLine->∀(J:Heap)(L:Nat),(∀b S,s.heap.get? b=some S->J.get? b=some S)->
   J.get? s.heap.objs.size=some {cls:=.type "list",dict:=none,data:=.seq Z.toArray L,slots:= #[]}->EP X M U Q (.ref s.heap.objs.size) {s with heap:=J}:=λZ G O J L N e=>
  ⟨.ref s.heap.objs.size,_,I.laid (t':=s.toks) N (ZF _) (show VN X.prog X.w _ J _ (.lst ys)from⟨O,Z,L,G,e⟩),rfl,q _<|I.hok.fresh<|ZF _⟩
 rcases R with R|R
 .obtain ⟨Z,G,pl,O⟩:=I.list R
  have T:=G.length;obtain⟨o,D,F,n,E⟩:=pl.isList;exact call_list_seq p (.inl Y) D F E (λJ L N e=>B Z G O J L N e) (by simp only[ZM] <;> omega)
 .obtain ⟨Z,G,pl,O⟩:=I.tuple R
  have T:=G.length;obtain⟨o,D,F,n,E⟩:=pl;exact call_list_seq p (.inr Y) D F E (λJ L N e=>B Z G O J L N e) (by simp only[ZM] <;> omega)
def V0:Jr X (.type "tuple") (λL H Q=>∃p ys,L=[.ref p]/\((SqL X.K H p ys/\∀l,H l=none->Q (.ref l) (upd H l<|.tup ys))\/(SqT X.K H p ys/\Q (.ref p) H))):=by
 intro Z s U H L B Q I r h;obtain⟨p,ys,rfl,h⟩:=h;obtain⟨u,rfl,O⟩:=vals1 r;cases O;rcases h with⟨G,q⟩|⟨G,q⟩
 .obtain ⟨its,r',pl,hz⟩:=I.list G
  have M:=r'.length;refine call_tuple_list pl.isList (λJ R=>?_) (by simp only[ZM] <;> omega);have N:Inv X Z U H {s with heap:=J}:=I.kept (t':=s.toks) R
  have T:Inv X Z U (upd H J.objs.size<|.tup ys) {s with heap:=J.push {cls:=.type "tuple",data:=.seq its.toArray}}:=
   N.laid (t':=s.toks) (λb o e=>ZD _ e) (ZF _) (show VN X.prog X.w _ _ _ (.tup ys)from⟨hz,its,r',GG.new _ _⟩)
  exact⟨.ref J.objs.size,_,T,Y,q _<|N.hok.fresh<|ZF _⟩
 .obtain ⟨its,r',pl,hz⟩:=I.tuple G
  exact call_tuple_same pl ⟨.ref p,H,I,Y,q⟩
def tyV(K:W.Frag)(T:String)(x:V)(H:Hp):Prop:=match x with
 |.str _=>T="str"
 |.int _=>T="int"
 |.ref p=>(T="list" /\∃xs,SqL K H p xs)\/(T="tuple" /\∃o,K.lookup p=some o/\o.cls=.type "tuple" /\o.dict=none) \/
   (T="dict" /\((∃kvs,H p=some (.dK kvs)) \/ ∃kvs,H p=some (.dT kvs)))\/(T="set" /\∃S n,H p=some (.set S n))
 |_=>False
def Fx(I:Inv X N U H s)(r:RelV x v)(ty:tyV X.K T x H):
  s.TypeIs v T/\∀a,v=.ref a->∃O,s.heap.get? a=some O/\O.dict=none:=by
 cases x with
 |str z=>
  obtain⟨t,rfl⟩:=r;cases(show T="str" from ty);exact⟨typeIs_str s z t,λ_ e=>nomatch e⟩
 |int i=>
  obtain⟨t,rfl⟩:=r;cases(show T="int" from ty);exact⟨typeIs_int s i t,λ_ e=>nomatch e⟩
 |ref p=>
  cases r;rcases ty with⟨rfl,D,R⟩|⟨rfl,o,Z,B,L⟩|⟨rfl,Z⟩|⟨rfl,S,n,Z⟩
  .obtain ⟨its,_,pl,_⟩:=I.list R
   refine⟨pl.isList.typeIs,λa e=>?_⟩;cases e;obtain⟨o,n,e,c,L,_⟩:=pl;exact⟨o,e,L⟩
  .refine ⟨⟨o,I.kIn p o Z,B⟩,λa e=>?_⟩
   cases e;exact⟨o,I.kIn _ o Z,L⟩
  .have z:∃o,s.heap.get? p=some o/\o.ExactDict:=by
    rcases Z with⟨G,Z⟩|⟨G,Z⟩
    .obtain ⟨_,_,_,_,o,_,_,e,J,_⟩:=I.hok p _ Z
     exact⟨o,e,J⟩
    .obtain ⟨_,_,_,_,o,_,_,e,J,_⟩:=I.hok p _ Z
     exact⟨o,e,J⟩
   obtain⟨o,e,J⟩:=z;refine⟨⟨o,e,J.1⟩,λa M=>?_⟩;cases M;exact⟨o,e,J.2.1⟩
  .obtain ⟨o,_,_,_,e,J,_⟩:=I.hok p _ Z
   refine⟨⟨o,e,J.1⟩,λa M=>?_⟩;cases M;exact⟨o,e,J.2.1⟩
 |_=>exact False.elim ty
def Co(K:W.Frag)(T:String)(r:V->List V->Hp->VK->Prop)(to:TE):TE:=λU H Q=>to U H λx Z=>tyV K T x Z/\r x [] Z Q
def tBM(K:W.Frag)(T:String)(r:V->List V->Hp->VK->Prop)(to:TE)(t:TA):TE:=λU H Q=>to U H λx Z=>tyV K T x Z/\t U Z λJ G=>r x J G Q
variable{T id:String}
def KU(B:PlainAttrs T)(slot:Slot T name id)(L:typeOf (.builtin id)=pure (.type "method_descriptor"))(E:MtR X id r)(D:PE X o to)(G:attributeBase o name X.env (eval o X.env)=eval o X.env:=by rfl)(J:(apos.endLine==cpos.line)=true:=by rfl):PE X (.Call (.Attribute o name apos) [] [] cpos) (Co X.K T r to):=by
 intro Z s U H Q I h;refine wpAny_Call_method0_late G J<|thn (D Z s U H _ I h) λv O ⟨x,S,N,M,ty,R⟩=>?_;obtain⟨A,F⟩:=Fx N M ty;exact⟨T,id,B,slot,L,A,F,Calls.callWith_builtin Y (PySem.evalArgs_none<|E Z O U S x [] v [] Q N M .nil R)⟩
def Jm(y:PlainAttrs T)(slot:Slot T name id)(O:typeOf (.builtin id)=pure (.type "method_descriptor"))(m:MtR X id r)(q:PE X o to)(g:PA X (e::M) t)(L:attributeBase o name X.env (eval o X.env)=eval o X.env:=by rfl)(N:((backTo cpos<|starEach (e::M) X.env).all (λx=>!x.1) && (backToKw cpos<|keywordEach [] X.env).all (λx=>x.1.isSome)
   && decide ((e::M).length+([]:List Keyword).length+(if([]:List Keyword).isEmpty then 0 else 1)<30))=true:=by rfl)(G:(apos.endLine==cpos.line)=true:=by rfl)(z:starEach (e::M) X.env=(false,eval e X.env)::starEach M X.env:=by rfl)(J:(backTo cpos<|starEach M X.env).any (·.1)=false:=by rfl):
  PE X (.Call (.Attribute o name apos) (e::M) [] cpos) (tBM X.K T r to t):=by
 intro Z s U H Q I h;refine wpAny_Call_method_late L N G Y (thn (q Z s U H _ I h) λv S ⟨x,f,D,R,ty,j⟩=>?_);obtain⟨p,k⟩:=Fx D R ty;exists T,id,y,slot,O,p,k;have B:=g cpos Z S U f _ D j;rw[z]at B |-;refine Calls.callWith_builtin (by show(false || (backTo cpos<|starEach M X.env).any (·.1))=false;rw[J] <;> rfl)<|Calls.evalArgs_plain ?_;exact thn B λF A ⟨E,d,c,C,P⟩=>m Z A U d x E v F Q c R C P
end
def MtM(X:Cx)(id:String)(r:V->List V->Hp->VK->Prop):Prop:=
 ∀(Z:kh)(s:Shared)(U:St)(H:Hp)(x:V)(J:kK)(v:Value)(G:kq)(Q:VK),Inv X Z U H s->RelV x v->Vals J G->r x J H Q->
  wpAny (model X.prog X.w) X.A (call (.builtin id) (v::G)) (EP X Z U Q) X.xe s
theorem Vals.one:∀{x:V}{Z:kq},Vals [x] Z->∃u,Z=[u]/\RelV x u
 |_,_,.cons r .nil=>⟨_,rfl,r⟩
theorem Vals.zero:∀{Z:kq},Vals [] Z->Z=[]
 |_,.nil=>rfl
theorem Vals.rep(h:Vals Z J):∀k:Nat,Vals (List.replicate k Z).flatten (List.replicate k J).flatten
 |0=>.nil
 |k+1=>by
  rw[yi,yi,yO,yO];exact Vals.append h<|Vals.rep h k
theorem foldl_rep(Z:kq):∀(k:Nat)(J:kq),
  List.foldl (λL G=>L++ G) J.toArray (List.replicate k Z.toArray)=(J++ (List.replicate k Z).flatten).toArray
 |0,J=>by simp
 |k+1,J=>by
  have e:J.toArray++ Z.toArray=(J++ Z).toArray:=by simp
  have M:(J++ Z)++ (List.replicate k Z).flatten=J++ (List.replicate (k+1) Z).flatten:=by
   rw[yi,yO,yP]
  rw[<-M,<-foldl_rep Z k (J++ Z),<-e,yi,y9]
section
def Inv.lset{J its':kq}(I:Inv X Z U H s)(R:H l=some (.lst T))(e:s.heap.get? l=some {cls:=.type "list",data:=.seq J.toArray n})(N:f J.toArray=its'.toArray)(L:Vals ys its')(G:ys.length<=sizeLine):
  Inv X Z U (upd H l<|.lst ys) {s with heap:=s.heap.update l<|Obj.mapSeq f,toks:=B}:=by
 have q:=PySem.IsL.update e f;rw[N]at q;refine I.write (x:=l) (e:=l) (by rw[R];exact trivial) (.inl Y) (λD u O M=>(yd s.heap (Obj.mapSeq f)<|Zq O).trans M) ⟨_,q⟩ ?_;exact⟨G,its',_,L,q⟩
def Inv.lnew(I:Inv X Z U H s)(L:Vals ys J)(G:ys.length<=sizeLine):
  Inv X Z U (upd H s.heap.objs.size<|.lst ys) {s with heap:=s.heap.push {cls:=.type "list",data:=.seq J.toArray},toks:=t'}:=
 I.laid (λ_ _ q=>ZD _ q) (ZF _) ⟨G,J,0,L,ZW _ rfl⟩
def Inv.fresh(I:Inv X Z U H s):H s.heap.objs.size=none:=I.hok.fresh<|ZF _
def Inv.lstM(I:Inv X G U H s)(L:H l=some (.lst J)):J.length<=sizeLine/\∃(Z:kq)(n:Nat),Vals J Z/\J.length=Z.length/\s.heap.get? l=some {cls:=.type "list",data:=.seq Z.toArray n}:=by
 obtain⟨z,Z,n,r,e⟩:=I.hok l _ L;exact⟨z,Z,n,r,r.length,e⟩
def Nj(h:n<=sizeLine):Builtin.List.listTooLong n=false:=by
 unfold Builtin.List.listTooLong;exact Zw<|by omega
end
section
def OV:V->List V->Hp->VK->Prop:=λx J H Q=>∃l Z y,x=.ref l/\J=[y]/\H l=some (.lst Z)/\Z.length<sizeLine/\Q .non (upd H l<|.lst<|Z++[y])
def VY:MtM X "list.append" OV:=by
 intro J s U H x R v T Q I L M h;obtain⟨l,O,y,rfl,rfl,G,B,q⟩:=h;cases L;obtain⟨u,rfl,N⟩:=M.one;obtain⟨z,Z,n,r,D,e⟩:=I.lstM G;refine vp F.slot_list_append ⟨_,e,Y⟩ F.entry_list_append (F.args_list_append_2 _ _) (PySem.list_append l Z.toArray n u (by rw[ZM];omega)) ⟨e,?_⟩;refine⟨.non,_,I.lset (its':=Z++[u]) G e (by simp) (r.append<|.cons N .nil) ?_,rfl,q⟩;rw[ZJ,ze];omega
def Qq:V->List V->Hp->VK->Prop:=λx J H Q=>∃l Z,x=.ref l/\J=[]/\H l=some (.lst Z)/\Q .non (upd H l<|.lst [])
def Kw:MtM X "list.clear" Qq:=by
 intro G s U H x R v T Q I M N h;obtain⟨l,O,rfl,rfl,L,q⟩:=h;cases M;have J:=N.zero;subst J;obtain⟨z,Z,n,r,B,e⟩:=I.lstM L;refine vp F.slot_list_clear ⟨_,e,Y⟩ F.entry_list_clear (F.args_list_clear_1 _) (AutoSeq1.list_clear_list_0 l Z.toArray n (by rw[ZM];omega)) ⟨e,?_⟩;exact⟨.non,_,I.lset (its':=[]) (ys:=[]) L e Y .nil (Za _),Y,q⟩
def zA:R2:=λx y H Q=>∃l b J Z,x=.ref l/\y=.ref b/\H l=some (.lst J)/\H b=some (.lst Z)/\J.length+Z.length<=sizeLine/\∀p,H p=none->Q (.ref p) (upd H p<|.lst<|J++ Z)
def Mi:OpR X (binaryOp .Add) zA:=by
 intro G s U H x y v u Q I M L h;obtain⟨l,b,A,E,rfl,rfl,R,T,C,q⟩:=h;cases M;cases L;obtain⟨z,J,n,r,P,e⟩:=I.lstM R;obtain⟨F,Z,S,N,O,D⟩:=I.lstM T;refine PySem.P.add_list e D ?_ (by rw[ZM,ZM];omega);have B:J.toArray++ Z.toArray=(J++ Z).toArray:=by simp
 rw[B];exact⟨.ref _,_,I.lnew (t':=s.toks) (r.append N) (by rw[ZJ];omega),Y,q _ I.fresh⟩
def C7:R2:=λx y H Q=>∃l k Z,x=.ref l/\y=.int k/\H l=some (.lst Z)/\ -(2 ^ 63)<=k/\k<2 ^ 63/\Z.length*k.toNat<=sizeLine/\
 ∀p,H p=none->Q (.ref p) (upd H p<|.lst (List.replicate k.toNat Z).flatten)
def len_rep(Z:List α)(k:Nat):(List.replicate k Z).flatten.length=k*Z.length:=by
 induction k with
 |zero=>simp
 |succ k ih=>rw[yi,yO,ZJ,ih,vg,Nat.add_comm]
def KY:OpR X (binaryOp .Mult) C7:=by
 intro B s U H x y v u Q I S A h;obtain⟨l,k,c,rfl,rfl,P,g,j,D,q⟩:=h;cases S;obtain⟨t,rfl⟩:=A;obtain⟨z,Z,n,r,C,e⟩:=I.lstM P;have L:Z.toArray.size*k.toNat<=sizeLine:=by rw[ZM,<-C];exact D
 have N:¬Z.toArray.size*k.toNat > (2 ^ 63-1) / 8:=by
  have:(sizeLine:Nat)<=(2 ^ 63-1) / 8:=by decide
  omega
 have M:¬(!Builtin.List.listFitsIndex k)=true:=by
  rw[fitsIndex_both g j];exact Zg
 have J:¬Builtin.List.listTooLong (Z.toArray.size*k.toNat)=true:=by
  rw[Nj L];exact Zg
 have G:List.foldl (λR O=>R++ O) #[] (List.replicate (if Z.toArray.isEmpty=true then 0 else k.toNat) Z.toArray)=(List.replicate k.toNat Z).flatten.toArray:=by
  have p:∀m:Nat,List.foldl (λR O=>R++ O) #[] (List.replicate m Z.toArray)=(List.replicate m Z).flatten.toArray:=λm=>by
   have:=foldl_rep Z m [];rw[List.nil_append]at this;exact this
  rw[p]
  cases Z with
  |nil=>simp
  |cons a d=>rw[Zo (by simp)]
 refine wpAny_binaryOp_repeat_ref (T:="list") (U:="int") (by decide) ⟨_,e,Y⟩ (λE=>typeIs_int E k t) noFill_list_mul F.fills_int_mul jn repeat_list F.slot_int_index.lookup
  (vp jn (typeIs_int s k t) F.entry_int_rmul (F.args_int_rmul_2 _ _) (int___rmul___int_list k t l Z.toArray n)
   ⟨e,rfl,⟨_,e,rfl⟩,vp F.slot_list_mul ⟨_,e,rfl⟩ F.entry_list_mul (F.args_list_mul_2 _ _) (AutoListH.list___mul___list_int_3 l Z.toArray n k t M N J) ⟨e,?_⟩⟩)
 rw[G];exact⟨.ref _,_,I.lnew (t':=s.toks) (r.rep k.toNat) (by rw[len_rep,Nat.mul_comm];exact D),Y,q _ I.fresh⟩
end
section
set_option maxRecDepth 100000 in
end
section
variable{κ:Type}[DecidableEq κ]
def VD(kvs:List (κ×V))(k:κ):kO:=(kvs.find? λZ=>decide<|Z.1=k).map (·.2)
def putK(kvs:List (κ×V))(k:κ)(v:V):List (κ×V):=
 if(kvs.any λZ=>decide<|Z.1=k)=true then kvs.map (λZ=>if Z.1=k then(Z.1,v)else Z)else kvs++[(k,v)]
def JC{p:κ×V}(e:p.1=k):VD (p::r) k=some p.2:=by simp[VD,zo,e]
def JN{p:κ×V}(e:¬p.1=k):VD (p::r) k=VD r k:=by simp[VD,zo,e]
theorem Uj(k:κ):∀Z:List (κ×V),(Z.any λJ=>decide<|J.1=k)=(VD Z k).isSome
 |[]=>rfl
 |p::r=>by
  rw[vW]
  by_cases e:p.1=k
  .simp only[JC e,decide_eq_true e,Bool.true_or,Option.isSome_some]
  .rw [JN e,Zw e,Bool.false_or];exact Uj k r
theorem NJ(k j:κ)(y:V):∀Z:List (κ×V),VD (Z.map λJ=>if J.1=k then(J.1,y)else J) j=(VD Z j).map λx=>if j=k then y else x
 |[]=>rfl
 |p::r=>by
  have ih:=NJ k j y r;rw[ZT]
  by_cases h:p.1=k
  .rw [Zn h]
   by_cases e:p.1=j
   .rw [JC (p:=(p.1,y)) e,JC e,jc,Zn (e.symm.trans h)]
   .rw [JN (p:=(p.1,y)) e,JN e,ih]
  .rw [Zo h]
   by_cases e:p.1=j
   .rw [JC (p:=p) e,JC e,jc,Zo (λz=>h<|e.trans z)]
   .rw [JN (p:=p) e,JN e,ih]
theorem RS(k j:κ)(y:V):∀Z:List (κ×V),VD Z k=none->VD (Z++[(k,y)]) j=if j=k then some y else VD Z j
 |[],_=>by
  by_cases e:k=j
  .rw [Zn e.symm];exact JC (p:=(k,y)) e
  .rw [Zo (λz=>e z.symm)];exact JN (p:=(k,y)) e
 |p::r,hn=>by
  rw[List.cons_append];have J:¬p.1=k:=λz=>by rw[JC z]at hn;cases hn
  rw[JN J]at hn;have ih:=RS k j y r hn
  by_cases e:p.1=j
  .rw [JC e,JC e,Zo (λz=>J<|e.trans z)]
  .rw [JN e,JN e,ih]
def UJ(Z:List (κ×V))(k j:κ)(y:V):VD (putK Z k y) j=if j=k then some y else VD Z j:=by
 unfold putK
 by_cases a:(Z.any λJ=>decide<|J.1=k)=true
 .rw [Zn a,NJ]
  rw[Uj]at a
  by_cases e:j=k
  .obtain ⟨x,hx⟩:=vU.mp a
   rw[Zn e,e,hx,jc,Zn rfl]
  .rw [Zo e]
   cases VD Z j with
   |none=>rfl
   |some x=>rw[jc,Zo e]
 .rw [Zo a]
  refine RS k j y Z ?_;rw[Uj]at a
  cases q:VD Z k with
  |none=>rfl
  |some x=>rw[q]at a;exact(a rfl).elim
def V9(Z:List (κ×V))(k:κ)(v:V):(putK Z k v).length<=Z.length+1:=by
 unfold putK
 split
 .rw [ZA];omega
 .rw [ZJ,Zd,List.length_nil];omega
def UO{Z:List (κ×V)}(v:V)(h:VD Z k=none):putK Z k v=Z++[(k,v)]:=by
 unfold putK;rw[Uj,h];exact Zo<|by decide
def US.isSome_eq(r:US o u):o.isSome=u.isSome:=by
 cases o with
 |none=>cases u with
  |none=>rfl
  |some _=>exact(show False from r).elim
 |some _=>cases u with
  |none=>exact(show False from r).elim
  |some _=>rfl
def US.getD(r:US o u)(Z:RelV d d'):RelV (o.getD d) (u.getD d'):=by
 cases o with
 |none=>cases u with
  |none=>exact Z
  |some _=>exact(show False from r).elim
 |some _=>cases u with
  |none=>exact(show False from r).elim
  |some _=>exact r
def KV.val(r:KV J L)(k:κ):US (VD J k) (valueAt L k):=by
 unfold KV at r
 induction r with
 |nil=>exact True.intro
 | @cons p q N Z h t ih=>
  obtain⟨G,M⟩:=h
  by_cases e:p.1=k
  .have e':q.1=k:=G.symm.trans e
   have b:valueAt (q::Z) k=some q.2:=by simp[valueAt,zo,e']
   rw[JC e,b];exact M
  .have e':¬q.1=k:=λz=>e<|G.trans z
   have b:valueAt (q::Z) k=valueAt Z k:=by simp[valueAt,zo,e']
   rw[JN e,b];exact ih
def KV.any(r:KV Z G)(k:κ):(Z.any λJ=>decide<|J.1=k)=G.any λJ=>decide (J.1=k):=by
 unfold KV at r
 induction r with
 |nil=>rfl
 |cons h t ih=>rw[vW,vW,ih,h.1]
def KV.repl(r:KV G L)(k:κ)(M:RelV y u):
  KV (G.map λZ=>if Z.1=k then(Z.1,y)else Z) (L.map λZ=>if Z.1=k then(Z.1,u)else Z):=by
 unfold KV at r |-
 induction r with
 |nil=>exact .nil
 | @cons p q R O h t ih=>
  rw[ZT,ZT];refine .cons ?_ ih;obtain⟨J,N⟩:=h
  by_cases e:p.1=k
  .rw [Zn e,Zn (J.symm.trans e)];exact⟨J,M⟩
  .rw [Zo e,Zo (λz=>e<|J.trans z)];exact⟨J,N⟩
def KV.put(r:KV Z J)(k:κ)(G:RelV y u):KV (putK Z k y) (stored J k u):=by
 unfold putK stored;rw[r.any k]
 by_cases e:(J.any λL=>decide<|L.1=k)=true
 .rw [Zn e,Zn e];exact r.repl k G
 .rw [Zo e,Zo e];exact Paired.snoc r ⟨Y,G⟩
def KV.keys{Z:List (κ×V)}(r:KV Z J):Z.map (·.1)=J.map (·.1):=by
 unfold KV at r
 induction r with
 |nil=>rfl
 |cons h t ih=>rw[ZT,ZT,ih,h.1]
def KV.length(r:KV Z J):Z.length=J.length:=Paired.length r
end
def WW(r:RelV (kV k) u):(VC P w).is k u=true:=by
 cases k with
 |inl i=>obtain⟨t,e⟩:=(show ∃t,u=Value.int i t from r);subst e;exact Nm P w i t
 |inr x=>obtain⟨t,e⟩:=(show ∃t,u=Value.str x t from r);subst e;exact Nl P w x t
theorem Re:∀{Z:List Key}{J:kq},Vals (Z.map kV) J->ItemsAre (VC P w) Z J
 |[],_,r=>by rw[yW]at r;cases r;exact .nil
 |k::Z,_,r=>by
  rw[ZT]at r
  cases r with
  |cons h t=>exact .cons (WW h)<|Re t
abbrev KT(H:Hp):List (List Key×V)->List (List Key×Addr×Value)->Prop:=Paired λp q=>p.1=q.1/\H q.2.1=some (.tup (p.1.map kV))/\RelV p.2 q.2.2
def KT.val(r:KT H J L)(k:List Key):US (VD J k) ((atKey L k).map (·.2)):=by
 induction r with
 |nil=>exact True.intro
 | @cons p q N Z h t ih=>
  obtain⟨G,_,M⟩:=h
  by_cases e:p.1=k
  .have e':q.1=k:=G.symm.trans e
   have b:atKey (q::Z) k=some q.2:=by simp[atKey,zo,e']
   rw[JC e,b];exact M
  .have e':¬q.1=k:=λz=>e<|G.trans z
   have b:atKey (q::Z) k=atKey Z k:=by simp[atKey,zo,e']
   rw[JN e,b];exact ih
def KT.repl(r:KT H J M)(k:List Key)(N:RelV y u):
  KT H (J.map λG=>if G.1=k then(G.1,y)else G) (M.map<|putAt k u):=by
 induction r with
 |nil=>exact .nil
 | @cons p q T R h t ih=>
  rw[ZT,ZT];refine .cons ?_ ih;obtain⟨Z,L,O⟩:=h;unfold putAt
  by_cases e:p.1=k
  .rw [Zn e,Zn (Z.symm.trans e)];exact⟨Z,L,N⟩
  .rw [Zo e,Zo (λz=>e<|Z.trans z)];exact⟨Z,L,O⟩
def KT.put(r:KT H Z J)(k:List Key)(M:H b=some (.tup<|k.map kV))(G:RelV y u):
  KT H (putK Z k y) (storedH J k b u):=by
 have e:(Z.any λL=>decide<|L.1=k)=(atKey J k).isSome:=by
  rw[Uj,(r.val k).isSome_eq,ju]
 unfold putK storedH;rw[e]
 by_cases q:(atKey J k).isSome=true
 .rw [Zn q,Zn q];exact r.repl k G
 .rw [Zo q,Zo q];exact Paired.snoc r ⟨Y,M,G⟩
def KT.keeps(r:KT H Z J)(G:∀b ys,H b=some (.tup ys)->L b=some (.tup ys)):KT L Z J:=
 Paired.mapP r λ_ _ z=>⟨z.1,G _ _ z.2.1,z.2.2⟩
section
def Px(Z:HOk P w H h)(e:Rd H a u):VN P w H h a u:=e.ok Z
def Xw(G:HOk P w H h)(e:Rd H a (.dK Z)):Z.length<=sizeLine/\(a==sysModules)=false/\∃J,KV Z J/\h.DictOf (VC P w) a J:=
 show VN P w H h a (.dK Z)from Px G e
def P9(G:HOk P w H h)(e:H a=some (.dK Z)):Z.length<=sizeLine/\(a==sysModules)=false/\∃J,KV Z J/\h.DictOf (VC P w) a J:=Xw G<|.inl e
def W4(G:HOk P w H h)(e:H a=some (.tup<|J.map kV)):(tupleKind<|VC P w).is h J a:=by
 obtain⟨_,Z,r,o,N,_,M,n,L⟩:=(show VN P w H h a (.tup<|J.map kV)from G a _ e);exact⟨o,Z.toArray,n,N,M,L,by simpa using Re r⟩
def RE(M:HOk P w H h)(e:Rd H a (.dT Z)):Z.length<=sizeLine/\(a==sysModules)=false/\
  ∃G,KT H Z G/\h.DictOfH (tupleKind<|VC P w) a G:=by
 obtain⟨z,y,G,r,o,E,F,D,B,T,R,O⟩:=(show VN P w H h a (.dT Z)from Px M e);refine⟨z,y,G,r,o,E,F,D,B,T,R,λx J=>?_,O⟩
 have L:∀{l:List (List Key×V)}{m:List (List Key×Addr×Value)},KT H l m->∀x∈m,(tupleKind<|VC P w).is h x.1 x.2.1:=by
  intro l m q
  induction q with
  |nil=>intro x J;exact nomatch J
  | @cons p q I A N t ih=>
   intro x J;rcases Zb.mp J with e|J
   .subst e
    exact W4 M (by rw[<-N.1];exact N.2.1)
   .exact ih x J
 exact L r x J
def CN(G:HOk P w H h)(e:H a=some (.dT Z)):Z.length<=sizeLine/\(a==sysModules)=false/\
  ∃J,KT H Z J/\h.DictOfH (tupleKind<|VC P w) a J:=RE G<|.inl e
end
def V2(H:Hp)(a:Addr)(y:V)(r:kO):Prop:=
 (∃Z k,Rd H a (.dK Z)/\y=kV k/\r=VD Z k) \/ ∃Z k b,Rd H a (.dT Z)/\y=.ref b/\H b=some (.tup<|k.map kV)/\r=VD Z k
def UH(H:Hp)(a:Addr)(y v:V)(H':Hp):Prop:=
 (∃Z k,H a=some (.dK Z)/\y=kV k/\Z.length<sizeLine/\H'=upd H a (.dK<|putK Z k v)) \/
 ∃Z k b,H a=some (.dT Z)/\y=.ref b/\H b=some (.tup<|k.map kV)/\Z.length<sizeLine/\H'=upd H a (.dT<|putK Z k v)
def V2.k{k:Key}(e:H a=some (.dK Z)):V2 H a (kV k) (VD Z k):=.inl ⟨Z,k,.inl e,rfl,rfl⟩
def V2.t{k:List Key}(e:H a=some (.dT Z))(J:H b=some (.tup<|k.map kV)):V2 H a (.ref b) (VD Z k):=.inr ⟨Z,k,b,.inl e,rfl,J,rfl⟩
def UH.k{k:Key}(e:H a=some (.dK Z))(J:Z.length<sizeLine):UH H a (kV k) v (upd H a<|.dK<|putK Z k v):=.inl ⟨Z,k,e,rfl,J,rfl⟩
def UH.t{k:List Key}(e:H a=some (.dT Z))(G:H b=some (.tup<|k.map kV))(J:Z.length<sizeLine):
  UH H a (.ref b) v (upd H a<|.dT<|putK Z k v):=.inr ⟨Z,k,b,e,rfl,G,J,rfl⟩
section
def Inv.big(I:Inv X Z U H s):sysModules<s.heap.objs.size:=by
 have h:mainGlobals<s.heap.objs.size:=(I.mod.glob.keeps I.bk).lt;exact Nat.lt_trans (by decide) h
def Ff(C:A.units+1<cLine)(I:Inv X L U H s)(g:V2 H a y (some v))(D:RelV y u)(h:∀G B,Inv X L U H B->RelV v G->Q G B):
  wpAny (model X.prog X.w) A (getItem (.ref a) u) Q E s:=by
 rcases g with⟨M,k,e,R,l⟩|⟨M,k,b,e,R,q,l⟩
 .subst R
  obtain⟨z,j,S,J,T⟩:=Xw I.hok e;obtain⟨G,N,Z⟩:=US.some_of (v:=v) (o:=valueAt S k) (by rw[l];exact J.val k);exact wpAny_getItem_of (WW D) T.mapOf N<|h G _ (I.tok _) Z
 .subst R
  cases(show u=Value.ref b from D);obtain⟨z,j,F,J,T⟩:=RE I.hok e;obtain⟨G,N,Z⟩:=US.some_of (v:=v) (o:=(atKey F k).map (·.2)) (by rw[l];exact J.val k);obtain⟨p,P,O⟩:=Zh.mp N;refine wpAny_getItem_heap (vq C) (W4 I.hok q) T P ?_;rw[O];exact h G _ (I.tok _) Z
def zP(T:A.units+1<cLine)(I:Inv X J U H s)(g:V2 H a y o)(R:RelV y u)(h:∀O,Inv X J U H O->Q (.bool o.isSome) O):
  wpAny (model X.prog X.w) A (compareOp .In u<|.ref a) Q E s:=by
 rcases g with⟨G,k,e,M,l⟩|⟨G,k,b,e,M,B,l⟩
 .subst M
  obtain⟨z,L,F,Z,N⟩:=Xw I.hok e;refine wpAny_in_of (WW R) L N.mapOf ?_;rw[<-(Z.val k).isSome_eq,<-l];exact h _<|I.tok _
 .subst M
  cases(show u=Value.ref b from R);obtain⟨z,L,D,Z,N⟩:=RE I.hok e;refine wpAny_in_heap (vq T) (W4 I.hok B) L N ?_;have q:=(Z.val k).isSome_eq;rw[ju]at q;rw[<-q,<-l];exact h _<|I.tok _
def Pc(T:A.units+1<cLine)(I:Inv X J U H s)(g:V2 H a y o)(R:RelV y u)(h:∀O,Inv X J U H O->Q (.bool<|!o.isSome) O):
  wpAny (model X.prog X.w) A (compareOp .NotIn u<|.ref a) Q E s:=by
 rcases g with⟨G,k,e,M,l⟩|⟨G,k,b,e,M,B,l⟩
 .subst M
  obtain⟨z,L,F,Z,N⟩:=Xw I.hok e;refine wpAny_notIn_of (WW R) L N.mapOf ?_;rw[<-(Z.val k).isSome_eq,<-l];exact h _<|I.tok _
 .subst M
  cases(show u=Value.ref b from R);obtain⟨z,L,D,Z,N⟩:=RE I.hok e;refine wpAny_notIn_heap (vq T) (W4 I.hok B) L N ?_;have q:=(Z.val k).isSome_eq;rw[ju]at q;rw[<-q,<-l];exact h _<|I.tok _
def Ei(I:Inv X Z U H s)(L:Mut (H a))(M:Heap.SameBut a s.heap G)(N:∃q,G.get? a=some q)(J:VN X.prog X.w (upd H a ob) G a ob):
  Inv X Z U (upd H a ob) {s with heap:=G,toks:=R}:=
 I.write (x:=a) (e:=a) L (.inl rfl) (λb q O z=>(M.2 b O).trans z) N J
def My(z:Z.length<=sizeLine)(L:(a==sysModules)=false)(J:KV Z G)(N:M.DictOf (VC P w) a G):
  VN P w O M a (.dK Z):=⟨z,L,G,J,N⟩
def Fe(f:A.units+1<cLine)(I:Inv X L U H s)(g:UH H a y v H')(C:RelV y u)(P:RelV v r)(h:∀S,Inv X L U H' S->Q () S):
  wpAny (model X.prog X.w) A (setItem (.ref a) u r) Q E s:=by
 rcases g with⟨J,k,e,B,l,D⟩|⟨J,k,b,e,B,m,l,D⟩
 .subst B D
  obtain⟨z,T,d,Z,F⟩:=P9 I.hok e;have N:d.length<=sizeLine:=by rw[<-Z.length];exact z
  have R:(putK J k v).length<=sizeLine:=by have:=V9 J k v;omega
  refine wpAny_setItem_pairs (hsz:=N) (WW C) F λj G O=>h _ ?_;have w:∃q,j.get? a=some q:=let⟨q,_,_,M,_⟩:=G;⟨q,M⟩
  exact Ei I (by rw[e];exact True.intro) O w<|My R T (Z.put k P) G
 .subst B D
  cases(show u=Value.ref b from C);obtain⟨z,T,p,Z,F⟩:=CN I.hok e;have N:p.length<=sizeLine:=by rw[<-Paired.length Z];exact z
  have R:(putK J k v).length<=sizeLine:=by have:=V9 J k v;omega
  refine wpAny_setItem_heap (hsz:=N) (vq f) (W4 I.hok m) F λj G O=>h _ ?_;obtain⟨q,es,ep,M,x,n,i,_,o⟩:=G;refine Ei I (by rw[e];exact True.intro) O ⟨q,M⟩ ⟨R,T,_,(Z.put k m P).keeps λc ys t=>?_,q,es,ep,M,x,n,i,o⟩;rw[Yc (V8 t e λz=>nomatch z)];exact t
end
def S5(i:Expr):Prop:=∀Z J,subscripted i false Z J=operate [Z,J] (getItem Z J)
def EA{T B:String}(F:typeLookup (.type T) "__getitem__"=pure (some<|.builtin B))(D:S5 slice)(h:wpAny (model prog w) A (eval value env) (λo L=>wpAny (model prog w) A (eval slice env) (λi Z=>Z.TypeIs o T/\wpAny (model prog w) A (getItem o i) Q E Z) E L) E s):
  wpAny (model prog w) A (eval (.Subscript value slice pos) env) Q E s:=by
 refine Subscript_<|Zl h (λo L O=>Zl O (λi Z J=>?_) λ_ _ x=>x) λ_ _ x=>x;obtain⟨R,J⟩:=J;unfold subscriptTail;refine Zj ?_;rw[getitemInPython_of_ne R.not_modules];refine Zj<|wpAny_specialOf R F ?_
 have M:wpAny (model prog w) A (subscripted slice false o i) (λr G=>wpAny (model prog w) A (letTemporaryGo value o r >>=λ_=>pure r) Q E G) E Z:=by
  rw[D o i];exact wpAny_operating (Zl J (λr G N=>Zj<|wpAny_letTemporaryGo<|Zk N) λ_ _ x=>x)
 first
  |exact Zk<|Zj M
  |exact Zj<|Zk<|Zj M
  |exact Zj M
def N4(I:Inv X J U H s)(g:V2 H a y o):s.TypeIs (.ref a) "dict":=by
 rcases g with⟨Z,k,e,_,_⟩|⟨Z,k,b,e,_,_,_⟩
 .obtain ⟨_,_,vs,_,dd⟩:=Xw I.hok e
  exact dd.typeIs
 .obtain ⟨_,_,xs,_,dd⟩:=RE I.hok e
  exact dd.typeIs
def Pp(td ty:TE):TE:=λU H Q=>td U H λx J=>ty U J λy Z=>Jb x λa=>∃v,V2 Z a y (some v)/\Q v Z
def Cm(ty td:TE):TE:=λU H Q=>ty U H λy J=>td U J λx Z=>Jb x λa=>∃o,V2 Z a y o/\Q (.bl o.isSome) Z
def L9(ty td:TE):TE:=λU H Q=>ty U H λy J=>td U J λx Z=>Jb x λa=>∃o,V2 Z a y o/\Q (.bl<|!o.isSome) Z
def AQ(td ty tv:TE):TS:=λD U H=>tv U H λv L=>td U L λx G=>ty U G λy J=>Jb x λa=>∃Z,UH J a y v Z/\D.nx U Z
section
def Ja(T:X.A.units+1<cLine)(D:PE X o td)(E:PE X i ty)(B:S5 i):PE X (.Subscript o i pos) (Pp td ty):=by
 intro Z s U H Q I h;refine EA PySem.F.slot_dict_getitem.lookup B<|thn (D Z s U H _ I h) λu M ⟨x,P,S,O,R⟩=>thn (E Z M U P _ S R) λt q ⟨y,C,L,N,J⟩=>?_;replace J:=Jb.old J;obtain⟨a,F,v,g,J⟩:=J;subst F;obtain rfl:u=Value.ref a:=O;exact⟨N4 L g,Ff T L g N λj z A G=>⟨v,C,A,G,J⟩⟩
def X5(R:X.A.units+1<cLine)(B:PE X i ty)(T:PE X o td):PC X .In i o (Cm ty td):=by
 intro Z s U H Q I h;refine thn (B Z s U H _ I h) λz G ⟨y,C,A,L,N⟩=>thn (T Z G U C _ A N) λu j ⟨x,S,F,M,J⟩=>?_;replace J:=Jb.old J;obtain⟨a,D,O,g,J⟩:=J;subst D;obtain rfl:u=Value.ref a:=M;exact zP R F g L λP E=>⟨.bl O.isSome,S,E,Y,J⟩
def Xh(R:X.A.units+1<cLine)(B:PE X i ty)(T:PE X o td):PC X .NotIn i o (L9 ty td):=by
 intro Z s U H Q I h;refine thn (B Z s U H _ I h) λz G ⟨y,C,A,L,N⟩=>thn (T Z G U C _ A N) λu j ⟨x,S,F,M,J⟩=>?_;replace J:=Jb.old J;obtain⟨a,D,O,g,J⟩:=J;subst D;obtain rfl:u=Value.ref a:=M;exact Pc R F g L λP E=>⟨.bl<|!O.isSome,S,E,rfl,J⟩
def V3(E:X.A.units+1<cLine)(A:PE X o td)(S:PE X i ty)(B:PE X value tv)(F:swapsWith value (some<|.Subscript o i pos') pos.line X.env=pure false):
  PS X (.Assign [.Subscript o i pos'] value pos) (AQ td ty tv):=by
 intro Z s U H D I h;refine wpAny_Assign_Subscript (thn (B Z s U H _ I h) λr L ⟨v,m,z,O,T⟩=>thn (A Z L U m _ z T) λu G ⟨x,t,j,N,R⟩=>thn (S Z G U t _ j R) λc p ⟨y,d,Q,M,J⟩=>?_) F;replace J:=Jb.old J;obtain⟨a,C,q,g,J⟩:=J;subst C;obtain rfl:u=Value.ref a:=N;exact Fe E Q g M O λk P=>⟨U,q,P,J⟩
end
def Le(h:Heap)(Z:sysModules<h.objs.size):VN P w H (h.push {cls:=.type "dict",data:=.dict #[]}) h.objs.size (.dK []):=
 ⟨Za _,beq_eq_false_iff_ne.mpr<|Zq<|Zc Z,[],.nil,Heap.DictOf.new h⟩
def La(h:Heap)(Z:sysModules<h.objs.size):VN P w H (h.push {cls:=.type "dict",data:=.dict #[]}) h.objs.size (.dT []):=
 ⟨Za _,beq_eq_false_iff_ne.mpr<|Zq<|Zc Z,[],.nil,_,#[],0,ZW _ rfl,⟨rfl,rfl,rfl⟩,rfl,rfl,vh⟩
def QO:TE:=λ_ H Q=>∀p,H p=none->Q (.ref p) (upd H p<|.dK [])
def QN:TE:=λ_ H Q=>∀p,H p=none->Q (.ref p) (upd H p<|.dT [])
section
def JE:PE X (.Dict [] [] pos) QO:=λZ s U H Q I h=>
 wpAny_Dict_empty ⟨.ref s.heap.objs.size,_,I.laid (a:=s.heap.objs.size) (o:=.dK []) (t':=s.toks) (λ_ _ q=>ZD _ q) (ZF _)<|Le s.heap I.big,rfl,h _<|I.hok.fresh<|ZF _⟩
def KL:PE X (.Dict [] [] pos) QN:=λZ s U H Q I h=>
 wpAny_Dict_empty ⟨.ref s.heap.objs.size,_,I.laid (a:=s.heap.objs.size) (o:=.dT []) (t':=s.toks) (λ_ _ q=>ZD _ q) (ZF _)<|La s.heap I.big,rfl,h _<|I.hok.fresh<|ZF _⟩
end
structure M1(X:Cx)(o:Expr)(m:Str)(apos:Pos)(e:Expr)(cpos:Pos):Prop where
 base:attributeBase o m X.env (eval o X.env)=eval o X.env
 few:((backTo cpos (starEach [e] X.env)).all (λx=>!x.1) && (backToKw cpos (keywordEach [] X.env)).all (λx=>x.1.isSome)
  && decide (([e]:List Expr).length+([]:List Keyword).length+(if([]:List Keyword).isEmpty then 0 else 1)<30))=true
 line:(apos.endLine==cpos.line)=true
 trees:backTo cpos (starEach [e] X.env)=[(false,eval e X.env)]
def IsD(H:Hp)(a:Addr):Prop:=(∃Z,Rd H a<|.dK Z) \/ ∃Z,Rd H a<|.dT Z
def Sa(I:Inv X M U H s)(d:IsD H a):
  s.TypeIs (.ref a) "dict" /\(∀b,Value.ref a=.ref b->∃Z,s.heap.get? b=some Z/\Z.dict=none)/\(a==sysModules)=false:=by
 rcases d with⟨J,e⟩|⟨J,e⟩
 .obtain ⟨_,hd,vs,_,dd⟩:=Xw I.hok e
  refine⟨dd.typeIs,λb q=>?_,hd⟩;cases q;obtain⟨Z,_,_,L,G,_⟩:=dd;exact⟨Z,L,G.2.1⟩
 .obtain ⟨_,hd,xs,_,dd⟩:=RE I.hok e
  refine⟨dd.typeIs,λb q=>?_,hd⟩;cases q;obtain⟨Z,_,_,L,G,_⟩:=dd;exact⟨Z,L,G.2.1⟩
section
def Sy(D:A.units+1<cLine)(I:Inv X J U H s)(g:V2 H a y o)(T:RelV y u)(h:∀O R,Inv X J U H R->RelV (o.getD .non) O->Q O R):
  wpAny (model X.prog X.w) A (call (.builtin "dict.get") [.ref a,u]) Q E s:=by
 rcases g with⟨L,k,e,N,l⟩|⟨L,k,b,e,N,F,l⟩
 .subst N
  obtain⟨z,M,S,Z,G⟩:=Xw I.hok e;refine call_meetsIn jd G.typeIs PySem.F.entry_dict_get (PySem.F.args_dict_get_2 _ _) (meets_dict_get (VC X.prog X.w) a (WW T) M) ⟨_,G.mapOf,h _ _ (I.tok _) ?_⟩;rw[l];exact(Z.val k).getD rfl
 .subst N
  cases(show u=Value.ref b from T);obtain⟨z,M,B,Z,G⟩:=RE I.hok e;refine call_meetsIn jd G.typeIs PySem.F.entry_dict_get (PySem.F.args_dict_get_2 _ _) (meetsH_dict_get (tupleKind<|VC X.prog X.w) a b M) ⟨vq D,k,B,W4 I.hok F,G,h _ _ (I.tok _) ?_⟩;rw[l];exact(Z.val k).getD rfl
end
def QP(td ty:TE):TE:=λU H Q=>td U H λx J=>Jb x λa=>IsD J a/\ty U J λy Z=>∃o,V2 Z a y o/\Q (o.getD .non) Z
section
def WR(D:X.A.units+1<cLine)(E:PE X o td)(F:PE X e ty)(m:M1 X o "get" apos e cpos):PE X (.Call (.Attribute o "get" apos) [e] [] cpos) (QP td ty):=by
 intro Z s U H Q I h;refine wpAny_Call_method m.base m.few m.line PySem.F.plainAttrs_dict jd PySem.F.type_dict_get<|thn (E Z s U H _ I h) λu O ⟨x,j,L,T,J⟩=>?_;replace J:=Jb.old J;obtain⟨a,A,d,J⟩:=J;subst A;obtain rfl:u=Value.ref a:=T;obtain⟨N,M,_⟩:=Sa L d;exists N,M;rw[m.trees];refine Calls.callWith_builtin Y (Calls.evalArgs_plain<|Calls.spliced_cons<|thn (F Z O U j _ L J) λp t ⟨y,P,C,R,k,g,B⟩=>Calls.spliced_nil ?_);exact Sy D C g R λz q S G=>⟨_,P,S,G,B⟩
end
end L2
namespace Att
open PySem PySem.W PySem.Calls PyProof.Rows
def Ga:∀(Z:List Int)(J:List Value),WellAll P h J (Z.map WData.int)->IntsAre J Z:=by
 intro Z
 induction Z with
 |nil=>
  intro J w;rw[yW]at w;cases w;exact .nil
 |cons n Z ih=>
  intro J w;rw[ZT]at w
  cases w with
  |cons a b=>
   cases a;exact .cons _ _<|ih _ b
def E8{l:OpenLaw}(I:l.most=some n)(J:l.row.toRowW.claim.pre args=true)(O:WellAll P h vals args):
  ∃a T Z,vals=[Value.ref a]/\args=[WData.list (Z.map WData.int)]/\h.get? a=some {cls:=.type "list",data:=.seq T.toArray}/\IntsAre T Z/\Z.length<=n:=by
 have R:WShape.hasAll [] args [.list .int]=true:=(pre_splitW J).1;have B:l.pre.holds [] {args:=args}=true:=(pre_splitW J).2;obtain⟨d,r,rfl,C,U⟩:=hasAllW_cons R;obtain rfl:=hasAllW_nil U;obtain⟨X,rfl,S⟩:=hasW_list C;obtain⟨Z,rfl⟩:=items_int S
 have G:Z.length<=n:=by
  unfold OpenLaw.pre at B
  have N:(WTm.not<|.lt (.lit<|.int (n:Int))<|.len<|.arg 0).holds [] {args:=[.list (Z.map .int)]}=true:=by
   have N:=(holds_andW B).1;rw[I]at N;exact N
  have M:=condW_of N<|w_not<|w_lt w_lit<|w_len_list<|w_arg rfl;rw[ZA]at M;refine vx λq=>?_;have F:(n:Int)<((Z.length:Nat):Int):=by omega
  first
   |(rw[decide_eq_true F]at M;exact Zp M<|by decide)
   |(simp at M;omega)
 cases O with
 |cons E D=>
  cases D
  cases E with
  |list A L=>exact⟨_,_,Z,Y,Y,A,Ga Z _ L,G⟩
def FE(l:OpenLaw)(args:List WData):l.row.toRowW.claim.post args (.bool true) args=true:=
 postW_of (r:=l.row.toRowW) (X:=(true==true))
  (show WShape.has [] (.bool true) .bool=true by first|rfl|decide|simp[WShape.has,WShape.arms,WShape.armsAll])
  (show(WTm.eq .res<|.lit<|.bool true).value [] {args:=args,res:=some<|.bool true,after:=args}=some (.bool<|true==true)from w_eq_bool (w_res rfl) w_lit) rfl
theorem attach_call{l:OpenLaw}(g:l.most=some n)(X:d.params.defaults=[])(call:∀(w:World)(J Z:Shared)(F S:Str->Option Value)(B:Addr)(o:Obj)(I A M:Value)(a:Addr)(N:List Value)(E:List Int),
   Ground q loose [] XP w J F S Z.heap->YP w Z.heap->
   Z.heap.get? B=some o->o.data=.func (docDef d.name d.params d.body d.scope I A M)->Z.heap.CodeRec A d.name->F d.name=some (.ref B)->
   Z.heap.get? a=some {cls:=.type "list",data:=.seq N.toArray}->IntsAre N E->E.length<=n->Z.gens= #[]->
   codeAny (model l.prog w) callerA (.call (.ref B) ⟨[.ref a],[]⟩) (λr D=>r=.ok (.ret<|.bool true)/\OldK Z.heap D.heap/\D.os=Z.os/\AllBare D.gens) Z):
  WalkO q loose XP YP l.row.toRowW d [] (λf N=>PySem.call f N):=by
 intro w J Z F S G Y B o I A M i kV m u P y C c args Q s O j z U p;obtain rfl:i=.none:=Dflts.none y X;obtain rfl:kV=.none:=Dflts.noKw y;obtain⟨a,N,E,rfl,rfl,R,L,T⟩:=E8 g O U;refine enter_call<|vc (call w J Z F S B o I A M a N E G Y m (fd_plain u) P C R L T c) λr D t=>?_;obtain⟨rfl,e,b,v⟩:=t;exact⟨.inl ⟨.bool true,.bool true,[],rfl,λ_=>rfl,.bool true,FE l _,λ_=>⟨List.Pairwise.nil,λ_ k=>(nomatch k)⟩⟩,e,b,v⟩
end Att
namespace L2
open PySem PySem.Spec PyProof.Rows
theorem RQ:∀{Z:kq}{J:kE},IntsAre Z J->Vals (J.map V.int) Z
 |_,_,.nil=>.nil
 |_,_,.cons n t h=>.cons ⟨t,rfl⟩<|RQ h
def S4(H:Hp):Prop:=∀b,H b=none \/ ∃o Z,H b=some (.frz o<|.lst Z)
def K0{K:W.Frag}(KX:K.In s₁.heap)(D:s₁.heap.Ns mainGlobals C)(J:s₁.heap.Ns builtinsNs mb)(y:∀x:Str,x≠"__name__" ->mb x=bootBuiltins x)(E:s₁.heap.NoLimit)(hg:s₁.gens= #[])(X:s₁.heap.get? a=some {cls:=.type "list",data:=.seq N.toArray})(l:IntsAre N U)(f:U.length<=sizeLine)(hr:VW k callerA)(F:∀base:Heap,K.In base->base.Ns mainGlobals C->Ym P w K C base CX k fa fd [x] sp)(M:∀(s:Shared)(u:Value),BindsTo s fd ⟨[u],[]⟩ [(x,u)])(j:∀H:Hp,S4 H->SqL K H a (U.map V.int)->sp [.ref a] H (λv _=>v=.bl true) λ_ _ _=>False)(t:∀H e G,CX [] H s₁ (λ_ _ _=>False) e G->False):
  codeAny (model P w) callerA (.call (.ref fa) ⟨[.ref a],[]⟩) (λr G=>r=.ok (.ret<|.bool true)/\OldK s₁.heap G.heap/\G.os=s₁.os/\AllBare G.gens) s₁:=by
 have c:=RQ l;have R:=l.length;have core:∀H:Hp,S4 H->SqL K H a (U.map V.int)->HOk P w H s₁.heap->(∀b,H b≠none->b=a)->(H a≠none->K.lookup a=none)->
   codeAny (model P w) callerA (.call (.ref fa) ⟨[.ref a],[]⟩) (λr G=>r=.ok (.ret<|.bool true)/\OldK s₁.heap G.heap/\G.os=s₁.os/\AllBare G.gens) s₁:=by
  intro H i hS B hA hK;have Z:∀{b:Addr}{o:Obj},s₁.heap.get? b=some o->H b=none->(Ms s₁.heap H).get? b=some o:=λe n=>LE e n
  have Q:∀{b:Addr}{o:Obj}{I:Array DictEntry}{S:Nat},s₁.heap.get? b=some o->o.data=.dict I S->H b=none:=λ{b o I S} e d=>by
   cases q:H b with
   |none=>rfl
   |some u=>
    have g:b=a:=hA b (by rw[q];simp);subst g;rw[X]at e;cases e;have d':Data.seq N.toArray _=Data.dict I S:=d;cases d'
  have L:∀{b:Addr}{m:Str->Option Value},s₁.heap.Ns b m->(Ms s₁.heap H).Ns b m:=λ{b m} ⟨o,I,S,e,d,r⟩=>⟨o,I,S,Z e<|Q e d,d,r⟩
  have A:K.In (Ms s₁.heap H):=λb o e=>Z (KX b o e) (by
   cases q:H b with
   |none=>rfl
   |some u=>
    have g:b=a:=hA b (by rw[q];simp);subst g;rw[hK (by rw[q];simp)]at e;cases e)
  have hM:Mod K C (Ms s₁.heap H):=⟨A,L D,⟨mb,L J,y⟩,let⟨mc,h1,h2⟩:=E;⟨mc,L h1,h2⟩⟩;have e0:D1 P w K C (Ms s₁.heap H) callerA [] s₁ H:=⟨rfl,hM,λb o e=>O3 e,yU<|FW _ _,trivial,λb J=>Zp (show b∈([]:kF)from J) (by simp),B,.of_eq hg⟩;refine vc ((F _ A<|L D).run callerA [] s₁ H ⟨[.ref a],[]⟩ [.ref a] [.ref a] _ _ hr e0 (M s₁<|.ref a) (.cons rfl .nil)<|j H i hS) λr G h=>?_
  cases r with
  |error e=>exact(t H e G h).elim
  |ok fl=>
   cases fl with
   |next=>exact False.elim h
   |brk=>exact False.elim h
   |cont=>exact False.elim h
   |ret u=>
    obtain⟨v,H',os,bare,p,T,r',q⟩:=h;have q':v=.bl true:=q;subst q';obtain rfl:u=Value.bool true:=r';refine⟨Y,OldK.of_keep λb o e=>?_,os,bare⟩
    cases q:H b with
    |none=>exact p.keep b o e q (by intro z;exact Zp (show b∈([]:kF)from z)<|by simp)<|by simp
    |some u=>
     rcases i b with z|⟨ob,xs,z⟩
     .rw [q]at z;cases z
     .have z2:=p.frzs b ob _ z
      obtain⟨e1,_⟩:=B b _ z;obtain⟨e2,_⟩:=T b _ z2;rw[e]at e1;cases e1;exact e2
 cases hk:K.lookup a with
 |some o=>
  have e:=KX a o hk;rw[X]at e;cases e;refine core (λ_=>none) (λ_=>.inl Y) (.inr ⟨_,N.toArray,_,hk,Y,Y,Y,by rw[ZM,R];exact f,by simpa using c⟩) (λb u z=>by have O:(none:Option HO)=some u:=z;cases O) (λb z=>Zp Y z) λz=>Zp Y z
 |none=>
  refine core (λb=>if b=a then some (.frz {cls:=.type "list",data:=.seq N.toArray}<|.lst<|U.map V.int)else none) (λb=>?_) (.inl<|.inr ⟨{cls:=.type "list",data:=.seq N.toArray},Zn rfl⟩) (λb u z=>?_) (λb z=>?_) λ_=>hk
  .by_cases J:b=a
   .exact .inr ⟨_,_,Zn J⟩
   .exact .inl (Zo J)
  .by_cases J:b=a
   .have O:=(Zn J).symm.trans z
    cases O;subst J;exact⟨X,by rw[ZA];exact f,N,_,c,X⟩
   .have O:=(Zo J).symm.trans z
    cases O
  .by_cases J:b=a
   .exact J
   .exact Zp (Zo J) z
theorem walk_of{l:W.OpenLaw}{K:Params->W.Frag}{CX:World->CXT}{sp:World->Sp}(Q:l.most=some n)(D:n<=sizeLine)(A:d.params.defaults=[])(P:VW k callerA)(t:∀(w:World)(h:Heap),YP w h->(K w.params).In h)(F:∀(w:World)(L:Str->Option Value)(R:Addr)(h:Heap),(K w.params).In h->h.Ns mainGlobals L->L d.name=some (.ref R)->
   ∃S:FuncData,(∀(s:Shared)(u:Value),BindsTo s S ⟨[u],[]⟩ [(x,u)])/\
    ∀base:Heap,(K w.params).In base->base.Ns mainGlobals L->Ym l.prog w (K w.params) L base (CX w) k R S [x] (sp w))(B:∀(w:World)(H:Hp)(a:Addr)(O:kE),O.length<=n->S4 H->SqL (K w.params) H a (O.map V.int)->sp w [.ref a] H (λv _=>v=.bl true) λ_ _ _=>False)(I:∀(w:World)(H:Hp)(s:Shared)(e:Value)(T:Shared),CX w [] H s (λ_ _ _=>False) e T->False):
  W.WalkO q loose XP YP l.row.toRowW d [] (λf U=>PySem.call f U):=by
 refine Att.attach_call Q A λw C M L b R o r cd c a U O G Y i hd y E N J Z j=>?_;have X:=t w _ Y;obtain⟨S,z,p⟩:=F w L R _ X G.T.g E;exact K0 X G.T.g G.T.b G.T.builtins G.T.nolimit j N J (ZZ Z D) P p z (λH g m=>B w H a O Z g m) λH e T=>I w H M e T
def inClass(s:Stmt)(j:Nat):Stmt:=match s with
 |.ClassDef _ _ _ body _ _ _ _ _ _ _=>body.getD j<|.Pass ⟨0,0,0,0⟩
 |_=>.Pass ⟨0,0,0,0⟩
def Ub(s:Stmt):Arguments:=match s with
 |.FunctionDef _ a _ _ _ _ _ _ _ _=>a
 |_=>{posonlyargs:=[],args:=[],vararg:=none,kwonlyargs:=[],kw_defaults:=[],kwarg:=none,defaults:=[]}
def JV(s:Stmt):List Stmt:=match s with
 |.FunctionDef _ _ b _ _ _ _ _ _ _=>b
 |_=>[]
def Yb(s:Stmt):Scope:=match s with
 |.FunctionDef _ _ _ _ _ _ sc _ _ _=>sc
 |_=>{kind:=.function,names:=[],isGenerator:=false,isCoroutine:=false}
abbrev CX0:CXT:=λ_ _ _ _ _ _=>False
abbrev E0:XK:=λ_ _ _=>False
def VQ:Je CX0 X E0:=λ_ _ _ _ _ _ _ h=>h.elim
structure Fun(K:W.Frag)(x qual:Str)(st:Stmt)(f:Addr)(fd:FuncData):Prop where
 ex:∃(oc:Value)(od:Option Addr)(kV doc pm:Value)(an:Option Addr)(cdv ct:Value)(osl:Array (Option Value)),
  fd=W.fnOf x qual (Ub st) (JV st) (Yb st) .none kV doc pm an cdv ct/\K.lookup f=some ⟨oc,od,.func fd,osl⟩/\W.codeIn K cdv qual=true
 kp:W.keepIn K (.ref f)=true
section
variable{K:W.Frag}
def Fun.ok{M:Stmt}(F:Fun K x qual M f j)(S:Yq N D (Yb M))(O:∀G H Q E,B G H Q E->G.length=D.length)(L:∀(J:Value)(A:Around)(Z:List Env)(s:Shared)(H:Hp)(G:kK)(Q:VK)(E:XK),VW k (A.deeper<|envOfC qual (Yb M) s.heap.objs.size f J)->B G H Q E->
   ∃t,PSs (Vg CX0 P w K U base N qual (Yb M) f J A Z s H E).nox (JV M) t/\t {nx:=λ_ z=>Q .non z,rt:=Q} (start N G) H):Ym P w K U base CX0 (k+1) f j D B:=by
 obtain⟨p,g,kV,y,m,d,J,c,I,rfl,C,T⟩:=F.ex;refine P8 C T S O λA Z s H G Q E X R=>?_;obtain⟨t,h,q⟩:=L J A Z s H G Q E X R;exact⟨t,h.nox,q⟩
def Fun.oq{L:Stmt}(F:Fun K x qual L f D)(S:Yq N T (Yb L))(J:∀(M:Value)(A:Around)(Z:List Env)(s:Shared)(H:Hp)(G:kK)(Q:VK)(E:XK),VW k (A.deeper<|envOfC qual (Yb L) s.heap.objs.size f M)->R G H Q E->
   ∃t,PSs (Vg CX0 P w K B base N qual (Yb L) f M A Z s H E).nox (JV L) t/\t {nx:=λ_ I=>Q .non I,rt:=Q} (start N G) H)(O:∀G H Q E,R G H Q E->G.length=T.length:=by intro G H Q E h;repeat (obtain⟨e,h⟩:=h;first|(subst e;exact Y)|skip)):Ym P w K B base CX0 (k+1) f D T R:=F.ok S O J
def Fun.binds{G:Stmt}(F:Fun K x qual G f D)(h:∀(kV Z M:Value)(O:kH)(J N:Value)(L:kq),L.length=R.length->bindArgs (W.fnOf x qual (Ub G) (JV G) (Yb G) .none kV Z M O J N) ⟨L,[]⟩=pure (R.zip L)):Binds K D R []:=by
 obtain⟨A,E,kV,Z,M,O,J,N,T,rfl,I,B⟩:=F.ex;exact .all<|h kV Z M O J N
def LS{st:Stmt}{kV J G Z L:Value}(l:K.lookup f=some ⟨oc,od,.func<|W.fnOf x qual (Ub st) (JV st) (Yb st) .none kV J G an Z L,osl⟩)(c:W.codeIn K Z qual=true)(k:W.keepIn K (.ref f)=true):Fun K x qual st f (W.fnOf x qual (Ub st) (JV st) (Yb st) .none kV J G an Z L):=⟨⟨oc,od,kV,J,G,an,Z,L,osl,rfl,l,c⟩,k⟩
end
def Jz(Z:VW k A):A.units+1<cLine:=jq (Nat.add_le_add_left (by decide:1<=64) _) Z.units
def Yi(h:n<=1000):n<sizeLine:=jq h<|by decide
section
def pv(i:Nat)(L:X.N[i]?=some x:=by rfl)(J:Vis X.env.scope x:=by first|exact Or.inl Y|exact Or.inr (Or.inl Y)|exact Or.inr<|Or.inr rfl)(G:(x==("__debug__":Str))=false:=by decide)(Z:(x==("__classdict__":Str))=false:=by decide):PE X (.Name x pos) (Xt i):=Qx L J G Z
end
def X7{c A B:Prop}[Decidable c](J:c->A)(Z:¬c->B):if c then A else B:=by
 by_cases h:c
 .rw [Zn h]
  exact J h
 .rw [Zo h]
  exact Z h
def Same(H H':Hp):Prop:=∀b o,H b=some o->H' b=some o
def Same.refl(H:Hp):Same H H:=λ_ _ h=>h
abbrev Z6:=@Same.refl
def Same.trans(a:Same H J)(b:Same J Z):Same H Z:=λc o h=>b c o<|a c o h
def Same.free(e:Same H Z)(h:Z l=Option.none):H l=Option.none:=by
 cases q:H l with
 |none=>rfl
 |some o=>
  rw[e l o q]at h;cases h
def Same.seq{K:W.Frag}(e:Same H J)(h:SqL K H a Z):SqL K J a Z:=by
 rcases h with(h|⟨o,h⟩)|h
 .exact .inl (.inl<|e _ _ h)
 .exact .inl (.inr ⟨o,e _ _ h⟩)
 .exact .inr h
section
variable[DecidableEq κ]
def NI{Z:List (κ×V)}(h:VD Z k=none):¬k∈Z.map (·.1):=by
 intro m;obtain⟨p,G,e⟩:=ZU.mp m;have q:(Z.any λJ=>decide<|J.1=k)=true:=vY.mpr ⟨p,G,decide_eq_true e⟩;rw[Uj,h]at q;exact Zp q<|by simp
end
end L2
namespace PySem.W
open PySem PyProof.Rows
section
variable{K:Frag}{x D:Addr}
def N0(G:(clsIn K D).isSome=true)(L:findIn K (.ref D) name=some (some a))(J:specialIn K a "__get__"=some (some g))(Z:takesIn K a=some true):findObj K D odo name=some (.bind g a):=by
 obtain⟨M,e⟩:=vU.mp G;simp only[findObj,e,L,Option.bind_some,J,Z]
structure ExcC(K:Frag)(D:Addr):Prop where
 cls:(clsIn K D).isSome=true
 ga:findIn K (.ref D) "__getattribute__"=some (some (.builtin "BaseException.__getattribute__"))
 gn:findIn K (.ref D) "__getattr__"=some none
 base:mroIn K D (.type "BaseException")=some true
 obj:mroIn K D (.type "object")=some true
 ha:findIn K (.ref D) "__class__"=some (some (.builtin "object.__class__"))
 hn:specialIn K (.builtin "object.__class__") "__get__"=some (some (.builtin "getset_descriptor.__get__"))
 htk:takesIn K (.builtin "object.__class__")=some true
set_option tactic.hygienic true in
def Lj(X:K.In h)(Z:(clsIn K D).isSome=true):∃c d J sl,h.get? D=some ⟨c,d,.cls J,sl⟩:=by
 unfold clsIn at Z
 split at Z
 case h_1 c d J sl ho=>exact⟨c,d,J,sl,X D _ ho⟩
 case h_2=>cases Z
def Rk(X:K.In h)(J:(clsIn K D).isSome=true):Looks M h (isType<|.ref D) true:=by
 obtain⟨c,d,L,sl,Z⟩:=Lj X J;intro R N O G k q;simp only[isType,loadHead];exact Zj<|wpAny_loadPart (k D _ Z)<|Zk q
def PR:builtinKind "BaseException.__getattribute__"=some .slot:=by decide +kernel
def LP:splitId "BaseException.__getattribute__"=some ("BaseException","__getattribute__"):=by decide +kernel
def LQ:(Value.builtin "BaseException.__getattribute__"==.builtin "object.__getattribute__")=false:=by decide +kernel
def Rj(C:ExcC K D)(X:K.In s.heap)(I:InstAt s.heap x ox D odo)(G:Q () s):
  wpAny M A (checkBuiltinCall "BaseException.__getattribute__" ⟨[.ref x,nameV],[]⟩) Q E s:=by
 have J:=looks_mroIn (M:=M) X C.base;have L:=F.args_bexc_ga (.ref x) nameV;have Z:=I.type (M:=M);unfold checkBuiltinCall;simp only[PR,LP,isInstance];obtain⟨h,g,d,t,N⟩:=s;refine Zj (Zj<|Z.at<|J.at ?_)
 repeat any_goals first|exact L|exact G|wp_step
def Fb(C:ExcC K D)(X:K.In s.heap)(I:InstAt s.heap x ox D odo)(h:Q (some<|.ref D) {s with toks:=s.toks+1}):
  wpAny (model prog w) A (getAttr? (.ref x) "__class__") Q E s:=by
 obtain⟨N,g,d,t,Z⟩:=s;have L:=I.type (M:=model prog w);have G:=jr (M:=model prog w) X C.ga;have J:=jr (M:=model prog w) X C.gn;have R:=looks_find (M:=model prog w) X I<|N0 C.cls C.ha C.hn C.htk;have sl:=F.attr_ValueError.ga;have O:=sl.bind<|.ref x;simp only[getAttr?,getAttrBy?,getAttrBy];refine Zj<|wpAny_mkText<|Zj<|vi<|wpAny_holding<|Zj<|L.at ?_;refine Zj<|G.at ?_;simp only[LQ,vN,vd,if_false,getAttrByItsOwn,hookBefore];refine Zj<|J.at<|Zj<|vi<|wpAny_holding ?_;simp only[callGetattribute,boundAndCalled,Bool.false_and,vd,if_false];rw[O];refine Zj<|Zk<|wpAny_call<|jw sl.plain F.entry_bexc_ga<|Rj C X I ?_;simp only[Builtin.«object.__getattribute__»]
 repeat (first|(with_reducible refine wpAny_call<|class_get (s:=⟨N,g,d,t+1,Z⟩) X I C.obj ?_)|lk)
 exact h
def M3{Z:List Value}(X:K.In h)(N:(clsIn K D).isSome=true)(J:h.get? G=some ⟨.type "tuple",O,.seq Z.toArray n,sl⟩):(Value.ref D==.ref G)=false:=by
 obtain⟨c,d,R,L,M⟩:=Lj X N
 cases hb:(Value.ref D==Value.ref G)with
 |false=>rfl
 |true=>cases beq_iff_eq.mp hb;cases M.symm.trans J
def kitx_exc(C:ExcC K D):KitX K (.ref x) (.ref D) (λh=>∃J Z,InstAt h x J D Z):=
 ⟨λ_ _ _ ⟨_,_,I⟩=>I.type,λ_ _ X _=>Rk X C.cls,λ_ _ _ _ _ _ X G=>M3 X C.cls G,λX ⟨_,_,I⟩ k=>Fb C X I k⟩
def exc_matches(X:K.In s.heap)(I:InstAt s.heap x ox D odo)(G:(clsIn K N).isSome=true)(Z:typeIn K (.ref N)=some (.type "type"))(L:mroIn K N (.type "BaseException")=some true)(J:subIn K (.ref D) (.ref N)=some b)(C:Q b s):
  wpAny M A (excMatches (.ref x)<|.ref N) Q E s:=by
 have U:=I.type (M:=M);have S:=looks_typeIn (M:=M) X Z;have F:=looks_mroIn (M:=M) X L;have B:=looks_subIn (M:=M) X J;have T:=Rk (M:=M) X G;have R:=tc_notTuple;obtain⟨h,g,d,t,O⟩:=s;simp only[excMatches,isInstance,isExcClass]
 repeat any_goals first|assumption|lk
 cases b <;> (repeat any_goals first|assumption|lk)
end
end PySem.W
namespace L2
open PySem PySem.Spec PyProof.Rows
def Trc(old:Heap)(H:Hp)(h:Heap)(ea:Addr)(vs:kI):Prop:=
 vs[1]?=some .none \/ ∃T J Z,vs[1]?=some (.ref T)/\T≠ea/\old.get? T=none/\H T=none/\h.get? T=some J/\J.data=.fields Z/\Z[3]?=some .none
structure Fly(old:Heap)(H:Hp)(h:Heap)(ea C:Addr)(dx:Option Addr):Prop where
 new:old.get? ea=none
 free:H ea=none
 obj:∃oe vs,h.get? ea=some oe/\oe.cls=.ref C/\oe.dict=dx/\oe.data=.fields vs/\1<vs.size/\Trc old H h ea vs
section
def tbO(head:Value)(L:Addr)(pl:kq):Obj:={cls:=.type "traceback",dict:=none,data:=.fields ([head,.ref L,.none,rawInt L,.none]++ (if pl.isEmpty then List.replicate 6 Value.none else pl)).toArray}
def tbH(g:Heap)(head:Value)(L ea:Addr)(pl:kq):Heap:=
 ((g.push<|tbO head L pl).update ea<|Obj.mapFields (·.setIfInBounds 1<|.ref g.objs.size)).update g.objs.size (Obj.mapFields (·.setIfInBounds 3<|(none:kH).elim Value.none λf=>rawInt f))
section
variable{g:Heap}
def NO(Z:b≠ea)(q:g.get? b=some o):(tbH g head L ea pl).get? b=some o:=
 (yd _ _<|yh<|ZN q).trans ((yd _ _<|Zq Z).trans<|ZD _ q)
def D7(q:g.get? ea=some oe)(Z:oe.data=.fields J):((g.push<|tbO head L pl).update ea<|Obj.mapFields (·.setIfInBounds 1<|.ref g.objs.size)).get? ea=some (oe.mapFields (·.setIfInBounds 1<|.ref g.objs.size)):=
 ye _ (ZD _ q) (Obj.isFreed_of_fields<|Obj.data_mapFields Z _)
def QL(q:g.get? ea=some oe)(Z:oe.data=.fields J):(tbH g head L ea pl).get? ea=some (oe.mapFields (·.setIfInBounds 1<|.ref g.objs.size)):=
 (yd _ _<|yh<|ZN q).trans (D7 q Z)
def NM(q:g.get? ea=some oe):((g.push<|tbO head L pl).update ea<|Obj.mapFields (·.setIfInBounds 1<|.ref g.objs.size)).get? g.objs.size=some (tbO head L pl):=
 (yd _ _<|Zc<|ZN q).trans (ZW g rfl)
def L7(q:g.get? ea=some oe):∃o Z,(tbH g head L ea pl).get? g.objs.size=some o/\o.data=.fields Z/\Z[3]?=some Value.none:=
 ⟨_,_,ye _ (NM q)<|Obj.isFreed_of_fields<|Obj.data_mapFields rfl _,Obj.data_mapFields rfl _,by
  rw[Array.getElem?_setIfInBounds_self_of_lt (by simp)];rfl⟩
end
def Ed(p:A.frames=some (J::outer))(C:s.heap.FunFrames base (J::outer))(c:J.frame=some L)(U:s.heap.get? ea=some oe)(N:oe.data=.fields S)(G:1<S.size)(h:∀O T B R,s.heap.get? T=none->(∀b o,b≠ea->b∉frs (J::outer)->s.heap.get? b=some o->O.get? b=some o)->(∀b o,b≠ea->s.heap.get? b=some o->∃sl,O.get? b=some {o with slots:=sl})->
   O.get? ea=some (oe.mapFields (·.setIfInBounds 1<|.ref T))->O.get? T=some B->B.data=.fields R->R[3]?=some .none->Q () {s with heap:=O}):
  wpAny M A (do let a <-frameOf J;let pl <-entryPlaceOf L hadNext;let b <-EntryCells.newEntry head a .none (rawInt L) .none pl;setField (.ref ea) 1 b) (λ_ X=>wpAny M A (setFlight (.ref ea) none) Q E X) E s:=by
 have apart:ea∉frs (J::outer):=λz=>(C.mem z).2.elim λo q=>q.2 S (by have e:=U.symm.trans q.1;cases e;exact N);refine Zj<|wpAny_frameOf_fun p C c λg D=>Zj<|wpAny_entryPlaceOf λpl k=>?_;have Z:g.get? ea=some oe:=(D.2.1 ea apart).trans U;obtain⟨B,R,y,j,P⟩:=L7 (head:=head) (L:=L) (pl:=pl) Z;simp only[EntryCells.newEntry,newFields];refine Zj<|yk (vA (ZD _ Z) N G ?_)<|k.sizeOk5 _ _ _ _ _;simp only[setFlight];refine Zj<|Zm (D7 (head:=head) (L:=L) (pl:=pl) Z N) (Obj.data_mapFields N _) (x:=.ref g.objs.size) (by simp[G]) ?_;rw[Zn (by simp)];refine vA (NM Z) Y (by simp) ?_;refine h (tbH g head L ea pl) g.objs.size B R (vM<|yU D.1.symm) (λb o I m q=>NO I<|(D.2.1 b m).trans q) (λb o I q=>?_) (QL Z N) y j P;obtain⟨sl,t⟩:=D.2.2 b o q;exact⟨sl,NO I t⟩
def Ko(f:A.frames=some (B::outer))(hl:s.heap.FunFrames base (B::outer))(hf:B.frame=some L)(F:Fly old H s.heap ea C dx)(hT:∀b o,old.get? b=some o->∃u,s.heap.get? b=some u)(hH:∀b o,H b=some o->∃u,s.heap.get? b=some u)(h:∀N,(∀b o,(H b≠none \/ ∃u,old.get? b=some u)->b∉frs (B::outer)->s.heap.get? b=some o->N.get? b=some o)->
   (∀b o,(∀r,o.data≠.fields r)->s.heap.get? b=some o->∃sl,N.get? b=some {o with slots:=sl})->Fly old H N ea C dx->Q () {s with heap:=N}):
  wpAny M A (noteFrame (.ref ea) B) (λ_ g=>wpAny M A (setFlight (.ref ea) none) Q E g) E s:=by
 obtain⟨X,O,oe,r,y,hc,Z9,t,D,ht⟩:=F;unfold noteFrame;simp only[hf];have done:∀R:Heap,(∀b o,b≠ea->(H b≠none\/(∃u,old.get? b=some u) \/ ∀r,o.data≠.fields r)->s.heap.get? b=some o->R.get? b=some o)->(∀b,(∃u,s.heap.get? b=some u)->∃u,R.get? b=some u)->
   ∀N T k m,R.get? T=none->(∀b o,b≠ea->b∉frs (B::outer)->R.get? b=some o->N.get? b=some o)->(∀b o,b≠ea->R.get? b=some o->∃sl,N.get? b=some {o with slots:=sl})->
   N.get? ea=some (oe.mapFields (·.setIfInBounds 1<|.ref T))->N.get? T=some k->k.data=.fields m->m[3]?=some .none->Q () {s with heap:=N}:=by
  intro R k1 k2 N T k m J1 hk i Z8 Z J4 J5
  have w:∀b,R.get? b=none->s.heap.get? b=none:=λb G=>by
   cases q:s.heap.get? b with
   |none=>rfl
   |some u=>obtain⟨v,U⟩:=k2 b ⟨u,q⟩;rw[G]at U;cases U
  have S:=w T J1;refine h N (λb o G j I=>?_) (λb o p I=>?_) ⟨X,O,_,_,Z8,?_,?_,Obj.data_mapFields t _,by simpa using D,.inr ⟨T,k,m,by simp[D],?_,?_,?_,Z,J4,J5⟩⟩
  .have J:b≠ea:=by
    rintro rfl;rcases G with z|⟨u,z⟩
    .exact z O
    .rw [X]at z;cases z
   exact hk b o J j<|k1 b o J (by rcases G with z|z;exact .inl z;exact .inr<|.inl z) I
  .have J:b≠ea:=by
    rintro rfl;rw[y]at I;cases I;exact p _ t
   exact i b o J<|k1 b o J (.inr<|.inr p) I
  .rw [Obj.cls_mapFields];exact hc
  .rw [<-Z9];obtain⟨c,d,dt,sl⟩:=oe;cases dt <;> rfl
  .rintro rfl;rw[y]at S;cases S
  .cases q:old.get? T with
   |none=>rfl
   |some u=>obtain⟨v,U⟩:=hT T u q;rw[S]at U;cases U
  .cases q:H T with
   |none=>rfl
   |some u=>obtain⟨v,U⟩:=hH T u q;rw[S]at U;cases U
 rcases ht with R|⟨T,k,m,R,J2,n,x,Z,hdT,h3⟩
 .refine Zj (Zm y t R ?_)
  rw[Zo (by decide)];exact Ed f hl hf y t D<|done s.heap (λb o _ _ q=>q) λb q=>q
 .refine Zj (Zm y t R ?_)
  rw[Zn (by simp)];refine Zj<|Zm Z hdT h3 ?_;rw[Zo (by simp[rawInt])];have l:=(yT.mp h3).1;have other:∀b,b≠T->(s.heap.update T<|Obj.mapFields λa=>a.setIfInBounds 3 .none).get? b=s.heap.get? b:=λb z=>yd _ _ z.symm;refine Zj<|vA Z hdT l ?_;refine Ed f (hl.of_keeps λb o G j=>⟨o,(other b λq=>by rw[q,Z]at G;cases G;exact j _ hdT).trans G,Y⟩) hf ((other ea<|Zq J2).trans y) t D
   (done _ (λb o J G I=>?_) λb G=>?_)
  .refine (other b ?_).trans I
   rintro rfl;rcases G with z|⟨u,z⟩|z
   .exact z x
   .rw [n]at z;cases z
   .rw [Z]at I;cases I;exact z _ hdT
  .by_cases e:b=T
   .subst e
    exact⟨_,ye _ Z<|Obj.isFreed_of_fields<|Obj.data_mapFields hdT _⟩
   .obtain ⟨u,hu⟩:=G
    exact⟨u,(other b e).trans hu⟩
end
section
def VN.ex(x:VN P w H h a o):∃u,h.get? a=some u:=by
 cases o with
 |lst J=>obtain⟨_,_,_,_,e⟩:=x;exact⟨_,e⟩
 |tup J=>obtain⟨_,_,_,o,e,_⟩:=x;exact⟨_,e⟩
 |dK Z=>obtain⟨_,_,_,_,o,_,_,e,_⟩:=x;exact⟨_,e⟩
 |dT Z=>obtain⟨_,_,_,_,o,_,_,e,_⟩:=x;exact⟨_,e⟩
 |set S n=>obtain⟨o,_,_,_,e,_⟩:=x;exact⟨_,e⟩
 |ins C R G=>obtain⟨_,_,_,e,_⟩:=x;exact⟨_,e⟩
 |own y=>exact x
 |xd G=>obtain⟨_,⟨_,_,_,e,_⟩,_⟩:=x;exact⟨_,e⟩
 |rng N O=>obtain⟨_,_,_,e⟩:=x;exact⟨_,e⟩
 |frz M u=>obtain⟨e,_⟩:=x;exact⟨_,e⟩
 |tbl L=>exact⟨_,x⟩
 |met f y=>exact⟨_,x⟩
 |ext φ=>obtain⟨_,e,_⟩:=x;exact e
end
def CX1(P:Program)(w:World):CXT:=λZ H s E e J=>∃L C M G,e=.ref L/\J.os=s.os/\AllBare J.gens/\Un (frs Z) [] H G s.heap J.heap/\HOk P w G J.heap/\Fly s.heap G J.heap L C M/\E (.ref C) M G
def Pm(X:Cx)(E:XK):Prop:=∀(Z:kh)(U:St)(H:Hp)(s:Shared)(J C:Addr)(G:kH),Inv X Z U H s->Fly X.s₀.heap H s.heap J C G->E (.ref C) G H->X.xe (.ref J) s
def Fly.older(F:Fly old H h ea C j)(k:∀b u,old'.get? b=some u->∃v,old.get? b=some v):Fly old' H h ea C j:=by
 have Z:∀b,old.get? b=none->old'.get? b=none:=λb Q=>by
  cases q:old'.get? b with
  |none=>rfl
  |some u=>obtain⟨v,B⟩:=k b u q;rw[Q]at B;cases B
 obtain⟨G,J,A,D,U,P,N,X,L,S⟩:=F;exists Z _ G,J,A,D,U,P,N,X,L;rcases S with R|⟨T,I,E,R,O,M,r⟩
 .exact .inl R
 .exact .inr ⟨T,I,E,R,O,Z _ M,r⟩
section
variable{K:W.Frag}
def Uz:Pm (Vg (CX1 P w) P w K d base N qual scope f cd A outer s₀ H₀ E) E:=by
 intro y U H s k C p I F q;have there:∀b u,s₀.heap.get? b=some u->∃v,s.heap.get? b=some v:=λb u e=>I.base.there b u e (by simp[Vg]);show wpAny _ _ (leaving _ _) _ _ s;unfold leaving;refine Zj<|Ko (base:=base) (outer:=outer) I.ok.frames I.stack rfl F there (λb o e=>(I.hok b o e).ex) λm X O c=>?_;have g:∀b∈frs (envOfC qual scope s₀.heap.objs.size f cd::outer),H b=none:=I.stkFree;have M:∀b o,H b=some o->b∉frs (envOfC qual scope s₀.heap.objs.size f cd::outer):=λb o e z=>by rw[g b z]at e;cases e
 have j:∀b o u,H b=some o->s.heap.get? b=some u->m.get? b=some u:=λb o u e q=>X b u (.inl (by rw[e];simp)) (M b o e) q;have B:=I.base;refine⟨k,C,p,H,Y,I.os,I.bare,⟨λb o e n Z _=>?_,λb o e n Z _=>?_,λb o e n _=>B.free b o e n (by simp[Vg]),λb o e _=>?_,B.tups,B.frzs,B.tbls⟩,λa o e=>?_,c,q⟩
 .refine X b o (.inr ⟨o,e⟩) ?_ (B.keep b o e n Z<|by simp[Vg])
  intro z;have R:b∈(s₀.heap.objs.size::frs outer):=z;rcases Zb.mp R with rfl|R
  .exact (zX _<|ZN e).elim
  .exact Z R
 .obtain ⟨sl,e1⟩:=B.slot b o e n Z<|by simp[Vg]
  have t:∀T,o.data≠.fields T:=λT z=>by
   obtain⟨_,L,J,G⟩:=I.stack.mem (b:=b) (by show b∈(s₀.heap.objs.size::frs outer);exact ZK _ Z);rw[e1]at J;cases J;exact G T z
  obtain⟨S,Q⟩:=O b {o with slots:=sl} t e1;exact⟨S,Q⟩
 .by_cases Z:b∈frs (envOfC qual scope s₀.heap.objs.size f cd::outer)
  .obtain ⟨_,L,J,G⟩:=I.stack.mem Z
   obtain⟨sl,Q⟩:=O b L G J;exact⟨_,Q⟩
  .obtain ⟨L,e1⟩:=there b o e
   exact⟨L,X b L (.inr ⟨o,e⟩) Z e1⟩
 .refine (I.hok a o e).stay (λb u Z q=>?_) (λ_ q=>q) λ_ _ q=>q
  rcases Z with rfl|Z
  .exact j _ _ _ e q
  .exact j _ _ _ Z q
end
section
def Pm.passes(h:Pm X E)(L:X.ex=[]):Je (CX1 X.prog X.w) X E:=by
 intro Z U H s e N I R;obtain⟨B,C,D,A,rfl,O,bare,M,G,F,q⟩:=R;obtain⟨T,g,d,t,J⟩:=N;obtain rfl:J=s.os:=O;exact h Z U A _ B C D (I.call (h':=T) (g':=g) (d':=d) (t':=t) (ch:=[]) M G bare λb z=>Zp z<|by simp) (F.older λb u q=>I.base.there b u q (by rw[L];simp)) q
end
abbrev vErr:kq:=[.type "ValueError",.type "Exception",.type "BaseException",.type "object"]
def XY(ea C:Addr)(dx:kH):HO:=.ext λh=>∃Z,h.get? ea=some Z/\Z.cls=.ref C/\W.notCls Z=true/\Z.dict=dx
section
variable{s s':Shared}
def O4(k:A.frames=some (Z::outer))(m:s'.heap.FunFrames base (Z::outer))(f:Z.frame=some L)(r:∀b∈frs (Z::outer),N b=none)(O:Un (frs (Z::outer)) [] H N s.heap s'.heap)(U:HOk P w N s'.heap)(F:Fly s.heap N s'.heap ea C l)(h:∀T,Un (frs (Z::outer)) [] H N s.heap T->HOk P w N T->Fly s.heap N T ea C l->Q () {s' with heap:=T}):
  wpAny M A (noteFrame (.ref ea) Z) (λ_ B=>wpAny M A (setFlight (.ref ea) none) Q E B) E s':=by
 have there:∀b u,s.heap.get? b=some u->∃v,s'.heap.get? b=some v:=λb u e=>O.there b u e (by simp);refine Ko k m f F there (λb o e=>(U b o e).ex) λT g S i=>?_;have I:∀b o,N b=some o->b∉frs (Z::outer):=λb o e z=>by rw[r b z]at e;cases e
 have c:∀b o u,N b=some o->s'.heap.get? b=some u->T.get? b=some u:=λb o u e q=>g b u (.inl (by rw[e];simp)) (I b o e) q;refine h T ⟨λb o e n J X=>g b o (.inr ⟨o,e⟩) J<|O.keep b o e n J X,λb o e n J X=>?_,O.free,λb o e X=>?_,O.tups,O.frzs,O.tbls⟩ (λa o e=>?_) i
 .obtain ⟨sl,e1⟩:=O.slot b o e n J X
  have d:∀j,o.data≠.fields j:=λj z=>by
   obtain⟨_,D,G,R⟩:=m.mem J;rw[e1]at G;cases G;exact R j z
  obtain⟨t,p⟩:=S b {o with slots:=sl} d e1;exact⟨t,p⟩
 .by_cases J:b∈frs (Z::outer)
  .obtain ⟨_,D,G,R⟩:=m.mem J
   obtain⟨sl,p⟩:=S b D R G;exact⟨_,p⟩
  .obtain ⟨D,e1⟩:=there b o e
   exact⟨D,g b D (.inr ⟨o,e⟩) J e1⟩
 .refine (U a o e).stay (λb u J q=>?_) (λ_ q=>q) λ_ _ q=>q
  rcases J with rfl|J
  .exact c _ _ _ e q
  .exact c _ _ _ J q
def FZ(Z:Un fs [] H X s.heap s'.heap)(R:HOk P w X s'.heap)(F:Fly s.heap X s'.heap ea C dx)(hT:∀b∈fs,∀o m,s'.heap.get? b=some o->o.data≠.fields m)(h:∀y,Un fs [] H X s.heap y->HOk P w X y->Fly s.heap X y ea C dx->Q () {s' with heap:=y}):
  wpAny M A (setFlight (.ref ea) none) Q E s':=by
 obtain⟨B,L,r,m,p,x,c,v,k,l⟩:=id F;unfold setFlight;rcases l with j|⟨T,oT,ts,j,U,D,N,S,hdT,h3⟩
 .refine Zj (Zm p v j ?_)
  rw[Zo (by decide)];obtain⟨i,g,d,t,os⟩:=s';exact Zk<|h i Z R F
 .refine Zj (Zm p v j ?_)
  rw[Zn (by simp)];have I:=(yT.mp h3).1;have other:∀b,b≠T->(s'.heap.update T<|Obj.mapFields (·.setIfInBounds 3<|(none:kH).elim Value.none λf=>rawInt f)).get? b=s'.heap.get? b:=λb z=>yd _ _<|Zq z;have self:=ye (Obj.mapFields (·.setIfInBounds 3<|(none:kH).elim Value.none λf=>rawInt f)) S<|Obj.isFreed_of_fields<|Obj.data_mapFields hdT _;have G:∀b o,s.heap.get? b=some o->b≠T:=λb o e z=>by rw[z,D]at e;cases e
  refine vA S hdT I (h _ ⟨λb o e n J O=>(other b<|G b o e).trans<|Z.keep b o e n J O,λb o e n J O=>?_,Z.free,λb o e O=>?_,Z.tups,Z.frzs,Z.tbls⟩ (λa o e=>?_)
   ⟨B,L,r,m,(other ea<|Zq U).trans p,x,c,v,k,.inr ⟨T,_,_,j,U,D,N,self,Obj.data_mapFields hdT _,by simp[I]⟩⟩)
  .obtain ⟨sl,e1⟩:=Z.slot b o e n J O
   exact⟨sl,(other b<|G b o e).trans e1⟩
  .obtain ⟨o',e1⟩:=Z.there b o e O
   exact⟨o',(other b<|G b o e).trans e1⟩
  .refine (R a o e).stay (λb u J q=>?_) (λ_ q=>q) λ_ _ q=>q
   refine(other b ?_).trans q;rintro rfl;rcases J with rfl|J
   .rw [N]at e;cases e
   .rw [N]at J;cases J
def Fly.track(F:Fly old M h ea C E)(Z:Un fs [] H M old h)(O:HOk P w M h):Un fs [] H (upd M ea<|XY ea C E) old h/\HOk P w (upd M ea<|XY ea C E) h:=by
 obtain⟨L,J,B,y,D,j,R,Q,X,t⟩:=F;have G:∀b o,M b=some o->b≠ea:=λb o e z=>by rw[z,J]at e;cases e
 refine⟨⟨Z.keep,Z.slot,λb o e n U=>?_,Z.there,λb N e=>?_,λb o u e=>?_,λb S e=>?_⟩,λa o e=>?_⟩
 .rw [Yc (λz=>by rw[z,L]at e;cases e)];exact Z.free b o e n U
 .rw [Yc (G b _<|Z.tups b N e)];exact Z.tups b N e
 .rw [Yc (G b _<|Z.frzs b o u e)];exact Z.frzs b o u e
 .obtain ⟨more,q⟩:=Z.tbls b S e
  exact⟨more,by rw[Yc (G b _ q)];exact q⟩
 .by_cases z:a=ea
  .subst z
   rw[YZ]at e;cases e;refine⟨⟨B,D,j,?_,R⟩,⟨B,D⟩,λg m ⟨T,I,A⟩ k=>⟨T,k T I,A⟩⟩;unfold W.notCls;rw[Q]
  .rw [Yc z]at e
   exact(O a o e).stay (λb u _ q=>q) (λb q=>by rw[Yc (G b _ q)];exact q) λb N q=>by rw[Yc (G b _ q)];exact q
end
abbrev Cx.sui(X:Cx)(A':Around):Cx:={X with A:=A',calm:=false,xe:=λ_ _=>False}
section
def Inv.sui(I:Inv X Z U H s)(J:A'.frames=some X.stack):Inv (X.sui A') Z U H s:=
 ⟨⟨I.ok.mod,I.ok.kind,I.ok.glob,I.ok.blt,I.ok.above,I.ok.inj,I.ok.has,I.ok.cab,λz=>Zp z (by simp),J,I.ok.stk,I.ok.exf,I.ok.bs,I.ok.bsz,I.ok.noex,I.ok.exfs,I.ok.funs,I.ok.frf⟩,
  I.os,I.bare,I.base,I.loc,I.cell,I.free,I.freeC,I.pin,I.hok,I.len⟩
def Inv.unsui(I:Inv (X.sui A') Z U H s)(J:X.Ok):Inv X Z U H s:=
 ⟨J,I.os,I.bare,I.base,I.loc,I.cell,I.free,I.freeC,I.pin,I.hok,I.len⟩
def name_goes(I:Inv X O U H s)(hN:X.N.Nodup)(hi:X.N[i]?=some x)(L:X.env.kindOf x=some .local)(h:∀g,Inv X O (U.set i none) H g->Q () g):wpAny M A (do bindName X.env x .none;unbindBehindTheSuite X.env x pos) Q E s:=by
 obtain⟨m,hn,hl⟩:=id I.loc;have R:(X.env.scope.kind==.class || (X.env.scope.kind==.module && X.env.locals !=X.env.globals))=false:=by rw[I.ok.kind];rfl
 refine wpAny_nameGoes_keeps L hn R λh' v C S=>h _ ?_;have J:∀b,b≠X.env.locals->h'.get? b=s.heap.get? b:=λb z=>S.2 b z;have G:∀b o,X.s₀.heap.get? b=some o->b≠X.env.locals:=λb o e=>Zc<|Zv (ZN e) I.ok.above;have t:∀b o,H b=some o->b≠X.env.locals:=λb o e z=>by rw[z,I.free]at e;cases e
 have B:=I.base;exists I.ok,I.os,I.bare,⟨λb o e n N L=>(J b<|G b o e).trans<|B.keep b o e n N L,λb o e n N L=>?_,B.free,λb o e L=>?_,B.tups,B.frzs,B.tbls⟩,⟨_,C,λj y u k Z l=>?_⟩,λy c e=>?_,I.free,I.freeC,λp hp=>?_,λa o e=>?_
 .obtain ⟨sl,e1⟩:=B.slot b o e n N L
  exact⟨sl,(J b<|G b o e).trans e1⟩
 .obtain ⟨o',e1⟩:=B.there b o e L
  exact⟨o',(J b<|G b o e).trans e1⟩
 .by_cases hji:j=i
  .subst hji
   rw[List.getElem?_set_self']at Z
   cases q:U[j]? with
   |none=>rw[q]at Z;cases Z
   |some z=>rw[q]at Z;cases Z
  .rw [yf (Zq hji)]at Z
   obtain⟨P,f,w⟩:=hl j y u k Z l;have F:y≠x:=λz=>hji<|Tl hN k<|z ▸ hi;exists P,f;rcases w with⟨D,T⟩|⟨D,c,T,r⟩
   .exact .inl ⟨D,by show(if y=x then v else m y)=some P;rw[Zo F];exact T⟩
   .refine .inr ⟨D,c,T,r.sameBut S ?_⟩
    exact I.cne y c T
 .obtain ⟨v',hv'⟩:=I.cell y c e
  exact⟨v',hv'.sameBut S<|I.cne y c e⟩
 .obtain ⟨e,n,ne,nf,d⟩:=I.pin p hp
  exact⟨(J p.1 ne).trans e,n,ne,nf,d⟩
 .refine (I.hok a o e).stay (λb u N q=>?_) (λ_ q=>q) λ_ _ q=>q
  refine(J b ?_).trans q;rcases N with rfl|N
  .exact t _ _ e
  .exact t _ _ N
 .rw [zp];exact I.len
end
def U6(CX:CXT)(X:Cx)(U:St)(E:XK):Prop:=∀(Z:kh)(H:Hp)(s:Shared)(e:Value)(J:Shared),Inv X Z U H s->CX X.stack H s E e J->X.xe e J
section
variable{sp:Sp}{dvs:kK}{E:St->XK}{t:TA}
def R0(sp:Sp)(dvs:kK)(E:St->XK)(t:TA):TE:=λU H Q=>t U H λZ J=>sp (Z++ dvs) J Q<|E U
def OU(F:Ym X.prog X.w X.K X.mg X.base CX k f P O sp)(B:VW k X.A)(S:Binds X.K P O L)(A:Vals dvs L)(T:∀U,U6 CX X U<|E U)(I:Inv X Z U H s)(r:Vals M J)(h:sp (M++ dvs) H Q (E U)):wpAny (model X.prog X.w) X.A (call (.ref f) J) (EP X Z U Q) X.xe s:=by
 have N:Vals (M++ dvs) (J++ L):=r.append A;have D:(J++ L).length=O.length:=by rw[<-N.length];exact F.len _ _ _ _ h
 refine wpAny_call<|vc (F.run X.A X.stack s H ⟨J,[]⟩ (J++ L) (M++ dvs) Q (E U) B I.env0 (S s J I.kIn D) N h) λr R G=>?_
 cases r with
 |error e=>exact T U Z H s e R I G
 |ok C=>
  cases C with
  |ret u=>exact I.after G
  |next=>exact False.elim G
  |brk=>exact False.elim G
  |cont=>exact False.elim G
def KQ(F:Ym X.prog X.w X.K X.mg X.base CX k f j N sp)(R:VW k X.A)(D:Gl X x)(T:X.mg x=some (.ref f))(B:W.keepIn X.K (.ref f)=true)(C:Binds X.K j N y)(S:Vals dvs y)(O:∀U,U6 CX X U<|E U)(P:PA X (e::J) t)(L:(x==("__debug__":Str))=false:=by decide)(A:starEach (e::J) X.env=(false,eval e X.env)::starEach J X.env:=by rfl)(G:(backTo pos<|starEach J X.env).any (·.1)=false:=by rfl):
  PE X (.Call (.Name x p) (e::J) [] pos) (R0 sp dvs E t):=by
 intro Z s U H Q I h;refine yg<|UE I D T ?_ L;refine vz (h₀:=X.base) I.ok.mod.kin B (thn (P pos Z s U H _ I h) λm g ⟨z,c,M,r,q⟩=>⟨M.kIn,?_⟩) A G;exact OU F R C S O M r q
end
structure QF(K:W.Frag)(N:Addr):Prop where
 cls:(W.clsIn K N).isSome=true
 ty:W.typeIn K (.ref N)=some (.type "type")
 base:W.mroIn K N (.type "BaseException")=some true
def Cg(K:W.Frag)(Nc:Addr)(i:Nat)(tb:(St->XK)->TS)(ts:TS):TS:=λD U H=>
 tb (λM J L G=>∃C,J=.ref C/\W.subIn K (.ref C) (.ref Nc)=some true/\(∀d,L=some d->∃o,G d=some o)/\
  ∀Z,G Z=none->ts {nx:=λU H=>D.nx (U.set i none) H,rt:=D.rt,bk:=λU H=>D.bk (U.set i none) H,ct:=λU H=>D.ct (U.set i none) H} (M.set i<|some<|.ref Z) (upd G Z<|XY Z C L)) D U H
section
variable{X:Cx}
def GS{A:Around}(h:A.frames=some l):(A.mark v).frames=some l:=h
abbrev Cx.tried(X:Cx)(pn:kh)(W:ko):Cx:={X with pn:=pn,xe:=W}
def Inv.tried(I:Inv X Z U H s):Inv (X.tried (X.pn++ Z) W) [] U H s:=
 ⟨⟨I.ok.mod,I.ok.kind,I.ok.glob,I.ok.blt,I.ok.above,I.ok.inj,I.ok.has,I.ok.cab,I.ok.hd,I.ok.frames,I.ok.stk,I.ok.exf,I.ok.bs,I.ok.bsz,I.ok.noex,I.ok.exfs,I.ok.funs,I.ok.frf⟩,
  I.os,I.bare,I.base,I.loc,I.cell,I.free,I.freeC,λp J=>I.pin p (by rw[yz]at J;exact J),I.hok,I.len⟩
def Inv.untried(I:Inv (X.tried (X.pn++ Z) W) pins' U H s)(J:X.Ok):Inv X Z U H s:=
 ⟨J,I.os,I.bare,I.base,I.loc,I.cell,I.free,I.freeC,λp G=>I.pin p<|yR _ G,I.hok,I.len⟩
def Qr(O:X.stack=X.env::X.outer)(G4:X.env.frame=some X.env.locals)(l:X.N.Nodup)(r:X.N[i]?=some n)(t:X.env.kindOf n=some .local)(hg:Gl X x)(hm:X.mg x=some (.ref Nc))(hC:QF X.K Nc)(hb:∀(m:St->XK)(pn:kh)(W:ko),(∀U,U6 (CX1 X.prog X.w) (X.tried pn W) U<|m U)->PSs (X.tried pn W) body (tb m))(hs:∀A',PSs (X.sui A') (b₀::suite) ts)(L1:(x==("__debug__":Str))=false:=by decide):
  PS X (.Try body [.ExceptHandler (some<|.Name x np) (some n) (b₀::suite) hpos] [] [] pos) (Cg X.K Nc i tb ts):=by
 intro Z s U H D I h;refine wpAny_Try_except ?_
 let m:St->XK:=λL N2 T G=>∃C,N2=.ref C/\PySem.W.subIn X.K (.ref C) (.ref Nc)=some true/\(∀d,T=some d->∃o,G d=some o)/\
  ∀J,G J=none->ts {nx:=λU H=>D.nx (U.set i none) H,rt:=D.rt,bk:=λU H=>D.bk (U.set i none) H,ct:=λU H=>D.ct (U.set i none) H} (L.set i<|some<|.ref J) (upd G J<|XY J C T)
 let W:ko:=λe s'=>∃L E M,Inv X Z L E M/\CX1 X.prog X.w X.stack E M (m L) e s'
 have hp:∀U,U6 (CX1 X.prog X.w) (X.tried (X.pn++ Z) W) U (m U):=λL G2 E M e s' I1 hx=>⟨L,E,M,I1.untried I.ok,hx⟩;refine Zl (hb m (X.pn++ Z) W hp [] s U H D I.tried h) (λfl M q=>?_) λe M q=>?_
 .cases fl with
  |next=>
   obtain⟨L,G,j,q⟩:=q;exact jj ⟨L,G,j.untried I.ok,q⟩
  |brk=>obtain⟨L,G,j,q⟩:=q;exact⟨L,G,j.untried I.ok,q⟩
  |cont=>obtain⟨L,G,j,q⟩:=q;exact⟨L,G,j.untried I.ok,q⟩
  |ret u=>obtain⟨v,L,G,j,q⟩:=q;exact⟨v,L,G,j.untried I.ok,q⟩
 .obtain ⟨L,E,s0,I0,J,C,T,G,rfl,os,bare,un,hok,F,C',hC',hsub,hdx,q⟩:=q
  cases hC';have M2:X.A.frames=some (X.env::X.outer):=O ▸ I.ok.frames
  have hJ:∀a t',Un (frs X.stack) [] E G s0.heap a->HOk X.prog X.w G a->Inv X Z L G {M with heap:=a,toks:=t'}:=λa t' u k=>
   I0.call' (s':={M with heap:=a,toks:=t'}) os u k bare (λb z=>Zp z<|by simp)
  have J1:=hJ M.heap M.toks un hok;have G1:Un (frs (X.env::X.outer)) [] E G s0.heap M.heap:=O ▸ un;refine O4 (P:=X.prog) (w:=X.w) (base:=X.base) (s:=s0) M2 (O ▸ J1.stack) G4 (O ▸ J1.stkFree) G1 hok F λA Z9 R F2=>?_;have N:Un (frs X.stack) [] E G s0.heap A:=O ▸ Z9;have J2:=hJ A M.toks N R;obtain⟨ut,kt⟩:=F2.track N R
  have inst:∀h3,HOk X.prog X.w (upd G J<|XY J C T) h3->∃g p,PySem.W.InstAt h3 J g C p:=λh3 k3=>by
   obtain⟨⟨g,e1,e2,e3,e4⟩,_⟩:=(show VN X.prog X.w _ h3 J (XY J C T)from k3 J _ YZ)
   cases hd:T with
   |none=>exact⟨g,none,e1,e2,e3,by rw[e4,hd];trivial⟩
   |some d=>
    obtain⟨o,f⟩:=hdx d hd
    have G5:upd G J (XY J C T) d=some o:=by
     rw[Yc (λz=>by rw[z,F2.free]at f;cases f)];exact f
    obtain⟨u,hu⟩:=(k3 d o G5).ex;exact⟨g,some u,e1,e2,e3,by rw[e4,hd];exact hu⟩
  have JS:Inv (X.sui<|X.A.mark<|some<|.ref J) Z L G {M with heap:=A}:=J2.sui<|GS I.ok.frames;refine wpAny_handleBy_cons (codeAny_handlers_test<|UE JS hg hm ?_ L1) (by intro z;cases z);obtain⟨g,p,IA⟩:=inst A kt;refine PySem.W.exc_matches (s:={M with heap:=A}) JS.kIn IA hC.cls hC.ty hC.base hsub ?_;refine codeAny_handlers_suite_as<|FZ (P:=X.prog) (w:=X.w) (s:=s0) N R F2 (λb hb o vs f=>?_) λh4 Z8 c F4=>?_
  .obtain ⟨_,o',ho',hd'⟩:=J2.stack.mem hb
   have G3:A.get? b=some o:=f;have B:A.get? b=some o':=ho';rw[G3]at B;cases B;exact hd' vs
  .obtain ⟨ut4,kt4⟩:=F4.track Z8 c
   have J4:Inv X Z L (upd G J<|XY J C T) {M with heap:=h4}:=I0.call' (s':={M with heap:=h4}) os ut4 kt4 bare (λb z=>Zp z<|by simp);refine WG (v:=.ref J) J4 l r (.inl t) Y (λs5 J5=>?_) (.inr t);have R1:Inv (X.sui<|X.A.mark<|some<|.ref J) Z (L.set i<|some<|.ref J) (upd G J<|XY J C T) s5:=J5.sui<|GS I.ok.frames;refine Zl (hs _ Z s5 _ _ _ R1<|q J F4.free) (λfl s6 z=>?_) λ_ _ z=>z.elim
   cases fl with
   |next=>
    obtain⟨σ6,y,Q,z⟩:=z;exact name_goes (Q.unsui I.ok) l r t λs7 S=>⟨_,y,S,z⟩
   |brk=>
    obtain⟨σ6,y,Q,z⟩:=z;exact name_goes (Q.unsui I.ok) l r t λs7 S=>⟨_,y,S,z⟩
   |cont=>
    obtain⟨σ6,y,Q,z⟩:=z;exact name_goes (Q.unsui I.ok) l r t λs7 S=>⟨_,y,S,z⟩
   |ret u=>
    obtain⟨v,σ6,y,Q,rv,z⟩:=z;exact name_goes (Q.unsui I.ok) l r t λs7 S=>⟨v,_,y,S,rv,z⟩
end
def Ds(O:List (Str×NameKind)):∀(Z:List (Str×Addr)),(∀x∈O,x.2=.free->∃c,env.cells.lookup x.1=some c)->
  ∃L,(forIn O Z (λ(x:Str×NameKind)(r:List (Str×Addr))=>(if(x.2==NameKind.free)=true then do let c <-cellOf env x.1;pure (ForInStep.yield ((x.1,c)::r))else pure (ForInStep.yield r):Sem (ForInStep<|List<|Str×Addr)))=pure L)/\
   (∀x c,L.lookup x=some c->env.cells.lookup x=some c\/Z.lookup x=some c)/\(∀x,(x,NameKind.free)∈O->∃c,L.lookup x=some c)/\(∀x c,Z.lookup x=some c->∃N,L.lookup x=some N):=by
 induction O with
 |nil=>intro Z _;exact⟨Z,Y,λx c h=>.inr h,λx h=>(nomatch h),λx c h=>⟨c,h⟩⟩
 |cons y r ih=>
  intro Z h;obtain⟨n,k⟩:=y
  by_cases hk:k=.free
  .subst hk
   obtain⟨c,D⟩:=h (n,.free) ZY rfl;obtain⟨L,B,T,R,M⟩:=ih ((n,c)::Z) λx J=>h x<|ZK _ J;refine⟨L,?_,λx N J=>?_,λx J=>?_,λx N J=>?_⟩
   .rw [<-B]
    simp only[vF,beq_self_eq_true,if_true,cellOf,D]
    rfl
   .rcases T x N J with q|q
    .exact .inl q
    .rw [yq]at q
     cases G:x==n with
     |true=>
      rw[G]at q;have:x=n:=by simpa using G
      subst this;cases q;exact .inl D
     |false=>rw[G]at q;exact .inr q
   .rcases Zb.mp J with q|q
    .cases q
     exact M n c<|by simp[yq]
    .exact R x q
   .cases G:x==n with
    |true=>exact M x c<|by simp[yq,G]
    |false=>exact M x N<|by simp[yq,G,J]
  .obtain ⟨L,B,T,R,M⟩:=ih Z λx J=>h x<|ZK _ J
   have G:(k==NameKind.free)=false:=by simpa using hk
   refine⟨L,?_,T,λx J=>?_,M⟩
   .rw [<-B]
    simp only[vF,G,vd,if_false]
    rfl
   .rcases Zb.mp J with q|q
    .cases q;exact Zp Y hk
    .exact R x q
def Dr(h:∀x∈scope.names,x.2=.free->∃c,env.cells.lookup x.1=some c):
  ∃Z,closureFor scope env=pure Z/\(∀x c,Z.lookup x=some c->env.cells.lookup x=some c)/\(∀x,(x,NameKind.free)∈scope.names->∃c,Z.lookup x=some c):=by
 obtain⟨Z,M,L,G,_⟩:=Ds scope.names [] h;refine⟨Z,?_,λx c J=>(L x c J).resolve_right (by simp),G⟩;rw[<-bind_pure (pure Z:Sem (List<|Str×Addr)),<-M]
 rfl
theorem WN{scope:Scope}{Z:Env}{x:Str}:∀{names:List (Str×NameKind)},(names.map λ(n,k)=>if(k==NameKind.free && Z.scope.kind==.function && Z.kindOf n==some .cell)then(n,NameKind.cell)else(n,k)).lookup x=some .cell \/
  (names.map λ(n,k)=>if(k==NameKind.free && Z.scope.kind==.function && Z.kindOf n==some .cell)then(n,NameKind.cell)else(n,k)).lookup x=some .free->(∀y∈names,y.2≠.cell)->(x,NameKind.free)∈names
 |[],h,_=>by simp at h
 |(n,k)::r,h,hc=>by
  have ih:= @WN scope Z x r;rw[ZT]at h
  have G:∀M:NameKind,(∀J,((n,M)::(r.map λ(n,k)=>if(k==NameKind.free && Z.scope.kind==.function && Z.kindOf n==some .cell)then(n,NameKind.cell)else(n,k))).lookup x=some J->(x=n/\M=J)\/(r.map λ(n,k)=>if(k==NameKind.free && Z.scope.kind==.function && Z.kindOf n==some .cell)then(n,NameKind.cell)else(n,k)).lookup x=some J):=λM J q=>by
   rw[yq]at q
   cases hb:x==n with
   |true=>rw[hb]at q;exact .inl ⟨by simpa using hb,ZP q⟩
   |false=>rw[hb]at q;exact .inr q
  dsimp only at h
  split at h
  .rename_i hk
   have O:k=.free:=by
    cases k <;> simp at hk
    rfl
   subst O;rcases h with h|h
   .rcases G _ _ h with⟨e,_⟩|q
    .subst e;exact ZY
    .exact ZK _ (ih (.inl q) λy L=>hc y<|ZK _ L)
   .rcases G _ _ h with⟨e,_⟩|q
    .subst e;exact ZY
    .exact ZK _ (ih (.inr q) λy L=>hc y<|ZK _ L)
  .rcases h with h|h
   .rcases G _ _ h with⟨e,N⟩|q
    .exact Zp N (hc (n,k) ZY)
    .exact ZK _ (ih (.inl q) λy L=>hc y<|ZK _ L)
   .rcases G _ _ h with⟨e,N⟩|q
    .subst e;subst N;exact ZY
    .exact ZK _ (ih (.inr q) λy L=>hc y<|ZK _ L)
def N6(I:Nat->Shared->Prop)(turn:∀n s,I n s->wpAny (model prog w) A (pyNext it) (λr G=>match r with
   |none=>R (.ok .next) G
   |some v=>wpAny (model prog w) A (letOwnedTupleGo target it v) (λ_ J=>wpAny (model prog w) A (assign target env v) (λ_ O=>wpAny (model prog w) A (eval elt env) (λx N=>
     wpAny (model prog w) A (call (.builtin "list.append") [acc,x]) (λ_ M=>∃m,m<n/\I m M) (λ_ _=>False) N)
     (λ_ _=>False) O) (λ_ _=>False) J) (λ_ _=>False) G) (λ_ _=>False) s)(n:Nat)(h:I n s):codeAny (model prog w) A
   (.compLoop (.ListComp elt [⟨target,iter,[],0⟩] scope pos) 0 it acc env) R s:=by
 refine codeAny_loop Y I (λn s B=>wpAny_noted (m:=compTurn (.ListComp elt [⟨target,iter,[],0⟩] scope pos) 0 it acc env) ?_) n h;rw[compTurn_list1];refine Zj<|yw<|Zj<|Zl (turn n s B) (λr G T=>?_) λ_ _ Z=>Z.elim
 cases r with
 |none=>exact Zk T
 |some v=>
  exact Zj (Zl T (λ_ J L=>Zj (Zl L (λ_ O F=>Zj (Zj (Zl F (λx N E=>Zj (Zl E
   (λ_ M D=>Zk<|Zk ⟨rfl,D⟩) λ_ _ Z=>Z.elim)) λ_ _ Z=>Z.elim))) λ_ _ Z=>Z.elim)) λ_ _ Z=>Z.elim)
theorem GO{Z:Env}{x:Str}:∀{names:List (Str×NameKind)},names.lookup x=some .free->
  (names.map λ(n,k)=>if(k==NameKind.free && Z.scope.kind==.function && Z.kindOf n==some .cell)then(n,NameKind.cell)else(n,k)).lookup x≠some .local
 |[],h=>by simp at h
 |(n,k)::r,h=>by
  have ih:= @GO Z x r;rw[ZT];dsimp only[rI0,rI,U1];rw[yq]at h
  cases hb:x==n with
  |true=>
   rw[hb]at h;have J:k=.free:=ZP h;subst J
   split <;> simp[yq,hb]
  |false=>
   rw[hb]at h
   split <;> (simp only[yq,hb];exact ih h)
def VJ(X:Cx)(N':ky)(scope:Scope)(cl:List (Str×Addr))(C:Addr)(fp:kF)(s:Shared)(H:Hp):Cx:=
 {X with N:=N',s₀:=s,H₀:=H,env:=compEnvC scope cl C X.env,outer:=X.stack,stack:=X.stack,ex:=fp,fn:=λ_=>false,pn:=[],xe:=λ_ _=>False}
def Vb(X:Cx)(own:ky)(ix:List Nat):ky:=own++ ix.map λj=>X.N.getD j ("":Str)
def Vn(k:Nat)(ix:List Nat)(U:St):St:=List.replicate k none++ ix.map λj=>U.getD j none
def GK(k:Nat)(g:TG):Prop:=∀x U H Q,g x U H Q->g x U H fun σ2 Z=>Q σ2 Z/\σ2.length=U.length/\σ2.drop k=U.drop k
def VP(h:i<k):GK k (Vi i):=λx U H Q q=>⟨q,by simp,by rw[List.drop_set,Zn h]⟩
def GKs(k:Nat)(g:TGs):Prop:=∀x U H Q,g x U H Q->g x U H fun σ2 Z=>Q σ2 Z/\σ2.length=U.length/\σ2.drop k=U.drop k
def Sl:GKs k Nw:=λx U H Q q=>by
 match x,q with
 |[],q=>exact⟨q,Y,Y⟩
def Eb(R:GK k g)(O:GKs k gs)(N:∀x U H (Q Z:kM),(∀a b,Q a b->Z a b)->g x U H Q->g x U H Z)(M:∀x U H (Q Z:kM),(∀a b,Q a b->Z a b)->gs x U H Q->gs x U H Z):GKs k (U9 g gs):=λx U H Q q=>by
 match x,q with
 |v::r,q=>
  refine N _ _ _ _ _ (λa b z=>?_)<|R _ _ _ _ q;obtain⟨L,G,J⟩:=z;refine M _ _ _ _ _ (λc d y=>?_)<|O _ _ _ _ L;exact⟨y.1,y.2.1.trans G,y.2.2.trans J⟩
def Sk{K:W.Frag}(h:GKs k gs):GK k (PU K n gs):=λx U H Q q=>by
 match x,q with
 |.ref a,q=>
  obtain⟨Z,G,J,q⟩:=q;exact⟨Z,G,J,h _ _ _ _ q⟩
def RI(J:It)(g:TG)(te:TE)(s0:St)(Q:VK)(H1:Hp):Prop:=∃W:Nat->Nat->List V->Hp->Prop,(∃m,W 0 m [] H1)/\∀i m Z H,W i m Z H->
 Z.length<sizeLine/\((J.stop i H/\∀p,H p=none->Q (.ref p) (upd H p<|.lst Z)) \/
  (J.go i H/\∀x L,J.yld i H x L->g x s0 L fun σ2 N=>te σ2 N λy M=>∃G,G<m/\W (i+1) G (Z++[y]) M))
def Pq(k:Nat)(ix:List Nat)(wi:TI)(g:TG)(te:TE):TE:=λU H Q=>wi U H λJ Z=>RI J g te (Vn k ix U) Q Z
def Inv.retrack(I:Inv X Z U H s)(O:H D=none)(f:UG X Z H D)(L:VN X.prog X.w (upd H D o) s.heap D o):Inv X Z U (upd H D o) s:=by
 have G:∀b u,H b=some u->b≠D:=λb u e=>Yk e O;have r:=I.step (h':=s.heap) (H':=upd H D o) (g':=s.gens) (d':=s.drawn) (t':=s.toks) (ch:=[D])
  (λb J=>by
   have e:b=D:=by simpa using J
   subst e;exact⟨f.2.2.2.1,f.2.1,f.2.2.2.2.1,f.2.2.2.2.2⟩)
  (λb o _ _ _ e _=>e) (λb o _ _ _ e _=>⟨o.slots,e⟩) (λb o J e n=>by rw[Yc (λz=>J<|by simp[z])];exact n) (λb o _ e=>⟨o,e⟩)
  (λb M e=>by rw[Yc (G _ _ e)];exact e) (λb o u e=>by rw[Yc (G _ _ e)];exact e) (λb R e=>⟨#[],by rw[Yc (G _ _ e),e];simp⟩) (λm N=>N)
  (λb u e=>by
   by_cases J:b=D
   .subst J;rw[YZ]at e;cases e;exact L
   .rw [Yc J]at e
    exact(I.hok b u e).stay (λc v _ q=>q) (λc q=>by rw[Yc (G _ _ q)];exact q) λc M q=>by rw[Yc (G _ _ q)];exact q) I.bare
 exact r
def UR(sc:Scope)(outer:List (Str×NameKind))(N:ky)(ix:List Nat):Bool:=
 sc.names.all (λx=>(decide (x.2≠.local) || decide (sc.names.lookup x.1=some .local)) && decide (x.2≠.cell) && (decide (x.2≠.free) || decide (outer.lookup x.1=some .cell) || decide (outer.lookup x.1=some .free))) &&
  ix.all λj=>match N[j]? with
   |some y=>decide<|sc.names.lookup y=some .free
   |none=>false
def UR.all(Z:UR sc outer N ix=true):
  (∀x∈sc.names,x.2=.local->sc.names.lookup x.1=some .local)/\(∀x∈sc.names,x.2≠.cell)/\(∀x∈sc.names,x.2=.free->outer.lookup x.1=some .cell\/outer.lookup x.1=some .free)/\∀j∈ix,∃y,N[j]?=some y/\sc.names.lookup y=some .free:=by
 unfold UR at Z;rw[ZX,vy,vy]at Z;have each:=λx J=>Z.1 x J;simp only[ZX,Bool.or_eq_true,decide_eq_true_eq]at each;refine⟨λx J G=>(each x J).1.1.resolve_left λz=>z G,λx J=>(each x J).1.2,λx J M=>?_,λj L=>?_⟩
 .rcases (each x J).2 with(z|z)|z
  .exact Zp M z
  .exact .inl z
  .exact .inr z
 .have q:=Z.2 j L
  cases e:N[j]? with
  |none=>rw[e]at q;cases q
  |some y=>rw[e]at q;exact⟨y,Y,Zr q⟩
structure CB(X:Cx)(own:List Str)(ix:List Nat)(scope:Scope)(pins:List (Addr×Obj))(U:St)(tg:Expr)(cl:List (Str×Addr))(D C:Addr)(fp:List Addr)(it:Addr)(tn:Nat->Heap->Prop)(J:It)(H2:Hp)(s3:Shared):Prop where
 T:Turn X.prog X.w X.K tg J fp it tn
 ok:(VJ X (Vb X own ix) scope cl C (D::fp) s3 H2).Ok
 nfp:∀b∈fp,b≠D
 f2:∀b∈fp,UG X pins H2 b
 fD:UG X pins H2 D
 I3:Inv X pins U H2 s3
 CD:C≠D
 fC:∀H':Hp,H' C=none->UG X pins H' C
section
def Ur{rest:List Comprehension}(own:ky)(E:List Nat)(hi:PI X tg iter wi)(M:scope.kind=.function)(R5:UR scope X.env.scope.names X.N E=true)(hs:∀x,foldedSetIterable iter X.env x=pure x)(I:Inv X G U H s)(h:wi U H R)(loop:∀(cl:List (Str×Addr))(D C:Addr)(fp:kF)(it:Addr)(tn:Nat->Heap->Prop)(J:It)(A:Hp)(s3 s5:Shared),CB X own E scope G U tg cl D C fp it tn J A s3->R J A->Inv (VJ X (Vb X own E) scope cl C (D::fp) s3 A) [] (Vn own.length E U) A s5->tn 0 s5.heap->s5.heap.PlainList D (List.toArray [])->
   codeAny (model X.prog X.w) X.A (.compLoop (.ListComp elt (⟨tg,iter,ifs,0⟩::rest) scope pos) 0 (.ref it) (.ref D)<|compEnvC scope cl C X.env) (compPost (model X.prog X.w) X.A X.xe use POST (.ref D) C) s5):
  wpAny (model X.prog X.w) X.A (comprehension (.ListComp elt (⟨tg,iter,ifs,0⟩::rest) scope pos) scope X.env cpos (newList []) false (eval iter X.env) use) POST X.xe s:=by
 obtain⟨Z9,Q,J5,R6⟩:=UR.all R5;have J1:∀x∈scope.names,x.2=.free->∃c,X.env.cells.lookup x.1=some c:=λx hx hf=>I.ok.has x.1<|J5 x hx hf;obtain⟨cl,R7,Z,J4⟩:=Dr J1;refine wpAny_comprehension_free Y hs R7 M Z9 ?_;refine thn (hi G s U H _ I h) λv s1 h1=>thn h1 λT2 w h2=>?_;obtain⟨it,fp,tn,J,A,e,O,T,G3,f2,hR⟩:=h2;subst e;refine yk<|wpAny_newFunctionEnv Q (by intro y hy;simp at hy) (λh4 Z8 n=>?_) M;dsimp only at Z8 n |-;generalize hh3:w.heap.push {cls:=.type "list",dict:=none,data:=.seq ([]:kq).toArray}=h3 at Z8 n |-;have G5:h3.objs.size=w.heap.objs.size+1:=by rw[<-hh3,yj]
 have l:∀b u,w.heap.get? b=some u->h3.get? b=some u:=λb u q=>by rw[<-hh3];exact ZD _ q
 have D3:h3.get? w.heap.objs.size=some {cls:=.type "list",data:=.seq #[]}:=by rw[<-hh3];exact ZW _ Y
 obtain⟨D,g⟩:∃D,D=w.heap.objs.size:=⟨_,rfl⟩;obtain⟨C,hC⟩:∃C,C=h3.objs.size:=⟨_,rfl⟩;rw[<-hC]at Z8 n;rw[<-g]at D3 G5;have F:C=D+1:=hC.trans G5
 let s3:Shared:={w with heap:=h3}
 have I3:Inv X G U A s3:=O.kept (t':=w.toks) l;have R4:∀b u,h3.get? b=some u->b<C:=λb u q=>by rw[hC];exact ZN q
 have L:∀b u,h3.get? b=some u->h4.get? b=some u:=λb u q=>n.extBut b u (Zc<|R4 b u q)<|ZD _ q;have T0:A D=none:=O.hok.fresh (by rw[g];exact ZF _);have T1:A C=none:=O.hok.fresh (by rw[F,g];exact yS _);have fD:UG X G A D:=O.fpOk (by rw[g];exact ZF _) T0
 have f:∀x c,X.env.cells.lookup x=some c->c<D:=λx c e=>by
  obtain⟨v,z⟩:=O.cell x c e;rw[g];exact z.lt
 have G1:∀b∈fp,b<D:=λb N=>by
  obtain⟨o,e,_⟩:=T.obj 0 _ G3 b N;rw[g];exact ZN e
 let X':Cx:=VJ X (Vb X own E) scope cl C (D::fp) s3 A
 have G2:∀b∈frs X.stack,b∉D::fp:=λb N z=>by
  rcases Zb.mp z with z|z
  .have q:=O.stack
   obtain⟨_,o,e,_⟩:=q.mem N;have:=ZN e;rw[z,g]at this;exact zX _ this
  .rcases Zb.mp (O.stkSub b N)with q|q
   .exact (f2 b z).2.1 q
   .exact (f2 b z).2.2.1 q
 have L1:X'.Ok:=by
  refine⟨I.ok.mod,M,I.ok.glob,I.ok.blt,?_,λx y c h1 h2=>I.ok.inj x y c (Z x c h1)<|Z y c h2,λx hx=>J4 x<|WN (scope:=scope) hx Q,(λx c z=>Bool.noConfusion (show false=true from z)),I.ok.hd,I.ok.frames,.inl rfl,λb N=>⟨?_,λx c h1=>?_⟩,λb o e=>?_,?_,λb o e N=>?_,λb N z=>G2 b z N,?_,λb N=>O.stkFree b N⟩
  .show h3.objs.size<=C
   rw[hC];exact ZF _
  .show b≠C
   rcases Zb.mp N with z|z
   .rw [z,F];exact Zc<|yV _
   .rw [F];exact Zc<|Nat.lt_succ_of_lt<|G1 b z
  .rcases Zb.mp N with z|z
   .rw [z];exact Zc<|f x c<|Z x c h1
   .exact (f2 b z).2.2.2.2.1 x c (Z x c h1)
  .exact I3.bs b o e
  .show X.base.objs.size<=h3.objs.size
   have:=ZZ I.ok.bsz O.sz;rw[<-g]at this;rw[<-hC,F];exact Nat.le_succ_of_le this
  .rcases Zb.mp N with z|z
   .have:=ZN<|O.bk b o e
    rw[z,g]at this;exact zX _ this
   .rcases (f2 b z).2.2.2.1 with q|q
    .exact I.ok.noex b o e q
    .have:=Zv (ZN (I.ok.bs b o e).1) q
     exact zX _ this
  .exact I3.stack
 have M2:(Vn own.length E U).length=(Vb X own E).length:=by simp[Vn,Vb]
 have I4:∀t,Inv X' [] (Vn own.length E U) A {w with heap:=h4,toks:=t}:=λt=>by
  refine⟨L1,Y,O.bare,Un.kept L,⟨_,Z8,λi x v e1 e2 e3=>?_⟩,λx c e=>?_,T1,λx c e=>O.freeC x c<|Z x c e,λp hp=>Zp (show p∈([]:kh)from hp) (by simp),(I3.hok).kept L,M2⟩
  .-- a name of the def that the block reads
   have R3:own.length<=i:=by
    apply vx;intro R1;unfold Vn at e2;rw[zn (by simpa using R1),yH,Zn R1]at e2;cases e2
   have d:(E.map λj=>X.N.getD j ("":Str))[i-own.length]?=some x:=by
    have z:(own++ E.map λj=>X.N.getD j ("":Str))[i]?=some x:=e1
    rwa [zq R3]at z
   have G4:(E.map λj=>U.getD j none)[i-own.length]?=some (some v):=by
    unfold Vn at e2;rw[zq (by simpa using R3)]at e2;simpa using e2
   rw[ZG]at d G4
   cases hj:E[i-own.length]? with
   |none=>rw[hj]at d;cases d
   |some j=>
    rw[hj]at d G4;obtain⟨y,hy,P⟩:=R6 j<|ZH hj
    have ex:x=y:=by
     have z:X.N.getD j ("":Str)=x:=ZP d;rw[<-z,zj,hy];rfl
    subst ex
    have ev:U[j]?=some (some v):=by
     have z:U.getD j none=some v:=ZP G4;rw[zj]at z
     cases q:U[j]? with
     |none=>rw[q]at z;cases z
     |some a=>rw[q]at z;exact congrArg some z
    have N2:=yG P;have J2:=J5 _ N2 rfl;obtain⟨m,hn,hl⟩:=O.loc;obtain⟨u,r,lk⟩:=hl j x v hy ev<|.inr J2;refine⟨u,r,.inr ⟨?_,?_⟩⟩
    .rcases e3 with z|z
     .exact Zp z (GO P)
     .exact z
    .rcases lk with⟨k,_⟩|⟨_,c,R8,z⟩
     .rcases J2 with q|q
      .exact Zp (k.symm.trans q) (by simp)
      .exact Zp (k.symm.trans q) (by simp)
     .obtain ⟨c',hc'⟩:=J4 x N2
      have:=Z x c' hc';rw[R8]at this;cases this;obtain⟨o,ho,hd⟩:=z;exact⟨c,hc',o,L _ _<|l _ _ ho,hd⟩
  .obtain ⟨v,z⟩:=I3.cell x c<|Z x c e
   obtain⟨o,ho,hd⟩:=z;exact⟨v,o,L _ _ ho,hd⟩
 have B:CB X own E scope G U tg cl D C fp it tn J A s3:=⟨T,L1,λb N=>Zc<|G1 b N,f2,fD,I3,by rw[F];exact yh<|yV _,λH' hn=>O.fpOk (by rw[F,g];exact yS _) hn⟩;have S:=λt=>loop cl D C fp it tn J A s3 {w with heap:=h4,toks:=t} B hR (I4 t) (T.keep 0 _ _ G3 λb _ o e=>L _ _<|l _ _ e) ⟨_,L _ _ D3⟩;rw[<-hC,<-g];exact codeAny_compStart_list (S _)<|T.self _ 0 _ _ _ (T.keep 0 _ _ G3 λb _ o e=>L _ _<|l _ _ e)<|S _
def CB.stop(B:CB X own ix scope Z U tg cl D C fp it tn J I s3)(G:Inv (VJ X (Vb X own ix) scope cl C (D::fp) s3 I) [(D,oD)] τ H5 s6)(R:ys.length<sizeLine)(O:Vals ys L)(F:oD={cls:=.type "list",data:=.seq L.toArray nn}):
  Inv X Z U (upd H5 D<|.lst ys) s6/\UG X Z (upd H5 D<|.lst ys) C/\(∃m,s6.heap.Ns C m)/\H5 D=none:=by
 obtain⟨m,N,_⟩:=id G.loc
 have A:Inv X Z U H5 s6:=B.I3.call' (ch:=D::fp) G.os G.base G.hok G.bare λb T=>by
  rcases Zb.mp T with z|z
  .subst z
   exact⟨B.fD.2.2.2.1,B.fD.2.1,B.fD.2.2.2.2.1,B.fD.2.2.2.2.2⟩
  .have f:=B.f2 b z
   exact⟨f.2.2.2.1,f.2.1,f.2.2.2.2.1,f.2.2.2.2.2⟩
 obtain⟨E,M,_⟩:=G.pin (D,oD) (by simp);subst F;exact⟨A.retrack (o:=.lst ys) M ⟨M,B.fD.2⟩ ⟨Zf R,L,nn,O,E⟩,B.fC _ (by rw[Yc B.CD];exact G.free),⟨m,N⟩,M⟩
def Do(R:Inv X Z U L s6)(J:UG X Z L C)(N:∃m,s6.heap.Ns C m)(q:Q (.ref D) L):compPost (model X.prog X.w) X.A X.xe none (EP X Z U Q) (.ref D) C (.ok .next) s6:=by
 obtain⟨m,M⟩:=N;exact⟨m,M,λT G=>⟨.ref D,_,R.turned (it:=C) (t':=s6.toks) (λb o O e=>(G.2 b O).trans e) J.1 J.2.1 J.2.2.2.1 J.2.2.2.2.1 J.2.2.2.2.2,Y,q⟩⟩
def Dn{F:Ends}(j:X.N.Nodup)(T:X.N[i0]?=some x0)(N:Loc X.env.scope x0)(P:X.fn x0=true\/X.env.scope.names.lookup x0=some .local)(t:Inv X Z U M s6)(G:UG X Z M C)(S:∃m,s6.heap.Ns C m)(q:Vi i0 (.ref D) U M F.nx):
  compPost (model X.prog X.w) X.A X.xe (some<|assign (.Name x0 py) X.env) (λ_ I=>∃E M,Inv X Z E M I/\F.nx E M) (.ref D) C (.ok .next) s6:=by
 obtain⟨m,R⟩:=S;show wpAny _ X.A (assign (.Name x0 py) X.env<|.ref D) _ _ _;refine wpAny_assign_Name<|RV (v:=.ref D) t j T N rfl (λA y J=>?_) P;obtain⟨a,J,L⟩:=J
 have B:C≠a:=by
  rcases L with L|L
  .rw [L];exact G.2.1
  .exact λz=>G.2.2.2.2.1 x0 a L z.symm
 exact⟨m,R.sameBut J B,λg O=>⟨_,_,y.turned (it:=C) (t':=A.toks) (λb o Q e=>(O.2 b Q).trans e) G.1 G.2.1 G.2.2.2.1 G.2.2.2.2.1 G.2.2.2.2.2,q⟩⟩
def Mc(J:swapsWith (.ListComp e gens scope pos) (some<|.Name x0 py) spos.line X.env=pure true)(h:wpAny (model X.prog X.w) X.A (comprehension (.ListComp e gens scope pos) scope X.env (firstIterPos gens pos) (newList []) (firstAsync gens) (firstIter gens X.env)<|some<|assign (.Name x0 py) X.env) (λ_ G=>∃L M,Inv X Z L M G/\D0.nx L M) X.xe s):
  wpAny (model X.prog X.w) X.A (exec (.Assign [.Name x0 py] (.ListComp e gens scope pos) spos) X.env) (SP X Z D0) X.xe s:=by
 rw[exec_Assign_Name_used _ _ _ _ J];refine Zj<|yw<|Zj (?_:wpAny _ X.A (do let _ <-comprehension (.ListComp e gens scope pos) scope X.env _ (newList []) _ _ (some<|assign (.Name x0 py) X.env)) _ _ s);exact Zj<|Zl h (λ_ G N=>Zk<|Zk N) λ_ _ e=>e
def CB.loop1(B:CB X own ix scope A U tg E D C M it tn J w s3)(hc:X.calm=true)(G4:GK own.length g)(hg:∀E C M s H,PG (VJ X (Vb X own ix) scope E C M s H) tg g)(he:∀E C M s H,PE (VJ X (Vb X own ix) scope E C M s H) elt te)(cw:RI J g te (Vn own.length ix U) Q w)(L1:∀h F ys,Inv X A U (upd F D<|.lst ys) h->UG X A (upd F D<|.lst ys) C->(∃m,h.heap.Ns C m)->Q (.ref D) (upd F D<|.lst ys)->Rs (.ok .next) h)(I4:Inv (VJ X (Vb X own ix) scope E C (D::M) s3 w) [] (Vn own.length ix U) w P)(J4:tn 0 P.heap)(lD:P.heap.PlainList D (List.toArray [])):
  codeAny (model X.prog X.w) X.A (.compLoop (.ListComp elt [⟨tg,iter,[],0⟩] scope pos) 0 (.ref it) (.ref D)<|compEnvC scope E C X.env) Rs P:=by
 obtain⟨W,⟨m0,w0⟩,turn⟩:=cw;have T:=B.T;have N:=B.ok;have Z8:=B.nfp
 let R:Cx:=VJ X (Vb X own ix) scope E C (D::M) s3 w
 have c:∀{I:Hp}{pl:kh},(∀p∈pl,p.1=D)->(∀b∈M,I b=none)->∀b∈M,UG R pl I b:=λ{I pl} O hn b L=>
  ⟨hn b L,(N.exf b<|ZK _ L).1,N.exfs b<|ZK _ L,.inl<|ZK _ L,(N.exf b<|ZK _ L).2,λp G1 z=>Z8 b L (z ▸ O p (by
   have q:p∈([]:kh)++ pl:=G1;simpa using q))⟩
 have dX:D≠R.env.locals:=(N.exf D ZY).1;have dF:D∉R.fs:=N.exfs D ZY;refine N6 (λn s'=>∃i ys Z I,Inv R [] (Vn own.length ix U) I s'/\tn i s'.heap/\(∀b∈M,I b=none)/\I D=none/\s'.heap.PlainList D (List.toArray Z)/\Vals ys Z/\W i n ys I) ?_ m0
  ⟨0,[],[],w,I4,J4,λb L=>(B.f2 b L).1,B.fD.1,lD,.nil,w0⟩
 rintro n P ⟨i,ys,Z,F,I5,a,J1,d5,⟨nn,l5⟩,v5,w5⟩;obtain⟨hz,k⟩:=turn i n ys F w5
 let oD:Obj:={cls:=.type "list",data:=.seq Z.toArray nn}
 have G:∀p∈ [((D,oD):Addr×Obj)],p.1=D:=λp O=>by
  have e:p=(D,oD):=by simpa using O
  rw[e]
 have J2:Inv R [(D,oD)] (Vn own.length ix U) F P:=I5.pins_of λp O=>by
  have e:p=(D,oD):=by simpa using O
  subst e;exact⟨l5,d5,dX,dF,λv z=>nomatch z⟩
 rcases k with⟨stop,qn⟩|⟨go,step⟩
 .refine thn (T.done R rfl rfl rfl hc i _ P _ F _ J2 (c G J1) a stop) λr h ⟨hr,I6⟩=>?_
  subst hr;obtain⟨z1,z2,z3,nD⟩:=B.stop I6 hz v5 rfl;exact L1 h F ys z1 z2 z3<|qn D nD
 .refine thn (T.item R rfl rfl rfl hc i _ P _ F _ J2 (c G J1) a go) λr h ⟨u,hr,h6⟩=>?_
  subst hr;refine thn h6 λ_ s7 ⟨x,H7,I7,r7,y7,S,G5⟩=>?_;have N2:=I7.pinned (c G G5)<|T.obj _ _ S;refine thn (hg E C (D::M) s3 w _ s7 _ H7 x u _ N2 r7<|G4 _ _ _ _<|step x H7 y7) λ_ s8 ⟨σ8,H8,I8,q8,l8,k8⟩=>?_;refine thn (he E C (D::M) s3 w _ s8 σ8 H8 _ I8 q8) λyv s9 ⟨y,H9,I9,r9,m',G2,w9⟩=>?_;obtain⟨gD,nD,_⟩:=I9.pin (D,oD) (by simp);have Z9:Z.length=ys.length:=v5.length.symm;refine je (l:=D) (items:=Z.toArray) ⟨nn,gD⟩ (λh' G3 J5=>?_) (by rw[ZM,Z9];exact Zf hz);have kp:∀b o,b≠D->s9.heap.get? b=some o->h'.get? b=some o:=λb o L q=>(J5.2 b L).trans q
  have M2:Inv R (VV M s7.heap) σ8 H9 s9:=I9.pins_of λp O=>I9.pin p (by
   refine ZQ _<|ZQ _ O)
  have t:∀p∈R.pn++ VV M s7.heap,p.1≠D:=λp O=>by
   have q:p∈([]:kh)++ VV M s7.heap:=O;exact Z8 _ (Xi<|by simpa using q).1
  have f:Inv R (VV M s7.heap) σ8 H9 {s9 with heap:=h',toks:=s9.toks}:=M2.turned (it:=D) kp nD dX (.inl ZY) (N.exf D ZY).2 t;refine⟨m',G2,i+1,ys++[y],Z++[yv],H9,?_,?_,?_,nD,?_,v5.append<|.cons r9 .nil,w9⟩
  .refine Inv.weak (f.pins_of (pins':=[]) λp O=>nomatch O) (by rw[l8]) λj v hj=>?_
   by_cases hlt:j<own.length
   .unfold Vn at hj
    rw[zn (by simpa using hlt),yH,Zn hlt]at hj;cases hj
   .have e:σ8[j]?=(Vn own.length ix U)[j]?:=by
     have q:=congrArg (λl:List (kO)=>l[j-own.length]?) k8;simp only[ve]at q
     rwa [jh (vx hlt)]at q
    rw[e];exact hj
  .exact T.keep _ _ _ S λb L o e=>(f.pin (b,o)<|ZQ _<|Vl L e).1
  .intro b L
   obtain⟨o,e,d⟩:=T.obj _ _ S b L;exact(f.pin (b,o)<|ZQ _<|Vl L e).2.1
  .have e:(Z++[yv]).toArray=Z.toArray.push yv:=by simp
   rw[e];exact G3
end
def Mz(I:Nat->Shared->Prop)(turn:∀n s,I n s->wpAny (model prog w) A (pyNext it) (λr M=>match r with
   |none=>R (.ok .next) M
   |some v=>wpAny (model prog w) A (letOwnedTupleGo target it v) (λ_ L=>wpAny (model prog w) A (assign target env v) (λ_ B=>wpAny (model prog w) A (isTrue ct env<|eval ct env) (λb G=>if b=true then wpAny (model prog w) A (eval elt env) (λx T=>
     wpAny (model prog w) A (call (.builtin "list.append") [acc,x]) (λ_ O=>∃m,m<n/\I m O) (λ_ _=>False) T)
     (λ_ _=>False) G else ∃m,m<n/\I m G) (λ_ _=>False) B) (λ_ _=>False) L) (λ_ _=>False) M) (λ_ _=>False) s)(n:Nat)(h:I n s):codeAny (model prog w) A (.compLoop (.ListComp elt [⟨target,iter,[ct],0⟩] scope pos) 0 it acc env) R s:=by
 refine codeAny_loop Y I (λn s E=>wpAny_noted (m:=compTurn (.ListComp elt [⟨target,iter,[ct],0⟩] scope pos) 0 it acc env) ?_) n h;rw[compTurn_list];refine Zj<|yw<|Zj<|Zl (turn n s E) (λr M D=>?_) λ_ _ Z=>Z.elim
 cases r with
 |none=>exact Zk D
 |some v=>
  refine Zj<|Zl D (λ_ L N=>Zj<|Zl N (λ_ B U=>?_) λ_ _ Z=>Z.elim) λ_ _ Z=>Z.elim;dsimp only;refine Zj ?_;rw[vF];simp only[if_true];refine Zj<|Zj<|Zl U (λb G J=>Zk ?_) λ_ _ Z=>Z.elim;dsimp only;rw[List.forIn_nil];refine Zk ?_
  cases b with
  |true=>
   rw[Zn rfl]at J;simp only[if_true];exact Zj<|Zj<|Zl J (λx T S=>Zj<|Zl S (λ_ O F=>Zk<|Zk ⟨rfl,F⟩) λ_ _ Z=>Z.elim) λ_ _ Z=>Z.elim
  |false=>
   rw[Zo (by simp)]at J;simp only[Zo Zg];exact Zk ⟨Y,J⟩
def M8(J:It)(g:TG)(tc:TT)(te:TE)(s0:St)(Q:VK)(H1:Hp):Prop:=∃W:Nat->Nat->List V->Hp->Prop,(∃m,W 0 m [] H1)/\∀i m Z H,W i m Z H->
 Z.length<sizeLine/\((J.stop i H/\∀p,H p=none->Q (.ref p) (upd H p<|.lst Z)) \/
  (J.go i H/\∀x M,J.yld i H x M->g x s0 M fun σ2 O=>tc σ2 O λb L=>if b=true then te σ2 L λy N=>∃G,G<m/\W (i+1) G (Z++[y]) N else ∃G,G<m/\W (i+1) G Z L))
def IO(k:Nat)(ix:List Nat)(wi:TI)(g:TG)(tc:TT)(te:TE):TE:=λU H Q=>wi U H λJ Z=>M8 J g tc te (Vn k ix U) Q Z
def RG(n:Nat)(C:n<sizeLine)(L:Nat->List V->Hp->Prop)(S:L 0 [] H)(O:∀i Z H,L i Z H->Z.length<=i)(D:∀i Z H,i<n->L i Z H->J.go i H)(M:∀Z H,L n Z H->J.stop n H)(F:∀i Z H x T (R:Bool->V->Hp->Prop),i<n->L i Z H->J.yld i H x T->(∀v G,L (i+1) (Z++[v]) G->R true v G)->(∀G,L (i+1) Z G->R false .non G)->g x s0 T λE U=>tc E U λb G=>if b=true then te E G (R true)else R false .non G)(A:∀Z H p,L n Z H->H p=none->Q (.ref p) (upd H p<|.lst Z)):
  M8 J g tc te s0 Q H:=by
 refine⟨λi m Z H=>m=n-i/\i<=n/\L i Z H,⟨n,by simp,Za _,S⟩,?_⟩;rintro i m Z H ⟨rfl,P,p⟩;have X:=O i Z H p;exists by omega
 by_cases hlt:i<n
 .exact .inr ⟨D i Z H hlt p,λx T y=>F i Z H x T (λb v G=>if b=true then ∃N,N<n-i/\N=n-(i+1)/\i+1<=n/\L (i+1) (Z++[v]) G else ∃N,N<n-i/\N=n-(i+1)/\i+1<=n/\L (i+1) Z G) hlt p y
   (λv G B=>by rw[Zn rfl];exact⟨n-(i+1),by omega,Y,hlt,B⟩) λG B=>by rw[Zo (by simp)];exact⟨n-(i+1),by omega,Y,hlt,B⟩⟩
 .have e:i=n:=by omega
  subst e;exact .inl ⟨M Z H p,λa I=>A Z H a p I⟩
section
def CB.loopI(B:CB X own ix scope c U tg E D C L it tn J f s3)(hc:X.calm=true)(R5:GK own.length g)(hg:∀E C L s H,PG (VJ X (Vb X own ix) scope E C L s H) tg g)(R6:∀E C L s H,PT (VJ X (Vb X own ix) scope E C L s H) ct tc)(he:∀E C L s H,PE (VJ X (Vb X own ix) scope E C L s H) elt te)(cw:M8 J g tc te (Vn own.length ix U) Q f)(R8:∀s6 t ys,Inv X c U (upd t D<|.lst ys) s6->UG X c (upd t D<|.lst ys) C->(∃m,s6.heap.Ns C m)->Q (.ref D) (upd t D<|.lst ys)->Rs (.ok .next) s6)(I4:Inv (VJ X (Vb X own ix) scope E C (D::L) s3 f) [] (Vn own.length ix U) f a)(M2:tn 0 a.heap)(lD:a.heap.PlainList D (List.toArray [])):
  codeAny (model X.prog X.w) X.A (.compLoop (.ListComp elt [⟨tg,iter,[ct],0⟩] scope pos) 0 (.ref it) (.ref D)<|compEnvC scope E C X.env) Rs a:=by
 obtain⟨W,⟨m0,w0⟩,turn⟩:=cw;have T:=B.T;have O:=B.ok;have G1:=B.nfp
 let R:Cx:=VJ X (Vb X own ix) scope E C (D::L) s3 f
 have J2:∀{w:Hp}{pl:kh},(∀p∈pl,p.1=D)->(∀b∈L,w b=none)->∀b∈L,UG R pl w b:=λ{w pl} I hn b G=>
  ⟨hn b G,(O.exf b<|ZK _ G).1,O.exfs b<|ZK _ G,.inl<|ZK _ G,(O.exf b<|ZK _ G).2,λp R3 z=>G1 b G (z ▸ I p (by
   have q:p∈([]:kh)++ pl:=R3;simpa using q))⟩
 have dX:D≠R.env.locals:=(O.exf D ZY).1;have dF:D∉R.fs:=O.exfs D ZY;refine Mz (λn s'=>∃i ys Z w,Inv R [] (Vn own.length ix U) w s'/\tn i s'.heap/\(∀b∈L,w b=none)/\w D=none/\s'.heap.PlainList D (List.toArray Z)/\Vals ys Z/\W i n ys w) ?_ m0
  ⟨0,[],[],f,I4,M2,λb G=>(B.f2 b G).1,B.fD.1,lD,.nil,w0⟩
 rintro n a ⟨i,ys,Z,t,I5,J5,G3,d5,⟨nn,l5⟩,v5,w5⟩;obtain⟨hz,J1⟩:=turn i n ys t w5
 let oD:Obj:={cls:=.type "list",data:=.seq Z.toArray nn}
 have N:∀p∈ [((D,oD):Addr×Obj)],p.1=D:=λp I=>by
  have e:p=(D,oD):=by simpa using I
  rw[e]
 have G5:Inv R [(D,oD)] (Vn own.length ix U) t a:=I5.pins_of λp I=>by
  have e:p=(D,oD):=by simpa using I
  subst e;exact⟨l5,d5,dX,dF,λv z=>nomatch z⟩
 rcases J1 with⟨stop,qn⟩|⟨go,step⟩
 .refine thn (T.done R rfl rfl rfl hc i _ a _ t _ G5 (J2 N G3) J5 stop) λr s6 ⟨hr,I6⟩=>?_
  subst hr;obtain⟨z1,z2,z3,nD⟩:=B.stop I6 hz v5 rfl;exact R8 s6 t ys z1 z2 z3<|qn D nD
 .refine thn (T.item R rfl rfl rfl hc i _ a _ t _ G5 (J2 N G3) J5 go) λr s6 ⟨u,hr,h6⟩=>?_
  subst hr;refine thn h6 λ_ h ⟨x,H7,I7,r7,y7,F,R7⟩=>?_;have T0:=I7.pinned (J2 N R7)<|T.obj _ _ F;refine thn (hg E C (D::L) s3 f _ h _ H7 x u _ T0 r7<|R5 _ _ _ _<|step x H7 y7) λ_ s8 ⟨σ8,H8,I8,q8,l8,k8⟩=>?_;refine thn (R6 E C (D::L) s3 f _ s8 σ8 H8 _ I8 q8) λcb N2 ⟨L1,J4,P⟩=>?_
  have Z8:∀p∈R.pn++ VV L h.heap,p.1≠D:=λp I=>by
   have q:p∈([]:kh)++ VV L h.heap:=I;exact G1 _ (Xi<|by simpa using q).1
  have k:∀{S:Hp}{A:Shared},Inv R (VV L h.heap) σ8 S A->Inv R [] (Vn own.length ix U) S A:=λ{S A} M=>by
   refine Inv.weak (M.pins_of (pins':=[]) λp I=>nomatch I) (by rw[l8]) λj v hj=>?_
   by_cases hlt:j<own.length
   .unfold Vn at hj
    rw[zn (by simpa using hlt),yH,Zn hlt]at hj;cases hj
   .have e:σ8[j]?=(Vn own.length ix U)[j]?:=by
     have q:=congrArg (λl:List (kO)=>l[j-own.length]?) k8;simp only[ve]at q
     rwa [jh (vx hlt)]at q
    rw[e];exact hj
  have G4:∀{S:Hp}{A:Shared},Inv R ((D,oD)::VV L h.heap) σ8 S A->Inv R (VV L h.heap) σ8 S A:=λ{S A} I9=>I9.pins_of λp I=>I9.pin p<|ZQ _<|ZK _ I
  cases cb with
  |false=>
   rw[Zo (by simp)]at P;rw[Zo (by simp)];obtain⟨m',Z9,w9⟩:=P;obtain⟨gD,nD,_⟩:=J4.pin (D,oD) (by simp);have M:=G4 J4;refine⟨m',Z9,i+1,ys,Z,L1,k M,?_,?_,nD,⟨nn,gD⟩,v5,w9⟩
   .exact T.keep _ _ _ F λb G o e=>(M.pin (b,o)<|ZQ _<|Vl G e).1
   .intro b G
    obtain⟨o,e,d⟩:=T.obj _ _ F b G;exact(M.pin (b,o)<|ZQ _<|Vl G e).2.1
  |true=>
   rw[Zn rfl]at P;rw[Zn rfl];refine thn (he E C (D::L) s3 f _ N2 σ8 L1 _ J4 P) λyv A ⟨y,S,I9,r9,m',Z9,w9⟩=>?_;obtain⟨gD,nD,_⟩:=I9.pin (D,oD) (by simp);have G2:Z.length=ys.length:=v5.length.symm;refine je (l:=D) (items:=Z.toArray) ⟨nn,gD⟩ (λh' R4 R1=>?_) (by rw[ZM,G2];exact Zf hz);have kp:∀b o,b≠D->A.heap.get? b=some o->h'.get? b=some o:=λb o G q=>(R1.2 b G).trans q;have M:Inv R (VV L h.heap) σ8 S {A with heap:=h',toks:=A.toks}:=(G4 I9).turned (it:=D) kp nD dX (.inl ZY) (O.exf D ZY).2 Z8;refine⟨m',Z9,i+1,ys++[y],Z++[yv],S,k M,?_,?_,nD,?_,v5.append<|.cons r9 .nil,w9⟩
   .exact T.keep _ _ _ F λb G o e=>(M.pin (b,o)<|ZQ _<|Vl G e).1
   .intro b G
    obtain⟨o,e,d⟩:=T.obj _ _ F b G;exact(M.pin (b,o)<|ZQ _<|Vl G e).2.1
   .have e:(Z++[yv]).toArray=Z.toArray.push yv:=by simp
    rw[e];exact R4
end
abbrev two(elt tg iter tg2 iter2:Expr)(scope:Scope)(pos:Pos):Expr:=.ListComp elt [⟨tg,iter,[],0⟩,⟨tg2,iter2,[],0⟩] scope pos
section
theorem B7:compTurn (two elt tg iter tg2 iter2 scope pos) 0 it acc env=(standAt iter.pos >>=λ_=>pyNext it >>=λr=>match r with
  |none=>pure<|.done .next
  |some v=>letOwnedTupleGo tg it v >>=λ_=>assign tg env v >>=λ_=>eval iter2 env >>=λx=>standAt iter2.pos >>=λ_=>foldedSetIterable iter2 env x >>=λx=>holding [x] (pyIter x) >>=λj=>
    runOwn (.compStart (two elt tg iter tg2 iter2 scope pos) 1 j acc env) env >>=λ_=>again<|.compLoop (two elt tg iter tg2 iter2 scope pos) 0 it acc env):=by rfl
theorem Dk:compTurn (two elt tg iter tg2 iter2 scope pos) 1 it acc env=(standAt iter2.pos >>=λ_=>pyNext it >>=λr=>match r with
  |none=>pure<|.done .next
  |some v=>letOwnedTupleGo tg2 it v >>=λ_=>assign tg2 env v >>=λ_=>(eval elt env >>=λx=>call (.builtin "list.append") [acc,x] >>=λ_=>pure ()) >>=λ_=>
    again (.compLoop (two elt tg iter tg2 iter2 scope pos) 1 it acc env)):=by rfl
def LC(I:Nat->Shared->Prop)(turn:∀n s,I n s->wpAny (model prog w) A (pyNext it) (λr Z=>match r with
   |none=>R (.ok .next) Z
   |some v=>wpAny (model prog w) A (letOwnedTupleGo tg2 it v) (λ_ M=>wpAny (model prog w) A (assign tg2 env v) (λ_ L=>wpAny (model prog w) A (eval elt env) (λx G=>
     wpAny (model prog w) A (call (.builtin "list.append") [acc,x]) (λ_ J=>∃m,m<n/\I m J) (λ_ _=>False) G) (λ_ _=>False) L) (λ_ _=>False) M) (λ_ _=>False) Z) (λ_ _=>False) s)(n:Nat)(h:I n s):codeAny (model prog w) A (.compLoop (two elt tg iter tg2 iter2 scope pos) 1 it acc env) R s:=by
 refine codeAny_loop Y I (λn s O=>wpAny_noted (m:=compTurn (two elt tg iter tg2 iter2 scope pos) 1 it acc env) ?_) n h;rw[Dk];refine Zj<|yw<|Zj<|Zl (turn n s O) (λr Z N=>?_) λ_ _ z=>z.elim
 cases r with
 |none=>exact Zk N
 |some v=>
  exact Zj (Zl N (λ_ M E=>Zj (Zl E (λ_ L D=>Zj (Zj (Zl D (λx G B=>Zj (Zl B
   (λ_ J T=>Zk<|Zk ⟨rfl,T⟩) λ_ _ z=>z.elim)) λ_ _ z=>z.elim))) λ_ _ z=>z.elim)) λ_ _ z=>z.elim)
def Nr(J:codeAny (model prog w) A (.compLoop (two elt tg iter tg2 iter2 scope pos) 1 it acc env) R s)(h:wpAny (model prog w) A (pyIter it) (λj Z=>codeAny (model prog w) A (.compLoop (two elt tg iter tg2 iter2 scope pos) 1 j acc env) R Z) (λ_ _=>False) s):
  codeAny (model prog w) A (.compStart (two elt tg iter tg2 iter2 scope pos) 1 it acc env) R s:=by
 refine codeAny_of_tree<|wpAny_notedAt (m:=compStart (two elt tg iter tg2 iter2 scope pos) 1 it acc env) (pos:=theWindowsPlace) ?_;simp only[compStart];refine Zj (m:=ask)<|wpAny_askSetting ?_
 split
 .exact Zj (Zk<|Zk ⟨rfl,J⟩)
 .exact Zj (vZ<|Zj<|yw<|Zj<|Zl h (λj Z G=>Zk ⟨rfl,G⟩) λ_ _ z=>z.elim)
def KW(I:Nat->Shared->Prop)(turn:∀n s,I n s->wpAny (model prog w) A (pyNext it) (λr Z=>match r with
   |none=>R (.ok .next) Z
   |some v=>wpAny (model prog w) A (letOwnedTupleGo tg it v) (λ_ N=>wpAny (model prog w) A (assign tg env v) (λ_ M=>wpAny (model prog w) A (eval iter2 env) (λx L=>
     wpAny (model prog w) A (pyIter x) (λj G=>codeAny (model prog w) (A.mark none) (.compStart (two elt tg iter tg2 iter2 scope pos) 1 j acc env) (λr J=>match r with|.ok _=>∃m,m<n/\I m J|.error _=>False) G) (λ_ _=>False) L) (λ_ _=>False) M) (λ_ _=>False) N) (λ_ _=>False) Z) (λ_ _=>False) s)(B:∀x,foldedSetIterable iter2 env x=pure x)(n:Nat)(h:I n s):codeAny (model prog w) A (.compLoop (two elt tg iter tg2 iter2 scope pos) 0 it acc env) R s:=by
 refine codeAny_loop Y I (λn s D=>wpAny_noted (m:=compTurn (two elt tg iter tg2 iter2 scope pos) 0 it acc env) ?_) n h;rw[B7];refine Zj<|yw<|Zj<|Zl (turn n s D) (λr Z T=>?_) λ_ _ z=>z.elim
 cases r with
 |none=>exact Zk T
 |some v=>
  refine Zj<|Zl T (λ_ N U=>Zj<|Zl U (λ_ M S=>Zj<|Zl S (λx L F=>Zj<|yw ?_) λ_ _ z=>z.elim) λ_ _ z=>z.elim) λ_ _ z=>z.elim;rw[B x];refine Zj<|Zk<|Zj<|wpAny_holding<|Zl F (λj G E=>Zj<|wpAny_runOwn<|vc E λr J O=>?_) λ_ _ z=>z.elim
  cases r with
  |error e=>exact O.elim
  |ok f=>exact Zk ⟨Y,O⟩
end
def In2(wi2:TI)(te:TE)(W:Nat->Nat->List V->Hp->Prop)(i m:Nat)(ys:kK):kM:=λU H=>wi2 U H λN B=>∃M:Nat->Nat->List V->Hp->Prop,(∃L,M 0 L ys B)/\∀j L G J,M j L G J->
 G.length<sizeLine/\((N.stop j J/\∃O,O<m/\W (i+1) O G J) \/
  (N.go j J/\∀y R,N.yld j J y R->te (U.set 1<|some y) R λv T=>∃Z,Z<L/\M (j+1) Z (G++[v]) T))
def D2(J:It)(wi2:TI)(te:TE)(s0:St)(Q:VK)(H1:Hp):Prop:=∃W:Nat->Nat->List V->Hp->Prop,(∃m,W 0 m [] H1)/\∀i m Z H,W i m Z H->
 Z.length<sizeLine/\((J.stop i H/\∀p,H p=none->Q (.ref p) (upd H p<|.lst Z)) \/
  (J.go i H/\∀x G,J.yld i H x G->In2 wi2 te W i m Z (s0.set 0<|some x) G))
def IP(ix:List Nat)(wi wi2:TI)(te:TE):TE:=λU H Q=>wi U H λJ Z=>D2 J wi2 te (Vn 2 ix U) Q Z
def P7(h:Vi i x U H Q):Vi i x U H fun σ2 Z=>Q σ2 Z/\σ2=U.set i (some x):=⟨h,rfl⟩
section
def CB.loop2(B:CB X [x1,x2] ix scope a U (.Name x1 p1) E D C Z it tn J f s3)(hc:X.calm=true)(hg:∀E C Z s H,PG (VJ X (Vb X [x1,x2] ix) scope E C Z s H) (.Name x1 p1)<|Vi 0)(F7:∀E C Z s H,PI (VJ X (Vb X [x1,x2] ix) scope E C Z s H) (.Name x2 p2) iter2 wi2)(F9:∀E C Z s H,PG (VJ X (Vb X [x1,x2] ix) scope E C Z s H) (.Name x2 p2)<|Vi 1)(he:∀E C Z s H,PE (VJ X (Vb X [x1,x2] ix) scope E C Z s H) elt te)(F3:∀env x,foldedSetIterable iter2 env x=pure x)(cw:D2 J wi2 te (Vn 2 ix U) Q f)(fin:∀t c ys,Inv X a U (upd c D<|.lst ys) t->UG X a (upd c D<|.lst ys) C->(∃m,t.heap.Ns C m)->Q (.ref D) (upd c D<|.lst ys)->Rs (.ok .next) t)(I4:Inv (VJ X (Vb X [x1,x2] ix) scope E C (D::Z) s3 f) [] (Vn ([x1,x2]:ky).length ix U) f s5)(T8:tn 0 s5.heap)(lD:s5.heap.PlainList D (List.toArray [])):
  codeAny (model X.prog X.w) X.A (.compLoop (two elt (.Name x1 p1) iter (.Name x2 p2) iter2 scope pos) 0 (.ref it) (.ref D)<|compEnvC scope E C X.env) Rs s5:=by
 have F8:GK ([x1,x2]:ky).length (Vi 0):=VP (i:=0) (by simp);obtain⟨W,⟨m0,w0⟩,turn⟩:=cw;have T:=B.T;have A:=B.ok;have R6:=B.nfp
 let N:Cx:=VJ X (Vb X [x1,x2] ix) scope E C (D::Z) s3 f
 have G5:∀{R:Hp}{pl:kh},(∀p∈pl,p.1=D)->(∀b∈Z,R b=none)->∀b∈Z,UG N pl R b:=λ{R pl} M hn b G=>
  ⟨hn b G,(A.exf b<|ZK _ G).1,A.exfs b<|ZK _ G,.inl<|ZK _ G,(A.exf b<|ZK _ G).2,λp P z=>R6 b G (z ▸ M p (by
   have q:p∈([]:kh)++ pl:=P;simpa using q))⟩
 have dX:D≠N.env.locals:=(A.exf D ZY).1;have dF:D∉N.fs:=A.exfs D ZY;refine KW (λn s'=>∃i ys L R,Inv N [] (Vn ([x1,x2]:ky).length ix U) R s'/\tn i s'.heap/\(∀b∈Z,R b=none)/\R D=none/\s'.heap.PlainList D (List.toArray L)/\Vals ys L/\W i n ys R) ?_ (F3 _) m0
  ⟨0,[],[],f,I4,T8,λb G=>(B.f2 b G).1,B.fD.1,lD,.nil,w0⟩
 rintro n s5 ⟨i,ys,L,c,I5,R4,T3,d5,⟨nn,l5⟩,v5,w5⟩;obtain⟨hz,G3⟩:=turn i n ys c w5
 let oD:Obj:={cls:=.type "list",data:=.seq L.toArray nn}
 have F:∀p∈ [((D,oD):Addr×Obj)],p.1=D:=λp M=>by
  have e:p=(D,oD):=by simpa using M
  rw[e]
 have T6:Inv N [(D,oD)] (Vn ([x1,x2]:ky).length ix U) c s5:=I5.pins_of λp M=>by
  have e:p=(D,oD):=by simpa using M
  subst e;exact⟨l5,d5,dX,dF,λv z=>nomatch z⟩
 rcases G3 with⟨stop,qn⟩|⟨go,step⟩
 .refine thn (T.done N rfl rfl rfl hc i _ s5 _ c _ T6 (G5 F T3) R4 stop) λr t ⟨hr,I6⟩=>?_
  subst hr;obtain⟨z1,z2,z3,nD⟩:=B.stop I6 hz v5 rfl;exact fin t c ys z1 z2 z3<|qn D nD
 .refine thn (T.item N rfl rfl rfl hc i _ s5 _ c _ T6 (G5 F T3) R4 go) λr t ⟨u,hr,h6⟩=>?_
  subst hr;refine thn h6 λ_ O ⟨x,H7,I7,r7,y7,G1,fr7⟩=>?_;have I7':=I7.pinned (G5 F fr7)<|T.obj _ _ G1;refine thn (hg E C (D::Z) s3 f _ O _ H7 x u _ I7' r7<|F8 _ _ _ _<|P7 (Q:=In2 wi2 te W i n ys)<|step x H7 y7) λ_ s8 ⟨σ8,H8,I8,q8,l8,k8⟩=>?_;have e8:σ8=(Vn ([x1,x2]:ky).length ix U).set 0 (some x):=by exact q8.2
  replace q8:=q8.1;refine thn (F7 E C (D::Z) s3 f _ s8 σ8 H8 _ I8 q8) λv9 s9 h9=>thn h9 λjv S I2=>?_;obtain⟨F1,I,Z9,J2,R1,ej,N2,T2,h,L1,W2,⟨D3,T7⟩,Z8⟩:=I2;subst ej;rw[Around.mark_none];obtain⟨S2,D0,_⟩:=N2.pin (D,oD) (by simp);have R7:∀b∈I,b≠D:=λb G z=>(L1 b G).2.2.2.2.2 (D,oD) (by simp) z.symm
  have cut:∀{H9:Hp}{σ9:St}{s9:Shared}{more:kh},Inv N (([(D,oD)]++ VV Z O.heap)++ more) σ9 H9 s9->Inv N (VV Z O.heap) σ9 H9 s9:=λ{H9 σ9 s9 more} I9=>
   I9.pins_of λp M=>I9.pin p<|ZQ _<|yR _<|ZQ _ M
  have G2:∀p∈N.pn++ VV Z O.heap,p.1≠D:=λp M=>by
   have q:p∈([]:kh)++ VV Z O.heap:=M;exact R6 _ (Xi<|by simpa using q).1
  have G4:∀{H9:Hp}{o9:Obj},(∀b∈I,H9 b=none)->∀b∈I,UG N ([(D,o9)]++ VV Z O.heap) H9 b:=λ{H9 o9} hn b G=>by
   obtain⟨_,k1,k2,k3,k4,k5⟩:=L1 b G;refine⟨hn b G,k1,k2,k3,k4,λp M=>?_⟩
   have P:p=(D,o9)\/p∈VV Z O.heap:=by
    have q:p∈([]:kh)++ ([(D,o9)]++ VV Z O.heap):=M;simpa using q
   rcases P with rfl|P
   .exact (R7 b G).symm
   .exact k5 p (by
     show p∈([]:kh)++ ([(D,oD)]++ VV Z O.heap);simp[P])
  let R2:Result->Shared->Prop:=λr t=>match r with
   |.ok _=>∃m,m<n/\∃i ys L R,Inv N [] (Vn ([x1,x2]:ky).length ix U) R t/\tn i t.heap/\(∀b∈Z,R b=none)/\R D=none/\t.heap.PlainList D (List.toArray L)/\Vals ys L/\W i m ys R
   |.error _=>False
  have inner:∀(sA:Shared),(Inv N (VV Z O.heap) σ8 R1 sA/\Z9 0 sA.heap/\sA.heap.PlainList D (List.toArray L))->codeAny (model X.prog X.w) X.A (.compLoop (two elt (.Name x1 p1) iter (.Name x2 p2) iter2 scope pos) 1 (.ref F1) (.ref D)<|compEnvC scope E C X.env) R2 sA:=λsA hA=>by
   refine LC (λk s'=>∃j w y R,Inv N (VV Z O.heap) σ8 R s'/\Z9 j s'.heap/\(∀b∈I,R b=none)/\R D=none/\s'.heap.PlainList D (List.toArray y)/\Vals w y/\W2 j k w R) ?_ D3
    ⟨0,ys,L,R1,hA.1,hA.2.1,λb G=>(L1 b G).1,D0,hA.2.2,v5,T7⟩
   rintro k sB ⟨j,w,y,HB,IB,R3,T1,dB,⟨nB,lB⟩,vB,wB⟩;obtain⟨F2,I0⟩:=Z8 j k w HB wB
   let oB:Obj:={cls:=.type "list",data:=.seq y.toArray nB}
   have T5:Inv N ([(D,oB)]++ VV Z O.heap) σ8 HB sB:=IB.pins_of λp M=>by
    rcases ZV.mp M with here|there
    .have e:p=(D,oB):=by simpa using here
     subst e;exact⟨lB,dB,dX,dF,λv z=>nomatch z⟩
    .exact IB.pin p (ZQ _ there)
   rcases I0 with⟨J1,m',F5,wO⟩|⟨I3,J4⟩
   .refine thn (T2.done N rfl rfl rfl hc j _ sB _ HB _ T5 (G4 T1) R3 J1) λr sC ⟨hr,IC⟩=>?_
    subst hr
    obtain⟨gC,nC,_⟩:=IC.pin (D,oB) (by
     show(D,oB)∈([]:kh)++ ([(D,oB)]++ VV Z O.heap);simp)
    have M2:Inv N (VV Z O.heap) σ8 HB sC:=IC.pins_of λp M=>IC.pin p<|ZQ _<|ZQ _ M;refine⟨m',F5,i+1,w,y,HB,?_,?_,?_,nC,⟨nB,gC⟩,vB,wO⟩
    .refine Inv.weak (M2.pins_of (pins':=[]) λp M=>nomatch M) (by rw[l8]) λj v hj=>?_
     by_cases hlt:j<([x1,x2]:ky).length
     .unfold Vn at hj
      rw[zn (by simpa using hlt),yH,Zn hlt]at hj;cases hj
     .have e:σ8[j]?=(Vn ([x1,x2]:ky).length ix U)[j]?:=by
       have q:=congrArg (λl:List (kO)=>l[j-([x1,x2]:ky).length]?) k8;simp only[ve]at q
       rwa [jh (vx hlt)]at q
      rw[e];exact hj
    .exact T.keep _ _ _ G1 λb G o e=>(M2.pin (b,o)<|ZQ _<|Vl G e).1
    .intro b G
     obtain⟨o,e,d⟩:=T.obj _ _ G1 b G;exact(M2.pin (b,o)<|ZQ _<|Vl G e).2.1
   .refine thn (T2.item N rfl rfl rfl hc j _ sB _ HB _ T5 (G4 T1) R3 I3) λr sC ⟨u2,hr,I1⟩=>?_
    subst hr;refine thn I1 λ_ sD ⟨y2,HD,ID,rD,yD,J5,C2⟩=>?_;have ID':=ID.pinned (G4 C2)<|T2.obj _ _ J5;refine thn (F9 E C (D::Z) s3 f _ sD _ HD y2 u2 _ ID' rD<|P7 (Q:=λU H=>te U H λv H6=>∃g,g<k/\W2 (j+1) g (w++[v]) H6)<|J4 y2 HD yD) λ_ sE ⟨σE,HE,IE,qE⟩=>?_;have eE:σE=σ8.set 1 (some y2):=by exact qE.2
    replace qE:=qE.1;refine thn (he E C (D::Z) s3 f _ sE σE HE _ IE qE) λyv sF ⟨yy,HF,IF,rF,g,R8,wF⟩=>?_
    obtain⟨gD,nD,_⟩:=IF.pin (D,oB) (by
     show(D,oB)∈([]:kh)++ (([(D,oB)]++ VV Z O.heap)++ VV I sD.heap);simp)
    have T0:y.length=w.length:=vB.length.symm;refine je (l:=D) (items:=y.toArray) ⟨nB,gD⟩ (λh' F6 F4=>?_) (by rw[ZM,T0];exact Zf F2);have kp:∀b o,b≠D->sF.heap.get? b=some o->h'.get? b=some o:=λb o G q=>(F4.2 b G).trans q;have IF':Inv N (VV Z O.heap) σE HF sF:=IF.pins_of λp M=>IF.pin p<|ZQ _<|yR _<|ZQ _ M;have IG:Inv N (VV Z O.heap) σE HF {sF with heap:=h',toks:=sF.toks}:=IF'.turned (it:=D) kp nD dX (.inl ZY) (A.exf D ZY).2 G2
    have T4:∀b∈I,∀o,sD.heap.get? b=some o->sF.heap.get? b=some o/\HF b=none:=λb G o q=>by
     have z:=IF.pin (b,o)<|ZQ _<|ZQ _<|Vl G q;exact⟨z.1,z.2.1⟩
    refine⟨g,R8,j+1,w++[yy],y++[yv],HF,?_,?_,?_,nD,?_,vB.append<|.cons rF .nil,wF⟩
    .refine Inv.weak IG (by rw[eE,zp]) λq v hq=>?_
     rw[eE]
     have T9:q≠1:=λz=>by
      subst z;rw[e8]at hq;simp[Vn,List.getElem?_append]at hq
     rw[yf (Zq T9)];exact hq
    .exact T2.keep _ _ _ J5 λb G o q=>kp b o (R7 b G) (T4 b G o q).1
    .intro b G
     obtain⟨o,q,_⟩:=T2.obj _ _ J5 b G;exact(T4 b G o q).2
    .have e:(y++[yv]).toArray=y.toArray.push yv:=by simp
     rw[e];exact F6
  have R5:Inv N (VV Z O.heap) σ8 R1 S/\Z9 0 S.heap/\S.heap.PlainList D (List.toArray L):=⟨N2.pins_of λp M=>N2.pin p<|ZQ _<|ZQ _ M,h,⟨nn,S2⟩⟩;exact Nr (inner S R5)<|T2.self _ 0 _ _ _ h<|inner S R5
def Vq(own:ky)(G:List Nat)(j:PI X tg iter wi)(R:GK own.length g)(y:∀M C L s H,PG (VJ X (Vb X own G) scope M C L s H) tg g)(z:∀M C L s H,PE (VJ X (Vb X own G) scope M C L s H) elt te)(t:X.calm=true:=by rfl)(Z:scope.kind=.function:=by rfl)(O:UR scope X.env.scope.names X.N G=true:=by rfl)(P:∀x,foldedSetIterable iter X.env x=pure x:=by intro _;rfl):
  PE X (.ListComp elt [⟨tg,iter,[],0⟩] scope pos) (Pq own.length G wi g te):=by
 intro T s U H Q I h;rw[eval_ListComp];exact Ur own G j Z O P I h λM D C L v c J r u f B m k N S=>B.loop1 t R y z m (λd w p A F E q=>Do A F E q) k N S
def EH(own:ky)(G:List Nat)(c:X.N.Nodup)(E:X.N[i0]?=some x0)(O:Loc X.env.scope x0)(z:PI X tg iter wi)(F:GK own.length g)(t:∀M C L s H,PG (VJ X (Vb X own G) scope M C L s H) tg g)(k:∀M C L s H,PE (VJ X (Vb X own G) scope M C L s H) elt te)(p:X.calm=true:=by rfl)(Z:scope.kind=.function:=by rfl)(T:UR scope X.env.scope.names X.N G=true:=by rfl)(R:swapsWith (.ListComp elt [⟨tg,iter,[],0⟩] scope pos) (some<|.Name x0 py) spos.line X.env=pure true:=by rfl)(m:X.fn x0=true\/X.env.scope.names.lookup x0=some .local:=by first|exact .inl Y|exact .inr Y|assumption)(y:∀x,foldedSetIterable iter X.env x=pure x:=by intro _;rfl):
  PS X (.Assign [.Name x0 py] (.ListComp elt [⟨tg,iter,[],0⟩] scope pos) spos) (BS (Pq own.length G wi g te)<|Vi i0):=by
 intro A s U H i I h;exact Mc R<|Ur own G z Z T y I h λM D C L b v J o l r B d f N j=>B.loop1 p F t k d (λw e u Q P S q=>Dn c E O m Q P S q) f N j
def Xf(own:ky)(G:List Nat)(y:PI X tg iter wi)(R:GK own.length g)(z:∀M C L s H,PG (VJ X (Vb X own G) scope M C L s H) tg g)(T:∀M C L s H,PT (VJ X (Vb X own G) scope M C L s H) ct tc)(t:∀M C L s H,PE (VJ X (Vb X own G) scope M C L s H) elt te)(m:X.calm=true:=by rfl)(Z:scope.kind=.function:=by rfl)(O:UR scope X.env.scope.names X.N G=true:=by rfl)(j:∀x,foldedSetIterable iter X.env x=pure x:=by intro _;rfl):
  PE X (.ListComp elt [⟨tg,iter,[ct],0⟩] scope pos) (IO own.length G wi g tc te):=by
 intro E s U H Q I h;rw[eval_ListComp];exact Ur own G y Z O j I h λM D C L w d J l v u B k p N P=>B.loopI m R z T t k (λf r c S A F q=>Do S A F q) p N P
def Xe(own:ky)(G:List Nat)(d:X.N.Nodup)(E:X.N[i0]?=some x0)(O:Loc X.env.scope x0)(t:PI X tg iter wi)(F:GK own.length g)(m:∀M C L s H,PG (VJ X (Vb X own G) scope M C L s H) tg g)(A:∀M C L s H,PT (VJ X (Vb X own G) scope M C L s H) ct tc)(p:∀M C L s H,PE (VJ X (Vb X own G) scope M C L s H) elt te)(c:X.calm=true:=by rfl)(Z:scope.kind=.function:=by rfl)(T:UR scope X.env.scope.names X.N G=true:=by rfl)(R:swapsWith (.ListComp elt [⟨tg,iter,[ct],0⟩] scope pos) (some<|.Name x0 py) spos.line X.env=pure true:=by rfl)(k:X.fn x0=true\/X.env.scope.names.lookup x0=some .local:=by first|exact .inl Y|exact .inr Y|assumption)(z:∀x,foldedSetIterable iter X.env x=pure x:=by intro _;rfl):
  PS X (.Assign [.Name x0 py] (.ListComp elt [⟨tg,iter,[ct],0⟩] scope pos) spos) (BS (IO own.length G wi g tc te)<|Vi i0):=by
 intro S s U H n I h;exact Mc R<|Ur own G t Z T z I h λM D C L e w J i b l B f u N y=>B.loopI c F m A p f (λr o v j Q P q=>Dn d E O k j Q P q) u N y
def Od(L:List Nat)(t:PI X (.Name x1 p1) iter wi)(m:∀G C Z s H,PG (VJ X (Vb X [x1,x2] L) scope G C Z s H) (.Name x1 p1)<|Vi 0)(T:∀G C Z s H,PI (VJ X (Vb X [x1,x2] L) scope G C Z s H) (.Name x2 p2) iter2 wi2)(E:∀G C Z s H,PG (VJ X (Vb X [x1,x2] L) scope G C Z s H) (.Name x2 p2)<|Vi 1)(g:∀G C Z s H,PE (VJ X (Vb X [x1,x2] L) scope G C Z s H) elt te)(k:X.calm=true:=by rfl)(M:scope.kind=.function:=by rfl)(R:UR scope X.env.scope.names X.N L=true:=by rfl)(z:∀x,foldedSetIterable iter X.env x=pure x:=by intro _;rfl)(O:∀F x,foldedSetIterable iter2 F x=pure x:=by intro _ _;rfl):
  PE X (.ListComp elt [⟨.Name x1 p1,iter,[],0⟩,⟨.Name x2 p2,iter2,[],0⟩] scope pos) (IP L wi wi2 te):=by
 intro A s U H Q I h;rw[eval_ListComp];exact Ur [x1,x2] L t M R z I h λG D C Z r f J b w v B p c N y=>B.loop2 k m T E g O p (λu l d j P S q=>Do j P S q) c N y
def OW(L:List Nat)(f:X.N.Nodup)(A:X.N[i0]?=some x0)(O:Loc X.env.scope x0)(g:PI X (.Name x1 p1) iter wi)(k:∀G C Z s H,PG (VJ X (Vb X [x1,x2] L) scope G C Z s H) (.Name x1 p1)<|Vi 0)(F:∀G C Z s H,PI (VJ X (Vb X [x1,x2] L) scope G C Z s H) (.Name x2 p2) iter2 wi2)(S:∀G C Z s H,PG (VJ X (Vb X [x1,x2] L) scope G C Z s H) (.Name x2 p2)<|Vi 1)(c:∀G C Z s H,PE (VJ X (Vb X [x1,x2] L) scope G C Z s H) elt te)(d:X.calm=true:=by rfl)(M:scope.kind=.function:=by rfl)(E:UR scope X.env.scope.names X.N L=true:=by rfl)(R:swapsWith (.ListComp elt [⟨.Name x1 p1,iter,[],0⟩,⟨.Name x2 p2,iter2,[],0⟩] scope pos) (some<|.Name x0 py) spos.line X.env=pure true:=by rfl)(p:X.fn x0=true\/X.env.scope.names.lookup x0=some .local:=by first|exact .inl Y|exact .inr Y|assumption)(m:∀x,foldedSetIterable iter X.env x=pure x:=by intro _;rfl)(T:∀P x,foldedSetIterable iter2 P x=pure x:=by intro _ _;rfl):
  PS X (.Assign [.Name x0 py] (.ListComp elt [⟨.Name x1 p1,iter,[],0⟩,⟨.Name x2 p2,iter2,[],0⟩] scope pos) spos) (BS (IP L wi wi2 te)<|Vi i0):=by
 intro Q s U H a I h;exact Mc R<|Ur [x1,x2] L g M E m I h λG D C Z o r J n e b B u v N t=>B.loop2 d k F S c T u (λl i w z y j q=>Dn f A O p z y j q) v N t
end
def RH(n:Nat)(L:Nat->List V->Hp->Prop)(g:L 0 [] H)(T:∀i Z H,L i Z H->Z.length<sizeLine)(A:∀i Z H,i<n->L i Z H->J.go i H)(M:∀Z H,L n Z H->J.stop n H)(X:∀i Z H x F (R:List V->Hp->Prop),i<n->L i Z H->J.yld i H x F->(∀G D,L (i+1) G D->R G D)->wi2 (s0.set 0<|some x) F λS D=>∃I:Nat->Nat->List V->Hp->Prop,(∃E,I 0 E Z D)/\∀j E G B,I j E G B->
   G.length<sizeLine/\((S.stop j B/\R G B)\/(S.go j B/\∀y U,S.yld j B y U->te ((s0.set 0<|some x).set 1<|some y) U λv k=>∃O,O<E/\I (j+1) O (G++[v]) k)))(q:∀Z H p,L n Z H->H p=none->Q (.ref p) (upd H p<|.lst Z)):D2 J wi2 te s0 Q H:=by
 refine⟨λi m Z H=>m=n-i/\i<=n/\L i Z H,⟨n,by simp,Za _,g⟩,λi m Z H z=>?_⟩;obtain⟨rfl,c,p⟩:=z;exists T i Z H p;rcases jx i n with N|P
 .exact .inr ⟨A i Z H N p,λx F y=>X i Z H x F _ N p y λG D C=>⟨n-(i+1),by omega,rfl,N,C⟩⟩
 .have e:i=n:=by omega
  subst e;exact .inl ⟨M Z H p,λb t=>q Z H b p t⟩
def Nt{M:It}{S:TE}{U:St}{R:List V->Hp->Prop}(n:Nat)(J:Nat->List V->Hp->Prop)(g:J 0 ys H3)(O:∀j Z H,J j Z H->Z.length<sizeLine)(A:∀j Z H,j<n->J j Z H->M.go j H)(G:∀Z H,J n Z H->M.stop n H)(Q:∀j Z H y C (T:V->Hp->Prop),j<n->J j Z H->M.yld j H y C->(∀v B,J (j+1) (Z++[v]) B->T v B)->S (U.set 1<|some y) C T)(t:∀Z H,J n Z H->R Z H):
  ∃I:Nat->Nat->List V->Hp->Prop,(∃E,I 0 E ys H3)/\∀j E Z D,I j E Z D->
   Z.length<sizeLine/\((M.stop j D/\R Z D)\/(M.go j D/\∀y F,M.yld j D y F->S (U.set 1<|some y) F λv B=>∃N,N<E/\I (j+1) N (Z++[v]) B)):=by
 refine⟨λj m Z H=>m=n-j/\j<=n/\J j Z H,⟨n,by simp,Za _,g⟩,λj m Z H z=>?_⟩;obtain⟨rfl,k,p⟩:=z;exists O j Z H p;rcases jx j n with L|q
 .exact .inr ⟨A j Z H L p,λy F X=>Q j Z H y F _ L p X λv B P=>⟨n-(j+1),by omega,rfl,L,P⟩⟩
 .have e:j=n:=by omega
  subst e;exact .inl ⟨G Z H p,t Z H p⟩
end L2
namespace L2
open PySem PySem.Spec PyProof.Rows
section
def AU(K:W.Frag):List V->Hp->VK->Prop:=λZ H Q=>∃x T t b,Z=[x,.ty T]/\Xc K H x t/\W.kitOne K t (.type T)=some b/\Q (.bl b) H
def Ll:Jr X (.builtin "isinstance") (AU X.K):=by
 intro J s U H L N Q I r h;obtain⟨x,T,t,b,rfl,ty,e,q⟩:=h;obtain⟨u,M,rfl,G,Z⟩:=vals2 r;cases Z;exact FU I G ty e λO=>⟨.bl b,H,I.tok _,Y,q⟩
theorem RO:∀{ys:ky}{Z:kq},Vals (ys.map V.str) Z->StrsAre Z ys
 |[],_,r=>by cases r;exact .nil
 |y::ys,_,r=>by
  cases r with
  |cons h t=>
   obtain⟨J,e⟩:=h;subst e;exact .cons _ _<|RO t
def rJoin(K:W.Frag):V->List V->Hp->VK->Prop:=λx J H Q=>∃z p Z,x=.str z/\J=[.ref p]/\SqL K H p (Z.map V.str)/\(Z.map (·.length)).sum+Z.length*z.length<=16777216/\Q (.str<|Txt.join z Z) H
def O9:MtR X "str.join" (rJoin X.K):=by
 intro Z s U H x B v D Q I J G h;obtain⟨z,p,T,rfl,rfl,R,O,q⟩:=h;obtain⟨t,rfl⟩:=J;obtain⟨u,rfl,L⟩:=vals1 G;cases L;obtain⟨N,r,M,F⟩:=I.list R;exact join_list M.isList (by simpa using RO r) O λE k=>⟨.str _,H,I.tok _,⟨_,Y⟩,q⟩
def C5:V->Option Int->Option Int->Hp->VK->Prop:=λx Z J H Q=>∃z,x=.str z/\z.length<=sizeLine/\Q (.str<|Txt.slice z Z J) H
def Bc:SlR X C5:=by
 intro J s U H x v g m E C sl Q I B S D T h;obtain⟨z,rfl,A,q⟩:=h;obtain⟨t,rfl⟩:=B;exists "str",_,F.slot_str_getitem.lookup,typeIs_str _ _ _
 have Z:∀(l u:Option (Int×Tok)),l.map (·.1)=E->u.map (·.1)=C->s.heap.IsSlice sl l u none->wpAny (model X.prog X.w) X.A (getItem (.str z t)<|.ref sl) (EP X J U Q) X.xe s:=λl u y P O=>by
  subst y;subst P;exact wpAny_getItem_str_slice O Y (post_val_or_str ⟨ZZ (Txt.slice_le z (l.map (·.1))<|u.map (·.1)) A,λp k=>⟨.str _,H,I.tok _,⟨_,rfl⟩,q⟩⟩)
 obtain⟨o,M,L,G⟩:=S
 cases D with
 |none=>
  cases T with
  |none=>exact Z none none Y Y ⟨o,M,L,G⟩
  |int j N=>exact Z none (some (j,N)) Y Y ⟨o,M,L,G⟩
 |int i R=>
  cases T with
  |none=>exact Z (some (i,R)) none Y Y ⟨o,M,L,G⟩
  |int j N=>exact Z (some (i,R)) (some (j,N)) Y Y ⟨o,M,L,G⟩
theorem GE:∀{Z:List Bool}{J:kq},Vals (Z.map V.bl) J->∀(i:Nat)(v:Value),J[i]?=some v->∃b,Z[i]?=some b/\v=.bool b
 |[],_,r,i,v,e=>by cases r;simp at e
 |b::Z,_,r,i,v,e=>by
  cases r with
  |cons h t=>
   cases i with
   |zero=>
    have G:some _=some v:=e;cases G;exact⟨b,Y,h⟩
   |succ j=>exact GE t j v e
def all_range:∀(Z:List Bool),((List.range Z.length).all λi=>(Z[i]?).getD true)=Z.all id:=λZ=>by
 have e:((List.range Z.length).map λi=>(Z[i]?).getD true)=Z:=List.ext_getElem (by simp) λi G J=>by simp[J]
 have z:=jy (l:=List.range Z.length) (f:=λi=>(Z[i]?).getD true) (p:=id);rw[e]at z;exact z.symm
def BC(E:X.calm=true):Jr X (.builtin "all") (λM H Q=>∃(p:Addr)(J:List Bool),M=[.ref p]/\SqL X.K H p (J.map V.bl)/\Q (.bl<|J.all id) H):=by
 intro O s U H M C Q I r h;obtain⟨p,J,rfl,T,q⟩:=h;obtain⟨u,rfl,R⟩:=vals1 r;cases R;obtain⟨Z,N,L,P⟩:=I.list T
 have B:p<s.heap.objs.size:=by
  obtain⟨o,n,e,_⟩:=L;exact ZN e
 have G:Z.length=J.length:=by
  have:=N.length;rw[ZA]at this;exact this.symm
 refine call_all_walk<|yY L.isList ?_;exists s.heap.objs.size,_,_,Z.toArray.size,_,_,λi=>(J[i]?).getD true,Y,Walks.list (A:=X.A.in1) (I.ok.hd E) _ p (Zc B) Z.toArray,?_,?_
 .exact ⟨⟨_,ZW _ rfl,rfl,rfl⟩,L.isList.push _⟩
 .intro i v s' Q' E' hP hQ
  obtain⟨b,e,rfl⟩:=GE N i v (by simpa using hP);have F:(J[i]?).getD true=b:=by rw[e];rfl
  exact zZ<|F ▸ hQ
 .intro h' tk hk
  rw[ZM,G,all_range];refine⟨.bl<|J.all id,H,I.kept λb o e=>hk b o (λD=>?_)<|ZD _ e,rfl,q⟩;have S:b=s.heap.objs.size:=by simpa using D
  rw[S]at e;exact zX _<|ZN e
theorem GL:∀{Z:kK}{J:kq},Z.length=J.length->(∀(j:Nat)(x:V)(u:Value),Z[j]?=some x->J[j]?=some u->RelV x u)->Vals Z J
 |[],[],_,_=>.nil
 |[],_::_,h,_=>Zp h<|by simp
 |_::_,[],h,_=>Zp h<|by simp
 |x::Z,u::J,h,hr=>.cons (hr 0 x u rfl rfl)<|GL (by simpa using h) λj a b L G=>hr (j+1) a b L G
def Xa(e:X.calm=true):Jr X (.type "list") (λE H Q=>∃a kvs,E=[.ref a]/\H a=some (.dK kvs)/\∀l,H l=none->Q (.ref l) (upd H l<|.lst<|kvs.map λZ=>kV Z.1)):=by
 intro S s U H E us Q I r h;obtain⟨a,kvs,rfl,n,q⟩:=h;obtain⟨u,rfl,m⟩:=vals1 r;cases m;obtain⟨C,g,F,A,b⟩:=P9 I.hok n;obtain⟨ep,R⟩:=b.dictAt;have J:=A.length;refine W.kdl_call (W.kdl_dict (knd:=VC X.prog X.w) (kvs:=F) (ep:=ep) g) (I.ok.hd e) R (by rw[<-J];exact C) λh' tk D c w v L=>?_;refine⟨.ref s.heap.objs.size,_,I.laid (o:=.lst<|kvs.map λZ=>kV Z.1) w (ZF _) ⟨by rw[ZA];exact C,D.toList,c,?_,by rw[Array.toArray_toList];exact v⟩,rfl,q _<|I.hok.fresh<|ZF _⟩;obtain⟨f,d⟩:=L;refine GL (by simp[f,J]) λj x u M e2=>?_;obtain⟨k,y,p,O⟩:=d j u (by rw[<-Array.getElem?_toList];exact e2);rw[ZG]at M
 cases hkv:kvs[j]? with
 |none=>rw[hkv]at M;cases M
 |some Z=>
  rw[hkv]at M;cases M;have G:=A.keys;have P:(kvs.map (·.1))[j]?=(F.map (·.1))[j]?:=by rw[G]
  rw[ZG,ZG,hkv,p]at P;have e4:Z.1=k:=ZP P;have N:JY Z.1 u=true:=by rw[e4];exact O
  rcases Va N with⟨i,t,B,T⟩|⟨z,t,B,T⟩
  .show RelV (kV Z.1) u
   rw[B,T];exact⟨t,Y⟩
  .show RelV (kV Z.1) u
   rw[B,T];exact⟨t,Y⟩
end
section
structure WC(H:Hp)(ea C:Addr)(dx:Option Addr):Prop where
 at_:H ea=some (XY ea C dx)
 dict:∀d,dx=some d->∃o,H d=some o
def Inv.inst(I:Inv X G U H s)(c:WC H ea C R):∃Z J,W.InstAt s.heap ea Z C J:=by
 obtain⟨⟨Z,O,N,M,L⟩,_⟩:=(show VN X.prog X.w H s.heap ea (XY ea C R)from I.hok ea _ c.at_)
 cases hd:R with
 |none=>exact⟨Z,none,O,N,M,by rw[L,hd];trivial⟩
 |some d=>
  obtain⟨o,B⟩:=c.dict d hd;obtain⟨u,T⟩:=(I.hok d o B).ex;exact⟨Z,some u,O,N,M,by rw[L,hd];exact T⟩
theorem RP:∀{J:kF}{Z:kq},Vals (J.map V.ref) Z->Z=J.map Value.ref
 |[],_,r=>by cases r;rfl
 |_::_,_,r=>by
  cases r with
  |cons h t=>
   have e:_=Value.ref _:=h;rw[e,RP t];rfl
def NY(K:W.Frag):List V->Hp->VK->Prop:=λL H Q=>∃(J C:Addr)(M:kH)(c:V)(b:Bool),L=[.ref J,c]/\WC H J C M/\W.ExcC K C/\
 ((∃(Z:Addr)(G:kF),c=.ref Z/\H Z=some (.tup<|G.map V.ref)/\W.kitAny K (.ref C) (G.map Value.ref)=some b)\/(∃N,c=.ref N/\W.kitOne K (.ref C) (.ref N)=some b)\/(∃T,c=.ty T/\W.kitOne K (.ref C) (.type T)=some b))/\Q (.bl b) H
def Xr:Jr X (.builtin "isinstance") (NY X.K):=by
 intro L s U H d v Q I r h;obtain⟨a,C,x,c,b,rfl,m,O,t,q⟩:=h;obtain⟨u,f,rfl,A,Z⟩:=vals2 r;cases A;obtain⟨M,J,R⟩:=I.inst m;have G:∀D,EP X L U Q (.bool b) {s with toks:=D}:=λD=>⟨.bl b,H,I.tok _,rfl,q⟩;rcases t with⟨B,p,rfl,y,e⟩|⟨N,rfl,e⟩|⟨T,rfl,e⟩
 .cases Z
  obtain⟨_,j,F,o,k,i,g,n,E⟩:=(show VN X.prog X.w H s.heap B (.tup<|p.map V.ref)from I.hok B _ y);rw[RP F]at E;obtain⟨l,w,P,S⟩:=o;cases g;cases E;exact W.kia_tup (W.kitx_exc O) I.kIn ⟨M,J,R⟩ k e (λz=>nomatch z) G
 .cases Z
  exact yK (W.kitx_exc O) I.kIn ⟨M,J,R⟩ e (λz=>nomatch z) G
 .cases Z
  exact yK (W.kitx_exc O) I.kIn ⟨M,J,R⟩ e (λz=>nomatch z) G
end
section
variable{K:W.Frag}
def Fun.okX{M:Stmt}(F:Fun K x qual M f j)(S:Yq N D (Yb M))(O:∀G H Q E,B G H Q E->G.length=D.length)(L:∀(J:Value)(A:Around)(Z:List Env)(s:Shared)(H:Hp)(G:kK)(Q:VK)(E:XK),VW k (A.deeper<|envOfC qual (Yb M) s.heap.objs.size f J)->B G H Q E->
   ∃t,PSs (Vg (CX1 P w) P w K U base N qual (Yb M) f J A Z s H E) (JV M) t/\t {nx:=λ_ z=>Q .non z,rt:=Q} (start N G) H):Ym P w K U base (CX1 P w) (k+1) f j D B:=by
 obtain⟨g,m,kV,y,q,c,J,p,I,rfl,C,T⟩:=F.ex;exact P8 C T S O λA Z s H G Q E X R=>L J A Z s H G Q E X R
end
end L2
namespace PySem.W
open PySem PySem.Spec PyProof.Rows
def xcIn(K:Frag)(C fI:Addr):Bool:=match K.lookup C with
 |some ⟨.type "type",_,.cls cd,sl⟩=>(match cd.mro,sl.toList with
  |.ref C2::tl,[_,_,_,_,some<|.builtin n,_]=>C2==C && (n=="ValueError.__new__" && (!cd.hasDel && (cd.hasDict && (tailIn K L2.vErr tl && (nsOkIn K cd.ns && nsIn K cd.ns "__init__"==some (some<|.ref fI))))))
  |_,_=>false)
 |_=>false
set_option tactic.hygienic true in
def As{K:Frag}{h:Heap}{N:Addr}{m:Str->Option Value}{n:Str}{v:Value}(X:K.In h)(G:h.Ns N m)(e:nsIn K N n=some (some v)):m n=some v:=by
 obtain⟨o,M,O,Z,L,_,J⟩:=G;unfold nsIn at e
 split at e
 case h_2=>cases e
 case h_1 c d es' n' sl q=>
  have z:=X _ _ q;rw[Z]at z;cases z;cases L
  split at e
  case h_1 en he=>
   cases e;rw[<-J];unfold nsFind findBy;rw[<-Array.find?_toList,he]
   rfl
  case h_2=>split at e <;> cases e
set_option tactic.hygienic true in
def cls_xc{K:Frag}{h:Heap}{C y:Addr}(X:K.In h)(q:xcIn K C y=true):
  ∃L N I F P E Z Q J U D B T R O j,h.get? C=some (excClassObj I F C N P L true E Z Q J U D B T R O "ValueError.__new__")/\h.Ns N j/\j "__init__"=some (.ref y)/\OwnTail h L2.vErr L:=by
 unfold xcIn at q
 split at q
 case h_2=>cases q
 case h_1 U cd sl ho=>
  split at q
  case h_2=>cases q
  case h_1 C2 L D B T R n O hm hs=>
   rw[ZX,ZX,ZX,ZX,ZX,ZX]at q;obtain⟨c,p,k,g,m,t,z⟩:=q;obtain rfl:C2=C:=beq_iff_eq.mp c;obtain rfl:n="ValueError.__new__":=beq_iff_eq.mp p
   cases cd with
   |mk I P S A F d E Z Q J M=>
    obtain rfl:S=.ref C2::L:=hm;obtain rfl:d=true:=g
    obtain rfl:M=false:=by cases M with
     |false=>rfl
     |true=>cases k
    obtain rfl:sl= #[D,B,T,R,some<|.builtin "ValueError.__new__",O]:=by
     cases sl with
     |mk l=>exact congrArg Array.mk hs
    have G:h.Ns A (h.nsMap A):=.of_isNs<|isNs_of_in X t;exact⟨L,A,I,F,P,E,Z,Q,J,U,D,B,T,R,O,_,X _ _ ho,G,As X G<|beq_iff_eq.mp z,tail_of_in X m⟩
end PySem.W
namespace PySem
open Sem (wp)
section
variable{prog:Program}{w:World}{A:Around}{E:Value->Shared->Prop}{h:Heap}{g:Array GenState}{d:Drawn}{t:Nat}{os:OsState}
variable{nm q:Str}{C N:Addr}{bs bm bmB:List Value}{hdct:Bool}{sn:List Str}{sub:List Value}{ab:Bool}{col:Option Bool}{dd:Option Addr}{k0 k1 k2 k3 k5:Option Value}{B newId initId:String}
def BL(F:ExcBaseFacts B newId initId bmB)(T:OwnTail h bmB bm){j:Str->Option Value}{rest:List Value}{S:Addr}{P:Obj}{Q:Fin->Shared->Prop}(M:h.get? C=some (excClassObj nm q C N bs bm hdct sn sub ab col dd k0 k1 k2 k3 k5 newId))(p:h.Ns N j)(c:j "__init__"=some (.ref S))(D:h.get? S=some P)(R:P.cls=.type "function")(J:rest.length<=sizeLine)(k:∀y e,Heap.MadeExcOf h y e (.ref C) rest->h.objs.size<=e->
   wpAny (model prog w) A (call (.ref S) (.ref e::rest)) (λr U=>r=.none/\Q (.done<|.ret<|.ref e) U) E ⟨y,g,d,t,os⟩):
  wpAny (model prog w) A (Builtin.«type.__call__» ⟨.ref C::rest,[]⟩) Q E ⟨h,g,d,t,os⟩:=by
 repeat (first|with_reducible refine wpAny_madeBy_exc M ?_|with_reducible refine wpAny_loadPart_at M ?_|wp_step)
 refine codeAny_call_builtin_code (Code.quiet_builtin _ F.quiet)<|wpAny_check_new_subT F T M<|codeAny_exc_new_subT F T M ?_ J;show wpAny _ _ _ _ _ _
 let X:Obj:={cls:=.type "tuple",data:=.seq rest.toArray}
 let O:Obj:={cls:=.ref C,data:=.fields #[.ref h.objs.size,.none,.none,.none,.bool false,.none]}
 have G:∀b o,h.get? b=some o->((h.push X).push O).get? b=some o:=λb o z=>ZD _<|ZD _ z;have Z:((h.push X).push O).get? (h.objs.size+1)=some O:=by heap_get
 have I:(Value.ref C::bm).contains (.ref C)=true:=by simp
 have L:=G _ _ M;unfold isInstance
 repeat (first|with_reducible refine wpAny_loadPart_at Z ?_|(with_reducible refine wpAny_isSubtype_exc L ?_;rw[I])|wp_step)
 show wpAny _ _ (typeLookup (.ref C) _) _ _ _;refine wpAny_typeLookup_tail L (p.keeps G) (T.keeps G) F.mroIs F.init.lookup ?_;rw[c];refine wpAny_holding<|Zj ?_;unfold bindSpecial;refine Zj<|jg (T:="function") ⟨_,G _ _ D,R⟩ ?_;rw[Zn (by decide)];refine Zk<|Zj<|Zl (k _ (h.objs.size+1) ⟨G,vM<|yS _,h.objs.size,Z,vM<|ZF _,ZD _<|Heap.get?_push_at rfl rfl⟩<|yS _) (λr U m=>?_) λ_ _ x=>x;obtain⟨rfl,f⟩:=m
 wp_walk
 exact f
def x_call(F:ExcBaseFacts B newId initId bmB)(T:OwnTail h bmB bm){D:Str->Option Value}{rest:List Value}{O:Addr}{R:Obj}{Q:Value->Shared->Prop}(J:h.get? C=some (excClassObj nm q C N bs bm hdct sn sub ab col dd k0 k1 k2 k3 k5 newId))(X:h.Ns N D)(j:D "__init__"=some (.ref O))(M:h.get? O=some R)(L:R.cls=.type "function")(Z:rest.length<=sizeLine)(U:∀G e,Heap.MadeExcOf h G e (.ref C) rest->h.objs.size<=e->
   wpAny (model prog w) (A.under<|.builtin "type.__call__" ⟨.ref C::rest,[]⟩) (call (.ref O) (.ref e::rest)) (λr I=>r=.none/\Q (.ref e) I) E ⟨G,g,d,t,os⟩):
  wpAny (model prog w) A (call (.ref C) rest) Q E ⟨h,g,d,t,os⟩:=by
 have m:=tc_lookup;have z:=tc_bind<|.ref C;have y:(⟨h,g,d,t,os⟩:Shared).TypeIs (.ref C) "type":=⟨_,J,rfl⟩;refine wpAny_call<|codeAny_of_tree ?_;show wpAny _ _ (callAny (.ref C) _) _ _ _
 repeat (any_goals (first|with_reducible refine wpAny_loadPart_at J ?_|assumption|wp_step))
 exact⟨Y,codeAny_call_builtin_at (Code.quiet_builtin _<|by decide +kernel) entry_typeCall<|wpAny_check_type_call_sub J<|BL F T J X j M L Z λG e P S=>U G e P S⟩
end
end PySem
namespace PySem.W
open PySem PySem.Spec PyProof.Rows PySem.Builtin PySem.Builtin.ObjectAttr
section
variable{K:Frag}{h:Heap}{C fI x:Addr}{s:Shared}{prog:Program}{w:World}{A:Around}{name:Str}{v:Value}{tk:Tok}{R:Result->Shared->Prop}{ox:Obj}{od:Option Obj}
set_option tactic.hygienic true in
def Fq(X:K.In h)(q:xcIn K C fI=true):∃Z J,clsIn K C=some Z/\Z.mro=.ref C::J/\Z.hasDict=true/\OwnTail h L2.vErr J:=by
 unfold xcIn at q
 split at q
 case h_2=>cases q
 case h_1 dd Z sl ho=>
  split at q
  case h_2=>cases q
  case h_1 C2 J k0 k1 k2 k3 n k5 hm hs=>
   rw[ZX,ZX,ZX,ZX,ZX,ZX]at q;obtain⟨M,_,_,L,G,_,_⟩:=q;obtain rfl:C2=C:=beq_iff_eq.mp M;exact⟨Z,J,by unfold clsIn;rw[ho],hm,L,tail_of_in X G⟩
def NX(T:OwnTail h L2.vErr tl):refuseLoop self "__setattr__" tl=pure ():=by
 induction T with
 |base=>exact PySem.F.store_ValueError.passes self
 |own _ _ _ _ ih=>rw[refuseLoop_ref];exact ih
def S7(X:K.In s.heap)(I:InstAt s.heap x ox C od)(q:xcIn K C fI=true)(N:mroIn K C (.type "object")=some true)(B:findIn K (.ref C) name=some none)(h:wpAny (model prog w) A.in1 (storeInOwnDict (.ref x) (.ref C) (.str name tk) name v false)
   (λL J=>match L with|.done f=>R (.ok f) J|.again M=>M.quiet=true/\codeAny (model prog w) A M R J) (λe J=>R (.error e) J) s):
  codeAny (model prog w) A (.call (.builtin "object.__setattr__") ⟨[.ref x,.str name tk,v],[]⟩) R s:=by
 have Z:=PySem.F.store_object;obtain⟨F,S,E,D,_,T⟩:=Fq X q;have G:Looks (model prog w) s.heap (isInstance (.ref x)<|.type "object") true:=I.type.andThen<|looks_mroIn X N;have O:Looks (model prog w) s.heap (mroOf<|.ref C) F.mro:=(looks_clsIn X E).andThen .now;refine jw Z.slot.plain Z.entry<|check_slot (i:="object.__setattr__") (owner:="object") (n:="__setattr__") Z.kind Z.split G (Z.args (.ref x) (.str name tk) v) ?_;rw[osa_eq,refuse_eq,];refine Zj<|Zj<|I.type.here<|Zj<|O.here ?_;rw[D,refuseLoop_ref,NX T];exact Zk<|Zj<|I.type.here<|Zj<|(jr X B).here<|Zj<|Zk h
def x_store0{E:Value->Shared->Prop}{Q:Unit->Shared->Prop}{oc:Value}{L:Array Value}{sl:Array (Option Value)}(X:K.In s.heap)(q:xcIn K C fI=true)(D:mroIn K C (.type "object")=some true)(S:findIn K (.ref C) name=some none)(U:findIn K (.ref C) "__setattr__"=some (some<|.builtin "object.__setattr__"))(M:s.heap.get? x=some ⟨.ref C,none,.fields L,sl⟩)(h:∀G tk,G.Ns1 s.heap.objs.size (λy=>if y=name then some v else none)->G.get? x=some ⟨.ref C,some s.heap.objs.size,.fields L,sl⟩->(∀b o,b≠x->s.heap.get? b=some o->G.get? b=some o)->Q () {s with heap:=G,toks:=tk}):
  wpAny (model prog w) A (setAttr (.ref x) name v) Q E s:=by
 have I:InstAt s.heap x ⟨.ref C,none,.fields L,sl⟩ C none:=⟨M,rfl,rfl,trivial⟩;refine set_plain X I U<|S7 (s:={s with toks:=s.toks+1}) X I q D S ?_;obtain⟨u,g,z,p,j,_⟩:=Fq X q;have Z:(s.heap.push {cls:=.type "dict",data:=.dict #[]}).get? x=some ⟨.ref C,none,.fields L,sl⟩:=ZD _ M;have T:x≠s.heap.objs.size:=Zc<|ZN M;refine Zj<|Zk<|Zj<|Zj<|wpAny_loadPart M<|Zj<|Looks.here (s:={s with toks:=s.toks+1}) (looks_clsIn X z) ?_;rw[j];show wpAny _ _ (alloc {cls:=.type "dict",data:=.dict #[]} >>=λd=>update x (λo=>{cls:=o.cls,dict:=some d,data:=o.data,slots:=o.slots}) >>=λ_=>dictMade (.ref C) x d) _ _ _;refine Zj<|wpAny_alloc'<|Zj<|wpAny_update' Z<|Zk ?_
 have m:((s.heap.push {cls:=.type "dict",data:=.dict #[]}).update x λo=>{cls:=o.cls,dict:=some s.heap.objs.size,data:=o.data,slots:=o.slots}).get? s.heap.objs.size=some {cls:=.type "dict",data:=.dict #[]}:=
  (jF _ _ _ _ T.symm).trans (Heap.get?_push_at rfl rfl)
 have F:((s.heap.push {cls:=.type "dict",data:=.dict #[]}).update x λo=>{cls:=o.cls,dict:=some s.heap.objs.size,data:=o.data,slots:=o.slots}).Ns s.heap.objs.size (λ_=>none):=
  ⟨_,#[],_,m,rfl,λe P=>Zp P (by simp),λ_=>rfl⟩
 refine Zj<|Zk<|Zj<|wpAny_nsSet1 (Heap.Ns1.of_empty F) λG B J=>?_;obtain⟨k,c,f,N,hdD,O⟩:=B.count<|PySem.Within.cons name v PySem.Within.nil;refine Zj<|wpAny_lookBehind N (by rw[hdD];exact pastItsLine_dict<|ZZ O (by rw[Zd,List.length_nil,vv];omega))<|Zk<|h _ _ B ?_ λb o t e=>?_
 .refine (J.2 x T).trans ?_
  exact ye _ Z Y
 .refine (J.2 b<|Zc<|ZN e).trans ?_
  rw[jF _ _ _ _ t];exact ZD _ e
end
end PySem.W
namespace L2
open PySem PySem.Spec PyProof.Rows
def xdO(d:Addr)(fs:List (Str×V)):HO:=.ext λh=>∃Z,h.Ns1 d Z/\(∀f,US (fs.lookup f)<|Z f)/\PySem.Within Z (fs.map (·.1))
def exI(ea C:Addr)(dx:kH):HO:=.ext λh=>∃Z sl,h.get? ea=some ⟨.ref C,dx,.fields Z,sl⟩/\1<Z.size/\Z[1]?=some Value.none
structure XCl(K:W.Frag)(C fI:Addr):Prop where
 xc:W.xcIn K C fI=true
 ob:W.mroIn K C (.type "object")=some true
 sa:W.findIn K (.ref C) "__setattr__"=some (some (.builtin "object.__setattr__"))
def xdO.ok{P:Program}{w:World}{H:Hp}{h:Heap}(Z:h.Ns1 d mA)(r:∀f,US (fs.lookup f)<|mA f)(J:PySem.Within mA (fs.map (·.1))):VN P w H h d (xdO d fs):=
 ⟨⟨mA,Z,r,J⟩,let⟨o,_,_,e,_⟩:=Z;⟨o,e⟩,λL G ⟨m,q,r⟩ k=>⟨m,q.at k,r⟩⟩
def exI.ok{P:Program}{w:World}{H:Hp}{h:Heap}{Z:kI}{sl:Array (Option Value)}(e:h.get? ea=some ⟨.ref C,J,.fields Z,sl⟩)(z:1<Z.size)(n:Z[1]?=some Value.none):VN P w H h ea (exI ea C J):=
 ⟨⟨Z,sl,e,z,n⟩,⟨_,e⟩,λL G ⟨Z,sl,q,r⟩ k=>⟨Z,sl,k _ q,r⟩⟩
section
variable{X:Cx}{pins:kh}{U:St}{H:Hp}{s:Shared}{a C fI d:Addr}{f:Str}{y:V}{u:Value}{A:Around}{E:ko}{Q:Unit->Shared->Prop}{fs:List (Str×V)}
def AL(I:Inv X pins U H s)(e:H a=some (exI a C none))(c:XCl X.K C fI)(n:W.findIn X.K (.ref C) f=some none)(B:RelV y u)(h:∀d T,H d=none->d≠a->Inv X pins U (upd (upd H d<|xdO d [(f,y)]) a<|exI a C<|some d) T->Q () T):wpAny (model X.prog X.w) A (setAttr (.ref a) f u) Q E s:=by
 obtain⟨⟨G,sl,L,D,M⟩,_⟩:=(show VN X.prog X.w H s.heap a (exI a C none)from I.hok a _ e);refine W.x_store0 (oc:=.none) I.kIn c.xc c.ob n c.sa L λh' R F Z S=>?_;have O:s.heap.objs.size≠a:=λz=>zX _<|z ▸ ZN L;have P:H s.heap.objs.size=none:=I.hok.fresh<|ZF _;have j:(h'.update a λ_=>⟨.ref C,none,.fields G,sl⟩).get? a=some ⟨.ref C,none,.fields G,sl⟩:=ye _ Z rfl;have N:∀b,b≠a->(h'.update a λ_=>⟨.ref C,none,.fields G,sl⟩).get? b=h'.get? b:=λb J=>jF _ _ _ _ J
 have t:=I.laid (a:=s.heap.objs.size) (o:=xdO s.heap.objs.size [(f,y)]) (h':=h'.update a λ_=>⟨.ref C,none,.fields G,sl⟩) (t':=R) (λb o q=>by
  by_cases z:b=a
  .subst z;rw[L]at q;cases q;exact j
  .rw [N b z];exact S b o z q) (ZF _) (xdO.ok (F.at λo q=>by rw[N _ O];exact q) (λg=>by
  show US (List.lookup g [(f,y)]) (if g=f then some u else none)
  by_cases q:g=f
  .have J:(g==f)=true:=beq_iff_eq.mpr q
   simp only[List.lookup,J,Zn q];exact B
  .have J:(g==f)=false:=beq_eq_false_iff_ne.mpr q
   simp only[List.lookup,J,Zo q];trivial)<|PySem.Within.cons f u PySem.Within.nil)
 refine h _ _ P O ?_;refine t.write (x:=a) (e:=a) (h':=h') (t':=R) (by rw[Yc (Zq O),e];exact True.intro) (.inl Y) (λb o J q=>by rw[<-N b J];exact q) ⟨_,Z⟩<|exI.ok Z D M
def sX0(C:Addr)(ta tv:TE)(f:Str):TS:=λD U H=>tv U H λy J=>ta U J λx Z=>Jb x λa=>Z a=some (exI a C none)/\∀d,Z d=none->d≠a->D.nx U (upd (upd Z d<|xdO d [(f,y)]) a<|exI a C<|some d)
def AX{o value:Expr}{M L:TE}{pos Z:Pos}(c:XCl X.K C fI)(n:W.findIn X.K (.ref C) f=some none)(P:PE X o M)(B:PE X value L)(F:swapsWith value (some<|.Attribute o f Z) pos.line X.env=pure false:=by rfl):PS X (.Assign [.Attribute o f Z] value pos) (sX0 C M L f):=by
 intro pins s U H D I h;refine plainObj_wpAny_Assign_Attribute (thn (B pins s U H _ I h) λu N ⟨y,k,g,O,q⟩=>thn (P pins N U k _ g q) λT v ⟨x,w,m,R,J⟩=>?_) F;replace J:=Jb.old J;obtain⟨a,j,z,J⟩:=J;subst j;obtain rfl:T=Value.ref a:=R;exact AL m z c n O λd p S G t=>⟨U,_,t,J d S G⟩
def drop(H:Hp)(a:Addr):Hp:=λb=>if b=a then none else H b
def Ua(h:b≠a):drop H a b=H b:=Zo h
def W7:drop H a a=none:=Zn rfl
def Inv.drop{φ:Heap->Prop}(I:Inv X pins U H s)(e:H a=some (.ext φ)):Inv X pins U (drop H a) s:=by
 have J:∀b o,H b=some o->(∀ψ,o≠.ext ψ)->b≠a:=λb o q n z=>by rw[z,e]at q;exact n _ (ZP q).symm
 have G:∀b,H b=none->L2.drop H a b=none:=λb q=>by
  by_cases z:b=a
  .rw [z];exact W7
  .rw [Ua z];exact q
 obtain⟨P,S,bare,base,M,cell,free,Z,L,O,N⟩:=I;refine⟨P,S,bare,⟨base.keep,base.slot,λb o q n j=>G b<|base.free b o q n j,base.there,λb R q=>?_,λb o u q=>?_,λb T q=>?_⟩,M,cell,G _ free,λx c q=>G _<|Z x c q,λp t=>let⟨F,D,B⟩:=L p t;⟨F,G _ D,B⟩,λb o q=>?_,N⟩
 .have z:=base.tups b R q;rw[Ua (J b _ z λ_ y=>nomatch y)];exact z
 .have z:=base.frzs b o u q;rw[Ua (J b _ z λ_ y=>nomatch y)];exact z
 .obtain ⟨more,z⟩:=base.tbls b T q;exact⟨more,by rw[Ua (J b _ z λ_ y=>nomatch y)];exact z⟩
 .by_cases z:b=a
  .rw [z,W7]at q;cases q
  .rw [Ua z]at q
   exact(O b o q).stay (λ_ _ _ y=>y) (λc y=>by rw[Ua (J c _ y λ_ y=>nomatch y)];exact y) λc R y=>by rw[Ua (J c _ y λ_ y=>nomatch y)];exact y
end
end L2
namespace PySem.W
open PySem PySem.Spec PyProof.Rows
def exc_get{K:Frag}{D x:Addr}{L:Obj}{J:Option Obj}{s:Shared}{Z:Program}{w:World}{A:Around}{name:Str}{v:Value}{G:Bool}{Q:Value->Shared->Prop}{E:Value->Shared->Prop}(C:ExcC K D)(X:K.In s.heap)(I:InstAt s.heap x L D J)(S:findObj K D J name=some (.value v))(B:handedIn v=true)(h:Q v {s with toks:=s.toks+1}):
  wpAny (model Z w) A (getAttr (.ref x) name G) Q E s:=by
 obtain⟨y,g,d,t,P⟩:=s;have T:=I.type (M:=model Z w);have R:=jr (M:=model Z w) X C.ga;have O:=jr (M:=model Z w) X C.gn;have j:=looks_find (M:=model Z w) X I S;have sl:=F.attr_ValueError.ga;have U:=sl.bind<|.ref x;simp only[getAttr,getAttrBy];refine Zj<|wpAny_mkText<|wpAny_holding<|Zj<|T.at ?_;refine Zj<|R.at ?_;simp only[LQ,vN,vd,if_false,getAttrByItsOwn,hookBefore];refine Zj<|O.at<|Zj<|vi<|wpAny_holding ?_;have N:(G && onTheHeap (.builtin "BaseException.__getattribute__"))=false:=by cases G <;> rfl
 simp only[callGetattribute,boundAndCalled,N,vd,if_false];rw[U];refine Zj<|Zk<|wpAny_call<|jw sl.plain F.entry_bexc_ga<|Rj C X I ?_;simp only[Builtin.«object.__getattribute__»]
 repeat lk
 show wpAny _ _ (handedOut v) _ _ _;rw[handedOut_of B];exact Zk h
end PySem.W
namespace PySem
section
variable{M:Model}{A:Around}{E:Value->Shared->Prop}{env:Env}
variable{nm q:Str}{C N:Addr}{bs bm:List Value}{hdct:Bool}{sn:List Str}{sub:List Value}{ab:Bool}{col:Option Bool}{dd:Option Addr}{k0 k1 k2 k3 k5:Option Value}{newId:String}
def M9{s:Shared}{x:Sem Value}{Q:Flow->Shared->Prop}(Z:bm.contains (.type "BaseException")=true)(B:A.handled=none)(h:wpAny M A x (λv J=>∃e R G sl,v=.ref e/\J.heap.get? C=some (excClassObj nm q C N bs bm hdct sn sub ab col dd k0 k1 k2 k3 k5 newId)/\J.heap.get? e=some ⟨.ref C,R,.fields G,sl⟩/\G[1]?=some Value.none/\E (.ref e) J) E s):
  wpAny M A (raiseStmt env (some x) none) Q E s:=by
 have L:(Value.ref C::bm).contains (.type "BaseException")=true:=by rw[List.contains_cons,Z,Bool.or_true]
 unfold raiseStmt;refine Zj<|Zl h (λv J ⟨e,R,G,sl,I,O,D,T,F⟩=>?_) λ_ _ z=>z;subst I;obtain⟨X,g,d,S,U⟩:=J
 repeat (first|with_reducible refine wpAny_loadPart_at D ?_|with_reducible refine wpAny_loadPart_at O ?_|(with_reducible refine wpAny_isSubtype_exc O ?_;rw[L])|wp_step)
 rw[T];exact Zk<|Zk<|wpAny_raiseNew_none B F
end
end PySem
namespace L2
open PySem PySem.Spec PyProof.Rows
section
variable{X:Cx}{pins:kh}{U:St}{H:Hp}{s:Shared}{C fI:Addr}{fd:FuncData}{k:Nat}{f g y z p:Str}{us:kq}{a b:V}{E:XK}{x:Str}
def Po(K:W.Frag)(ta:TE)(f:Str):TE:=λU H Q=>ta U H λx Z=>Jb x λa=>∃C d J v,Z a=some (XY a C<|some d)/\Z d=some (xdO d J)/\W.ExcC K C/\W.hasDictIn K C=true/\W.findIn K (.ref C) f=some none/\J.lookup f=some v/\Q v Z
def Oa{e:Expr}{L:TE}{pos:Pos}(A:PE X e L)(P:attributeBase e f X.env (eval e X.env)=eval e X.env):PE X (.Attribute e f pos) (Po X.K L f):=by
 intro pins s U H Q I h;refine En P<|thn (A pins s U H _ I h) λu M ⟨x,G,Z,R,q⟩=>?_;replace q:=Jb.old q;obtain⟨a,m,C,d,t,v,w,c,O,S,j,l,q⟩:=q;subst m;obtain rfl:u=Value.ref a:=R;obtain⟨⟨ox,e1,e2,n,i⟩,_⟩:=(show VN X.prog X.w G M.heap a (XY a C<|some d)from Z.hok a _ w);obtain⟨⟨T,F,r,wi⟩,_⟩:=(show VN X.prog X.w G M.heap d (xdO d t)from Z.hok d _ c);obtain⟨od,D,J⟩:=Rb F;obtain⟨u,B,N⟩:=US.some_of (v:=v) (o:=T f) (by rw[<-l];exact r f);exact W.exc_get O Z.kIn ⟨e1,e2,n,by rw[i];exact D⟩ (W.findObj_own S j Y (by rw[J,B])) (Rf N) ⟨v,G,Z.tok _,N,q⟩
end
def E6(C:Addr)(f:Str):Sp:=λJ H Q _=>∃Z a,J=[.ref Z,a]/\H Z=some (exI Z C none)/\∀d,H d=none->d≠Z->Q .non (upd (upd H d<|xdO d [(f,a)]) Z<|exI Z C<|some d)
section
variable{X:Cx}{pins:kh}{U:St}{H:Hp}{s:Shared}{C fI:Addr}{fd:FuncData}{k:Nat}{f y p:Str}{us:kq}{a:V}{E:XK}{x:Str}
def Qo(c:XCl X.K C fI)(hf:W.isFn X.K (.ref fI)=true)(G:Ym X.prog X.w X.K X.mg X.base CX0 k fI fd [p,y] (E6 C f))(hr:VW (k+1) X.A)(hb:Binds X.K fd [p,y] [])(I:Inv X pins U H s)(r:Vals [a] us)(l:X.ex=[]){Q:ko}(h:∀S d L,H d=none->H S=none->Inv X pins U (upd H d<|xdO d [(f,a)]) L->Fly X.s₀.heap (upd H d<|xdO d [(f,a)]) L.heap S C (some d)->
   (∃O sl,L.heap.get? S=some ⟨.ref C,some d,.fields O,sl⟩/\O[1]?=some Value.none)->Q (.ref S) L):
  wpAny (model X.prog X.w) X.A (call (.ref C) us) Q X.xe s:=by
 obtain⟨tl,N,nm,qn,bs,sn,Z8,ab,Z9,dd,k0,k1,k2,k3,k5,mN,b,hN,m,T⟩:=W.cls_xc I.kIn c.xc;have ft:W.typeIn X.K (.ref fI)=some (.type "function"):=beq_iff_eq.mp hf
 obtain⟨R,hl,w⟩:∃R,X.K.lookup fI=some R/\R.cls=.type "function":=by
  unfold W.typeIn at ft;obtain⟨R,e1,e2⟩:=Zh.mp ft;exact⟨R,e1,e2⟩
 obtain⟨D,rfl,ra⟩:=vals1 r;obtain⟨hp,gs,dr,tk,os⟩:=s;refine x_call F.excBase_ValueError T b hN m (I.kIn _ _ hl) w (by rw[<-r.length,vv];show 1<=_;omega) λh' e g n=>?_;obtain⟨t,ht,_,_⟩:=g.there;have P:=I.laid (a:=e) (o:=exI e C none) (h':=h') (t':=tk) g.keeps n<|exI.ok ht (by show 1<6;decide) rfl;have i:H e=none:=I.hok.fresh n
 have hq:E6 C f [.ref e,a] (upd H e<|exI e C none) (λv H2=>v=.non/\∃d,H d=none/\d≠e/\H2=upd (upd (upd H e<|exI e C none) d<|xdO d [(f,a)]) e (exI e C<|some d)) (λ_ _ _=>False):=
  ⟨e,a,rfl,YZ,λd A J=>⟨rfl,d,by rw[Yc J]at A;exact A,J,Y⟩⟩
 have r2:Vals [V.ref e,a] [Value.ref e,D]:=.cons rfl r;refine wpAny_call<|vc (G.run _ X.stack _ _ ⟨[Value.ref e,D],[]⟩ [Value.ref e,D] _ _ (λ_ _ _=>False) (hr.make C _ []) (P.env0.make C _ []) (hb _ [Value.ref e,D] P.kIn rfl) r2 hq) λr L Z=>?_
 cases r with
 |error e'=>exact VQ pins U _ _ e' L P Z
 |ok fl=>
  cases fl with
  |next=>exact False.elim Z
  |brk=>exact False.elim Z
  |cont=>exact False.elim Z
  |ret u=>
   obtain⟨v,H',I3,rv,ev,d,A,J,rfl⟩:=P.after Z;subst ev;have M:upd (upd (upd H e<|exI e C none) d<|xdO d [(f,a)]) e (exI e C<|some d) e=some (exI e C<|some d):=YZ;obtain⟨⟨O,sl,hx,j,B⟩,_⟩:=(show VN X.prog X.w _ L.heap e (exI e C<|some d)from I3.hok e _ M);have I4:=I3.drop M
   have eH:L2.drop (upd (upd (upd H e<|exI e C none) d<|xdO d [(f,a)]) e<|exI e C<|some d) e=upd H d (xdO d [(f,a)]):=by
    funext x
    by_cases z:x=e
    .rw [z,W7,Yc<|Zq J,i]
    .rw [Ua z,Yc z]
     by_cases z2:x=d
     .rw [z2,YZ,YZ]
     .rw [Yc z2,Yc z,Yc z2]
   rw[eH]at I4;refine⟨rv,h e d L A i I4 ⟨?_,by rw[Yc (Zq J)];exact i,_,O,hx,Y,Y,Y,j,.inl B⟩ ⟨O,sl,hx,B⟩⟩
   cases q:X.s₀.heap.get? e with
   |none=>rfl
   |some u=>
    obtain⟨v,hv⟩:=I.base.there e u q (by rw[l];simp);rw[g.new]at hv;cases hv
def IK(C:Addr)(f:Str)(E:XK)(t:TA):TS:=λ_ U H=>t U H λJ Z=>∃a,J=[a]/\∀d,Z d=none->E (.ref C) (some d) (upd Z d<|xdO d [(f,a)])
def Uw{e:Expr}{J:kX}{t:TA}{m Z pos:Pos}(hl:Pm X E)(B:X.ex=[])(hc:X.calm=true)(hg:Gl X x)(n:X.mg x=some (.ref C))(c:XCl X.K C fI)(hk:W.keepIn X.K (.ref C)=true)(hf:W.isFn X.K (.ref fI)=true)(G:Ym X.prog X.w X.K X.mg X.base CX0 k fI fd [p,y] (E6 C f))(o:VW (k+1) X.A)(hb:Binds X.K fd [p,y] [])(ha:PA X (e::J) t)(A:(x==("__debug__":Str))=false:=by decide)(he:starEach (e::J) X.env=(false,eval e X.env)::starEach J X.env:=by rfl)(R:(backTo Z<|starEach J X.env).any (·.1)=false:=by rfl):
  PS X (.Raise (some<|.Call (.Name x m) (e::J) [] Z) none pos) (IK C f E t):=by
 intro pins s U H D I h;obtain⟨Q,N,nm,j,bs,sn,sub,ab,col,dd,k0,k1,k2,k3,k5,mN,S,hN,i,T⟩:=W.cls_xc I.ok.mod.kin c.xc
 have P:wpAny (model X.prog X.w) X.A (eval (.Call (.Name x m) (e::J) [] Z) X.env) (λv O=>∃L dx M sl,v=.ref L/\O.heap.get? C=some (excClassObj nm j C N bs Q true sn sub ab col dd k0 k1 k2 k3 k5 "ValueError.__new__")/\O.heap.get? L=some ⟨.ref C,dx,.fields M,sl⟩/\M[1]?=some Value.none/\X.xe (.ref L) O) X.xe s:=by
  refine yg<|UE I hg n ?_ A;refine vz (h₀:=X.base) I.ok.mod.kin hk (thn (ha Z pins s U H _ I h) λus O ⟨M,H1,u,r,a,ev,q⟩=>⟨u.kIn,?_⟩) he R;subst ev;exact Qo c hf G o hb u r B λL d w hd Z8 g F ⟨M,sl,l,b⟩=>⟨L,_,M,sl,Y,g.bk _ _ S,l,b,hl pins U _ w L C (some d) g F<|q d hd⟩
 rw[arm_exec_Raise];refine Zj<|yw<|M9 (C:=C) (nm:=nm) (q:=j) (N:=N) (bs:=bs) (bm:=Q) (hdct:=true) (sn:=sn) (sub:=sub) (ab:=ab) (col:=col) (dd:=dd) (k0:=k0) (k1:=k1) (k2:=k2) (k3:=k3) (k5:=k5) (newId:="ValueError.__new__") (T.hasType F.excBase_ValueError.hasBase) (I.ok.hd hc)<|Zj<|Zl P (λv s3 h3=>Zj<|yw<|Zk h3) λ_ _ z=>z
end
def SI(tp:Bool)(h:Heap)(i l:Addr)(k:Nat)(xs:kI):Prop:=match tp with
 |false=>h.IsListIter i l k/\h.IsList l xs
 |true=>h.IsTupleIter i l k/\h.IsTuple l xs
def SI.to(z:SI J h i l k G)(Z:∀b o,(b=i\/b=l)->h.get? b=some o->L.get? b=some o):SI J L i l k G:=by
 cases J with
 |false=>exact⟨let⟨o,e,r⟩:=z.1;⟨o,Z _ _ (.inl Y) e,r⟩,let⟨o,e,r⟩:=z.2;⟨o,Z _ _ (.inr Y) e,r⟩⟩
 |true=>exact⟨let⟨o,e,r⟩:=z.1;⟨o,Z _ _ (.inl Y) e,r⟩,let⟨o,e,r⟩:=z.2;⟨o,Z _ _ (.inr Y) e,r⟩⟩
def SI.but(z:SI G h i l k J)(e:Heap.ExtBut b h L)(N:i≠b)(M:l≠b):SI G L i l k J:=
 z.to λc o Z q=>e c o (by rcases Z with Z|Z <;> rw[Z] <;> assumption) q
def D5{a b:Sem α}{Q:α->Shared->Prop}(Z:c=false)(h:wpAny M A b Q E s):wpAny M A (if c=true then a else b) Q E s:=by
 subst Z
 rwa [Zo (by decide)]
section
def Gj(z:SI R s.heap i l k O)(D:l≠i)(I:O[k]?=some x)(S:∀g,SI R g i l (k+1) O->Heap.SameBut i s.heap g->Q x {s with heap:=g}):wpAny (model prog w) A (Builtin.SmallTypes.nextOf<|.ref i) Q E s:=by
 cases R with
 |false=>exact wpAny_nextOf_list_item z.1 z.2 I λg a B=>S g ⟨a,z.2.extBut B.extBut D⟩ B
 |true=>
  obtain⟨G,N⟩:=z;obtain⟨X,J,M,Z⟩:=id G;obtain⟨C,L,_,P,U⟩:=id N;have T:=F.slot_tuple_iterator_next;simp only[Builtin.SmallTypes.nextOf];refine Zj<|wpAny_callSpecial?_slot (name:=Str.ofString "__next__") G.typeIs T<|yL T G.typeIs F.entry_tuple_iterator_next ?_<|F.args_tuple_iterator_next_1 _;refine Zj (m:=field (.ref i) 0)<|Zm J Z (x:=.ref l) rfl (D5 (c:=Value.ref l==.none) rfl ?_);refine Zj (m:=field (.ref i) 1)<|Zm J Z (x:=.int k 0) rfl (Zj (m:=seqItems?<|.ref l)<|yB L U ?_);simp only[I,yN];refine Zj<|vA J Z (by simp)<|Zk ⟨x,rfl,Zk<|S _ ⟨?_,?_⟩<|Heap.SameBut.update ..⟩
  .refine ⟨_,ye _ J<|Obj.isFreed_of_fields<|Obj.data_mapFields Z _,(Obj.cls_mapFields ..).trans M,?_⟩
   rw[Obj.data_mapFields Z];simp[rawInt]
  .exact N.extBut (Heap.SameBut.update ..).extBut D
def Be(O:A.handled=none)(z:SI D s.heap i l k B)(N:B[k]?=none)(R:∀g e,Heap.ExtBut i s.heap g->(∃o,g.get? e=some o/\o.cls=.type "StopIteration")->E (.ref e) {s with heap:=g}):wpAny (model prog w) A (Builtin.SmallTypes.nextOf<|.ref i) Q E s:=by
 cases D with
 |false=>exact wpAny_nextOf_list_end O z.1 z.2 N R
 |true=>
  obtain⟨G,T⟩:=z;obtain⟨X,Z,U,J⟩:=id G;obtain⟨C,L,_,P,S⟩:=id T;have M:=F.slot_tuple_iterator_next;simp only[Builtin.SmallTypes.nextOf];refine Zj<|wpAny_callSpecial?_slot (name:=Str.ofString "__next__") G.typeIs M<|yL M G.typeIs F.entry_tuple_iterator_next ?_<|F.args_tuple_iterator_next_1 _;refine Zj (m:=field (.ref i) 0)<|Zm Z J (x:=.ref l) rfl (D5 (c:=Value.ref l==.none) rfl ?_);refine Zj (m:=field (.ref i) 1)<|Zm Z J (x:=.int k 0) rfl (Zj (m:=seqItems?<|.ref l)<|yB L S ?_);simp only[N,yN];refine Zj (vZ<|Zj<|vA Z J (by simp) ?_);refine Zj (m:=newExc (.type "StopIteration") []) ?_;simp only[newExc,newTuple];refine Zj (yk (Zj (m:=firstArgMember _ _)<|wpAny_of_eq (a:=.none) (by simp only[firstArgMember];rfl)<|yk ?_<|by size_fits)<|by size_fits);have I:A.in1.handled=none:=O;simp only[raiseNew];refine Zj<|wpAny_handled<|?_;rw[I];exact Zj<|Zk<|wpAny_throw<|R _ _ (((Heap.SameBut.update ..).extBut.push _).push _) ⟨_,ZW _ rfl,rfl⟩
structure ZS(h:Heap)(z TI TO:Addr)(f0:Value)(t1:Bool)(i1 l1:Addr)(xs:Array Value)(t2:Bool)(i2 l2:Addr)(ys:Array Value)(k:Nat):Prop where
 zip:IsZip h z TI TO f0
 its:IsPair h TI (.ref i1) (.ref i2)
 out:∃a b,IsPair h TO a b
 one:SI t1 h i1 l1 k xs
 two:SI t2 h i2 l2 k ys
def Lz{z TI TO G J t C:Addr}(D:ZipApart z TI TO G J t C)(S:ZS s.heap z TI TO .none t1 G t u t2 J C ys k)(hx:u[k]?=some x)(hy:ys[k]?=some y)(hQ:∀g,ZS g z TI TO (rawInt s.heap.objs.size) t1 G t u t2 J C ys (k+1)->IsPair g s.heap.objs.size x y->g.objs.size=s.heap.objs.size+1->
   (∀c o,c≠z->c≠TO->c≠G->c≠J->s.heap.get? c=some o->g.get? c=some o)->Q (some<|.ref s.heap.objs.size) {s with heap:=g}):wpAny (model prog w) A (pyNext<|.ref z) Q E s:=by
 have hT:s.TypeIs (.ref z) "zip":=⟨_,S.zip,rfl⟩;obtain⟨a,b,So⟩:=S.out;simp only[pyNext];refine Zj<|vi<|wpAny_callSpecial?_slot (name:=Str.ofString "__next__") hT jo<|yL jo hT F.entry_zip_next ?_<|F.args_zip_next_1 _;refine Zj (m:=field (.ref z) 2)<|Zm S.zip rfl (x:=.bool false) rfl (Zj (m:=field (.ref z) 3)<|Zm S.zip rfl (x:=.ref TI) rfl (Zj<|yB S.its rfl ?_));refine Zj (m:=Builtin.SmallTypes.ownedTupleIsFree<|.ref z)<|Zj (m:=field (.ref z) 0)<|Zm S.zip rfl (x:=.none) rfl (Zk ?_);simp only[if_true];refine Zj (vZ<|Zj<|Zm S.zip rfl (x:=.ref TO) rfl (Zj<|zY S.zip (by simp) λg1 f U=>Zj ?_));replace f:IsZip g1 z TI TO .ellipsis:=f;simp only[vF,List.forIn_nil,List.zipIdx_cons,List.zipIdx_nil];refine Zj<|Zj<|wpAny_onRaise (?_:wpAny _ _ (Builtin.SmallTypes.nextOf (.ref G) >>=_) _ _ _);refine Zj<|Gj (S.one.but U.extBut D.i1z D.l1z) D.l1i1 hx λg2 a2 I=>Zk ?_;have o2:IsPair g2 TO a b:=I.extBut _ _ D.TOi1<|U.extBut _ _ D.TOz So;refine Zj<|yB o2 rfl ?_;refine Zj<|jz o2 λg3 l B=>?_;replace l:IsPair g3 TO x b:=l;refine Zj<|wpAny_letGo<|Zk<|Zj<|Zj<|wpAny_onRaise (?_:wpAny _ _ (Builtin.SmallTypes.nextOf (.ref J) >>=_) _ _ _);have b3:SI t2 g3 J C k ys:=((S.two.but U.extBut D.i2z D.l2z).but I.extBut D.i12.symm D.l2i1).but B.extBut D.TOi2.symm D.l2TO;refine Zj<|Gj b3 D.l2i2 hy λg4 b4 T=>Zk ?_;have o4:IsPair g4 TO x b:=T.extBut _ _ D.TOi2 l;refine Zj<|yB o4 rfl ?_;refine Zj<|jz o4 λZ j R=>?_;replace j:IsPair Z TO x y:=j;refine Zj<|wpAny_letGo<|Zk<|Zk<|Zj<|yB j rfl (Zj<|wpAny_newTuple ?_);have sz:Z.objs.size=s.heap.objs.size:=by rw[R.1,T.1,B.1,I.1,U.1]
 have z5:IsZip Z z TI TO .ellipsis:=R.extBut _ _ D.TOz.symm<|T.extBut _ _ D.i2z.symm<|B.extBut _ _ D.TOz.symm<|I.extBut _ _ D.i1z.symm f
 have k5:∀c o,c≠z->c≠TO->c≠G->c≠J->s.heap.get? c=some o->Z.get? c=some o:=λc o L p n h e=>
  R.extBut _ _ p (T.extBut _ _ h<|B.extBut _ _ p<|I.extBut _ _ n<|U.extBut _ _ L e)
 have a5:SI t1 Z G t (k+1) u:=((a2.but B.extBut D.TOi1.symm D.l1TO).but T.extBut D.i12 D.l1i2).but R.extBut D.TOi1.symm D.l1TO;have b5:SI t2 Z J C (k+1) ys:=b4.but R.extBut D.TOi2.symm D.l2TO;have M:z<Z.objs.size:=ZN z5;show wpAny _ _ (Builtin.SmallTypes.ownedTupleHandOut (.ref z) (.ref Z.objs.size) >>=_) _ _ _;refine Zj ?_;simp only[Builtin.SmallTypes.ownedTupleHandOut];have z6:IsZip (Z.push {cls:=.type "tuple",data:=.seq #[x,y]}) z TI TO .ellipsis:=ZD _ z5;refine Zj<|zY z6 (by simp) λg7 d r=>?_;replace d:IsZip g7 z TI TO (rawInt Z.objs.size):=d;refine zY d (by simp) λX P v=>?_;replace P:IsZip X z TI TO (rawInt Z.objs.size):=P;have N:∀c o,c≠z->Z.get? c=some o->X.get? c=some o:=λc o L e=>v.extBut _ _ L<|r.extBut _ _ L<|ZD _ e;have t8:IsPair X Z.objs.size x y:=v.extBut _ _ (yh M)<|r.extBut _ _ (yh M)<|ZW _ rfl;have O:X.objs.size=Z.objs.size+1:=by rw[v.1,r.1,yj]
 rw[sz]at P t8 O;refine Zk ⟨_,Y,Zk ?_⟩;show Q (some<|.ref Z.objs.size) _;rw[sz];refine hQ X ⟨P,N _ _ D.TIz<|k5 _ _ D.TIz D.TITO D.TIi1 D.TIi2 S.its,⟨_,_,N _ _ D.TOz j⟩,?_,?_⟩ t8 O λc o L p n h e=>N c o L<|k5 c o L p n h e
 .exact a5.to λc o i e=>N c o (i.elim (λq=>q ▸ D.i1z) λq=>q ▸ D.l1z) e
 .exact b5.to λc o i e=>N c o (i.elim (λq=>q ▸ D.i2z) λq=>q ▸ D.l2z) e
def QG{z TI TO O N r X:Addr}(l:A.handled=none)(D:ZipApart z TI TO O N r X)(S:ZS s.heap z TI TO .none t1 O r f t2 N X ys k)(R:f[k]?=none\/ys[k]?=none)(hQ:∀g,(∀c o,c≠z->c≠TO->c≠O->c≠N->s.heap.get? c=some o->g.get? c=some o)->Q none {s with heap:=g}):wpAny (model prog w) A (pyNext<|.ref z) Q E s:=by
 have i:s.TypeIs (.ref z) "zip":=⟨_,S.zip,rfl⟩;obtain⟨a,b,So⟩:=S.out;have stop:∀(g:Heap)(e:Addr),(∀c o,c≠z->c≠TO->c≠O->c≠N->s.heap.get? c=some o->g.get? c=some o)->(∃o,g.get? e=some o/\o.cls=.type "StopIteration")->
   wpAny (model prog w) A (do if(<-isInstance (.ref e) (.type "StopIteration"))then pure none else throw (.ref e):Sem (Option Value)) Q E {s with heap:=g}:=λg e kp ⟨o,ho,hc⟩=>
  Zj (wpAny_isInstance (T:="StopIteration") (b:=true) ⟨o,ho,hc⟩ isSubtype_stop<|Zk<|hQ g kp)
 simp only[pyNext];refine Zj<|vi<|wpAny_callSpecial?_slot (name:=Str.ofString "__next__") i jo<|yL jo i F.entry_zip_next ?_<|F.args_zip_next_1 _;refine Zj (m:=field (.ref z) 2)<|Zm S.zip rfl (x:=.bool false) rfl (Zj (m:=field (.ref z) 3)<|Zm S.zip rfl (x:=.ref TI) rfl (Zj<|yB S.its rfl ?_));refine Zj (m:=Builtin.SmallTypes.ownedTupleIsFree<|.ref z)<|Zj (m:=field (.ref z) 0)<|Zm S.zip rfl (x:=.none) rfl (Zk ?_);simp only[if_true];refine Zj (vZ<|Zj<|Zm S.zip rfl (x:=.ref TO) rfl (Zj<|zY S.zip (by simp) λg1 I M=>Zj ?_));replace I:IsZip g1 z TI TO .ellipsis:=I;simp only[vF,List.forIn_nil,List.zipIdx_cons,List.zipIdx_nil];refine Zj<|Zj<|wpAny_onRaise (?_:wpAny _ _ (Builtin.SmallTypes.nextOf (.ref O) >>=_) _ _ _)
 cases hx:f[k]? with
 |none=>
  refine Zj<|Be l (S.one.but M.extBut D.i1z D.l1z) hx λy e n P=>?_;obtain⟨C,Z,J⟩:=P;have d:IsZip y z TI TO .ellipsis:=n _ _ D.i1z.symm I;have G:e≠z:=λq=>by subst q;rw[d]at Z;cases Z;simp at J
  refine zY d (by simp) λj _ L=>?_;exact stop j e (λc o B _ t _ q=>L.extBut _ _ B<|n _ _ t<|M.extBut _ _ B q) ⟨C,L.extBut _ _ G Z,J⟩
 |some x=>
  have hy:ys[k]?=none:=by rcases R with q|q;rw[hx]at q;cases q;exact q
  refine Zj<|Gj (S.one.but M.extBut D.i1z D.l1z) D.l1i1 hx λy a2 U=>Zk ?_;have v:IsPair y TO a b:=U.extBut _ _ D.TOi1<|M.extBut _ _ D.TOz So;refine Zj<|yB v rfl ?_;refine Zj<|jz v λj o3 L=>?_;refine Zj<|wpAny_letGo<|Zk<|Zj<|Zj<|wpAny_onRaise (?_:wpAny _ _ (Builtin.SmallTypes.nextOf (.ref N) >>=_) _ _ _);have b3:SI t2 j N X k ys:=((S.two.but M.extBut D.i2z D.l2z).but U.extBut D.i12.symm D.l2i1).but L.extBut D.TOi2.symm D.l2TO;refine Zj<|Be l b3 hy λg4 e h P=>?_;obtain⟨C,Z,J⟩:=P;have p:IsZip g4 z TI TO .ellipsis:=h _ _ D.i2z.symm<|L.extBut _ _ D.TOz.symm<|U.extBut _ _ D.i1z.symm I;have G:e≠z:=λq=>by subst q;rw[p]at Z;cases Z;simp at J
  refine zY p (by simp) λg5 _ u=>?_;exact stop g5 e (λc o B c2 t c4 q=>u.extBut _ _ B<|h _ _ c4<|L.extBut _ _ c2<|U.extBut _ _ t<|M.extBut _ _ B q) ⟨C,u.extBut _ _ G Z,J⟩
def Wk(tp:Bool)(h:Heap)(l:Addr)(xs:kI):Prop:=match tp with
 |false=>h.IsList l xs
 |true=>h.IsTuple l xs
def Jn(tp:Bool)(l:Addr):Obj:={cls:=.type<|if tp then "tuple_iterator" else "list_iterator",data:=.fields #[.ref l,.int 0 0]}
def Gf(h:Wk Z s.heap l J)(q:Q (.ref s.heap.objs.size) {s with heap:=s.heap.push (Jn Z l)}):wpAny (model prog w) A (pyIter<|.ref l) Q E s:=by
 cases Z with
 |false=>exact yY h q
 |true=>exact wpAny_pyIter_tuple h q
def Wk.push(z:Wk Z h l J)(o:Obj):Wk Z (h.push o) l J:=by
 cases Z with
 |false=>exact Heap.IsList.push z o
 |true=>exact Heap.IsTuple.push z o
end
abbrev zg1(h:Heap)(t1:Bool)(l1:Addr):Heap:=h.push (Jn t1 l1)
abbrev zg2(h:Heap)(t1:Bool)(l1:Addr)(t2:Bool)(l2:Addr):Heap:=(zg1 h t1 l1).push (Jn t2 l2)
abbrev zg3(h:Heap)(t1:Bool)(l1:Addr)(t2:Bool)(l2:Addr):Heap:=(zg2 h t1 l1 t2 l2).push {cls:=.type "tuple",data:=.seq #[.ref h.objs.size,.ref (zg1 h t1 l1).objs.size]}
abbrev zg4(h:Heap)(t1:Bool)(l1:Addr)(t2:Bool)(l2:Addr):Heap:=(zg3 h t1 l1 t2 l2).push {cls:=.type "tuple",data:=.seq #[.none,.none]}
abbrev zg5(h:Heap)(t1:Bool)(l1:Addr)(t2:Bool)(l2:Addr):Heap:=(zg4 h t1 l1 t2 l2).push {cls:=.type "zip",data:=.fields #[.none,.bool false,.bool false,.ref (zg2 h t1 l1 t2 l2).objs.size,.ref (zg3 h t1 l1 t2 l2).objs.size]}
def BK(J L:Bool)(Z G:Addr)(M ys:kI):
  Meets (Builtin.«zip.__new__» ⟨[.type "zip",.ref Z,.ref G],[]⟩) (λ_ R s=>Wk J s.heap Z M/\Wk L s.heap G ys/\
   R (.ok<|.ret<|.ref (zg4 s.heap J Z L G).objs.size) {s with heap:=zg5 s.heap J Z L G}):=
 .of_wp λO w A R s h=>by
  obtain⟨D,g,d,N,T⟩:=s;obtain⟨S,I,h⟩:=h;have B:=sub_zip;have F:Wk J (Shared.heap ⟨D,g,d,N,T⟩) Z M:=S;have E:Wk L (Shared.heap ⟨D.push<|Jn J Z,g,d,N,T⟩) G ys:=Wk.push I _
  wp_walk using Gf F,Gf E
  exact⟨_,Y,h⟩
def SJ(tp:Bool)(h:Heap)(i l:Addr)(k:Nat):Prop:=match tp with
 |false=>h.IsListIter i l k
 |true=>h.IsTupleIter i l k
def SJ.si(z:SJ Z h i l k)(c:Wk Z h l J):SI Z h i l k J:=by
 cases Z <;> exact⟨z,c⟩
def SI.sj(z:SI Z h i l k J):SJ Z h i l k:=by
 cases Z <;> exact z.1
def SJ.to(z:SJ Z h i l k)(J:∀o,h.get? i=some o->G.get? i=some o):SJ Z G i l k:=by
 cases Z with
 |false=>exact let⟨o,e,r⟩:=z;⟨o,J _ e,r⟩
 |true=>exact let⟨o,e,r⟩:=z;⟨o,J _ e,r⟩
def SJ.obj(z:SJ Z h i l k):∃o,h.get? i=some o/\∀v,o.data≠.cell v:=by
 cases Z with
 |false=>obtain⟨o,e,_,d⟩:=z;exact⟨o,e,λv q=>by rw[d]at q;cases q⟩
 |true=>obtain⟨o,e,_,d⟩:=z;exact⟨o,e,λv q=>by rw[d]at q;cases q⟩
def SJ.new(Z:Bool)(h:Heap)(l:Addr):SJ Z (h.push<|Jn Z l) h.objs.size l 0:=by
 cases Z <;> exact⟨_,ZW _ Y,Y,Y⟩
structure ZR(h:Heap)(z TI TO:Addr)(t1:Bool)(i1 l1:Addr)(t2:Bool)(i2 l2:Addr)(k:Nat):Prop where
 zip:IsZip h z TI TO .none
 its:IsPair h TI (.ref i1) (.ref i2)
 out:∃a b,IsPair h TO a b
 one:SJ t1 h i1 l1 k
 two:SJ t2 h i2 l2 k
section
def Lk(S:Wk t1 s.heap l1 B)(I:Wk t2 s.heap l2 ys)(h:∀g,ZR g (s.heap.objs.size+4) (s.heap.objs.size+2) (s.heap.objs.size+3) t1 s.heap.objs.size l1 t2 (s.heap.objs.size+1) l2 0->
   (∀c o,s.heap.get? c=some o->g.get? c=some o)->Q (.ref<|s.heap.objs.size+4) {s with heap:=g}):wpAny (model prog w) A (call (.type "zip") [.ref l1,.ref l2]) Q E s:=by
 refine callType_new F.called_zip (by decide) (F.typeCall_zip_2 _ _) (F.newCall_zip_2 _ _) (λJ=>F.args_object_init_3 J _ _) F.entry_zip_new (BK t1 t2 l1 l2 B ys) ⟨S,I,?_⟩;have M:(zg1 s.heap t1 l1).objs.size=s.heap.objs.size+1:=yj ..;have L:(zg2 s.heap t1 l1 t2 l2).objs.size=s.heap.objs.size+2:=by rw[yj,M]
 have G:(zg3 s.heap t1 l1 t2 l2).objs.size=s.heap.objs.size+3:=by rw[yj,L]
 have T:(zg4 s.heap t1 l1 t2 l2).objs.size=s.heap.objs.size+4:=by rw[yj,G]
 have Z:(zg5 s.heap t1 l1 t2 l2).get? (zg4 s.heap t1 l1 t2 l2).objs.size=some _:=ZW _ rfl;have N:(zg5 s.heap t1 l1 t2 l2).get? (zg3 s.heap t1 l1 t2 l2).objs.size=some _:=ZD _<|ZW _ rfl;have O:(zg5 s.heap t1 l1 t2 l2).get? (zg2 s.heap t1 l1 t2 l2).objs.size=some _:=ZD _<|ZD _<|ZW _ rfl;have R:SJ t2 (zg5 s.heap t1 l1 t2 l2) (zg1 s.heap t1 l1).objs.size l2 0:=(SJ.new t2 (zg1 s.heap t1 l1) l2).to λo q=>ZD _<|ZD _<|ZD _ q;have D:SJ t1 (zg5 s.heap t1 l1 t2 l2) s.heap.objs.size l1 0:=(SJ.new t1 s.heap l1).to λo q=>ZD _<|ZD _<|ZD _<|ZD _ q;show _/\_;rw[L,G,T]at Z;rw[M,L]at O;rw[G]at N;rw[M]at R;rw[T]
 exact⟨⟨_,Z,Y⟩,h _ ⟨Z,O,⟨_,_,N⟩,D,R⟩ λc o q=>
  ZD _ (ZD _<|ZD _<|ZD _<|ZD _ q)⟩
end
def Sq(K:W.Frag)(tp:Bool)(H:Hp)(l:Addr)(xs:kK):Prop:=match tp with
 |false=>SqL K H l xs
 |true=>SqT K H l xs
def Inv.sq(I:Inv X G U H s)(h:Sq X.K J H l L):∃Z:kq,Vals L Z/\Wk J s.heap l Z.toArray:=by
 cases J with
 |false=>
  obtain⟨Z,r,p,_⟩:=I.list h;exact⟨Z,r,p.isList⟩
 |true=>
  obtain⟨Z,r,p,_⟩:=I.tuple h;exact⟨Z,r,p⟩
def Inv.sq_inj(I:Inv X J U H s)(h:Sq X.K Z H l L)(G:Sq X.K Z H l ys):L=ys:=by
 cases Z with
 |false=>exact I.list_inj h G
 |true=>exact I.tuple_inj h G
def Wk.lt(z:Wk Z h l J):l<h.objs.size:=by
 cases Z with
 |false=>obtain⟨_,e,_⟩:=z;exact ZN e
 |true=>obtain⟨_,e,_⟩:=z;exact ZN e
def Itz(K:W.Frag)(t1:Bool)(l1:Addr)(t2:Bool)(l2:Addr):It:=
  ⟨λi H=>∃J Z x y,Sq K t1 H l1 J/\Sq K t2 H l2 Z/\J[i]?=some x/\Z[i]?=some y,
   λi H v G=>∃p x y,v=.ref p/\H p=none/\G=upd H p (.tup [x,y])/\(∀J,Sq K t1 H l1 J->J[i]?=some x)/\∀Z,Sq K t2 H l2 Z->Z[i]?=some y,
   λi H=>∃J Z,Sq K t1 H l1 J/\Sq K t2 H l2 Z/\(J.length<=i\/Z.length<=i)⟩
def Fj:bootBuiltins "zip"=some (.type "zip"):=by decide +kernel
def Inv.turnedL{ch:kF}(I:Inv X Z U H s)(k:∀b o,b∉ch->s.heap.get? b=some o->O.get? b=some o)(f:∀b∈ch,UG X Z H b):
  Inv X Z U H {s with heap:=O,toks:=t'}:=by
 have L:∀b u,H b=some u->b∉ch:=λb u e z=>by rw[(f b z).1]at e;cases e
 have M:X.env.locals∉ch:=λz=>(f _ z).2.1 rfl;refine I.step (g':=s.gens) (d':=s.drawn) (ch:=ch) (λb G=>⟨(f b G).2.2.2.1,(f b G).2.1,(f b G).2.2.2.2.1,(f b G).2.2.2.2.2⟩) (λb o _ _ J e _=>k b o J e) (λb o _ _ J e _=>⟨o.slots,k b o J e⟩) (λ_ _ _ _ n=>n)
  (λb o J e=>⟨o,k b o J e⟩) (λ_ _ e=>e) (λ_ _ _ e=>e) (λb R e=>⟨#[],by rw[e];simp⟩) (λm N=>?_) (λb u e=>?_) I.bare
 .obtain ⟨o,es,ep,ho,r⟩:=N
  exact⟨o,es,ep,k _ o M ho,r⟩
 .refine (I.hok b u e).stay (λc v J q=>k c v ?_ q) (λ_ q=>q) λ_ _ q=>q
  rcases J with z|z
  .rw [z];exact L b u e
  .exact L c _ z
def A4{a b c d x:Addr}(h:x∈ [a,b,c,d]):x=a\/x=b\/x=c\/x=d:=by simpa using h
def Fy{P:Program}{w:World}{K:W.Frag}{F:kX}{x1}{pos:Pos}{z TI TO M L l1 l2:Addr}{t1 t2:Bool}(D:ZipApart z TI TO M L l1 l2):
  Turn P w K (.Tuple F x1 pos) (Itz K t1 l1 t2 l2) [z,TO,M,L,TI] z (λi h=>ZR h z TI TO t1 M l1 t2 L l2 i) where
 mem:=by simp
 obj:=λi h Z b J=>by
  have q:b=z\/b=TO\/b=M\/b=L\/b=TI:=by simpa using J
  rcases q with q|q|q|q|q <;> rw[q]
  .exact ⟨_,Z.zip,λv e=>nomatch e⟩
  .obtain ⟨a,b,e⟩:=Z.out
   exact⟨_,e,λv e=>nomatch e⟩
  .exact Z.one.obj
  .exact Z.two.obj
  .exact ⟨_,Z.its,λv e=>nomatch e⟩
 keep:=λi h h' Z k=>⟨k z (by simp) _ Z.zip,k TI (by simp) _ Z.its,let⟨a,b,e⟩:=Z.out;⟨a,b,k TO (by simp) _ e⟩,Z.one.to λo e=>k M (by simp) o e,Z.two.to λo e=>k L (by simp) o e⟩
 item:=by
  intro X hP hw hK hc i G s U H E I Q Z hg;subst hP hw hK;obtain⟨xs,ys,x,y,C,S,hx,hy⟩:=hg;obtain⟨T,r,t⟩:=I.sq C;obtain⟨R,u,j⟩:=I.sq S;obtain⟨p,J1,d⟩:=r.get hx;obtain⟨m,Z9,c⟩:=u.get hy;refine Lz D ⟨Z.zip,Z.its,Z.out,Z.one.si t,Z.two.si j⟩ (x:=p) (y:=m) (by simpa using J1) (by simpa using Z9) λg A hp sz kp=>?_
  have f:∀b∈ [z,TO,M,L],UG X G H b:=λb J=>Q b (by
   rcases A4 J with q|q|q|q <;> rw[q] <;> simp)
  have Z8:∀b o,b ∉ [z,TO,M,L]->s.heap.get? b=some o->g.get? b=some o:=λb o J e=>kp b o (λq=>J<|by simp[q]) (λq=>J<|by simp[q]) (λq=>J<|by simp[q]) (λq=>J<|by simp[q]) e;have I1:Inv X G U H {s with heap:=g}:=I.turnedL (t':=s.toks) Z8 f;have hn:H s.heap.objs.size=none:=I.hok.fresh<|ZF _;have O:z<s.heap.objs.size:=ZN Z.zip;exists _,Y;refine wpAny_letOwnedTupleGo_zip (s:={s with heap:=g}) A.zip λg2 z2 N=>?_
  have I2:Inv X G U H {s with heap:=g2}:=I1.turnedL (s:={s with heap:=g}) (t':=s.toks) (ch:=[z]) (λb o J e=>N.extBut b o (λq=>J<|by simp[q]) e) λb J=>by
   have q:b=z:=by simpa using J
   rw[q];exact f z<|by simp
  have l:IsPair g2 s.heap.objs.size p m:=N.extBut _ _ (yh O) hp;have I3:Inv X G U (upd H s.heap.objs.size<|.tup [x,y]) {s with heap:=g2}:=I2.retrack hn (I.fpOk (ZF _) hn) ⟨sl 2,[p,m],.cons d<|.cons c .nil,⟨_,l,rfl,rfl,_,rfl⟩⟩
  have n:∀b∈ [z,TO,M,L,TI],b<s.heap.objs.size:=λb J=>by
   have q:b=z\/b=TO\/b=M\/b=L\/b=TI:=by simpa using J
   rcases q with q|q|q|q|q <;> rw[q]
   .exact O
   .obtain ⟨a,b,e⟩:=Z.out
    exact ZN e
   .obtain ⟨o,e,_⟩:=Z.one.obj
    exact ZN e
   .obtain ⟨o,e,_⟩:=Z.two.obj
    exact ZN e
   .exact ZN Z.its
  refine⟨.ref s.heap.objs.size,_,I3,Y,⟨_,x,y,Y,hn,Y,λzs h=>by rw[I.sq_inj h C];exact hx,λzs h=>by rw[I.sq_inj h S];exact hy⟩,?_,λb J=>?_⟩
  .refine ⟨z2,N.extBut _ _ D.TIz A.its,let⟨a,b,e⟩:=A.out;⟨a,b,N.extBut _ _ D.TOz e⟩,A.one.sj.to λo e=>N.extBut _ _ D.i1z e,A.two.sj.to λo e=>N.extBut _ _ D.i2z e⟩
  .rw [Yc (Zc<|n b J)]
   exact(Q b J).1
 done:=by
  intro X hP hw hK hc i G s U H E I Q Z hg;subst hP hw hK;obtain⟨xs,ys,C,S,B⟩:=hg;obtain⟨T,r,t⟩:=I.sq C;obtain⟨R,u,j⟩:=I.sq S;have e1:=r.length;have e2:=u.length;refine QG (I.ok.hd hc) D ⟨Z.zip,Z.its,Z.out,Z.one.si t,Z.two.si j⟩ ?_ λg kp=>⟨Y,?_⟩
  .rcases B with q|q
   .exact .inl (by simp;omega)
   .exact .inr (by simp;omega)
  .refine I.turnedL (t':=s.toks) (ch:=[z,TO,M,L]) (λb o J e=>kp b o (λq=>J<|by simp[q]) (λq=>J<|by simp[q]) (λq=>J<|by simp[q]) (λq=>J<|by simp[q]) e) λb J=>Q b (by
    rcases A4 J with q|q|q|q <;> rw[q] <;> simp)
 self:=λ_ _ _ _ _ Z h=>wpAny_pyIter_zip Z.zip h
def zap(n J Z:Nat)(M:J<n)(L:Z<n):ZipApart (n+4) (n+2) (n+3) n (n+1) J Z:=by
 constructor <;> (intro q;have G:(_:Nat)=_:=q;omega)
def zE(K:W.Frag)(ta:TA):TI:=λU H R=>ta U H λN Z=>∃a b G J M L,N=[.ref a,.ref b]/\Sq K G Z a M/\Sq K J Z b L/\R (Itz K G a J b) Z
def Qv(f:Gl X "zip")(d:X.mg "zip"=none)(w:PA X [a,b] ta)(c:starEach [a,b] X.env=[(false,eval a X.env),(false,eval b X.env)]:=by rfl)(G:starEach [b] X.env=[(false,eval b X.env)]:=by rfl):PI X (.Tuple elts x1 tpos) (.Call (.Name "zip" p) [a,b] [] pos) (zE X.K ta):=by
 intro J s U H R I h;refine Call_ (Wy I f d Fj<|yM (thn (w pos J s U H _ I h) λx Z ⟨n,A,M,j,O⟩=>?_) (by rw[c,G]) (by rw[G];rfl));obtain⟨l1,l2,t1,t2,o,l,e,O,y,q⟩:=O;subst e;obtain⟨u,i,rfl,C,N⟩:=vals2 j;cases C;cases N;obtain⟨F,Q,B⟩:=M.sq O;obtain⟨E,P,T⟩:=M.sq y;have m:=B.lt;have t:=T.lt;refine Lk B T λg S k=>?_;refine wpAny_pyIter_zip (s:={Z with heap:=g}) S.zip ?_;have D:=zap _ _ _ m t;have r:Inv X J U A {Z with heap:=g}:=M.kept (t':=Z.toks) k;refine⟨_,[Z.heap.objs.size+4,Z.heap.objs.size+3,Z.heap.objs.size,Z.heap.objs.size+1,Z.heap.objs.size+2],_,_,A,Y,r,Fy D,S,λb v=>?_,q⟩
 have L:Z.heap.objs.size<=b:=by
  have z:b=Z.heap.objs.size+4\/b=Z.heap.objs.size+3\/b=Z.heap.objs.size\/b=Z.heap.objs.size+1\/b=Z.heap.objs.size+2:=by simpa using v
  rcases z with z|z|z|z|z <;> rw[z] <;> first|exact ZF _|exact v7 _ _
 exact M.fpOk L<|M.hok.fresh L
inductive Dat where
 |non|bl (b:Bool)|int (i:Int)|str (x:Str)|tup (ds:List Dat)|lst (ds:List Dat)
abbrev kP:=List Dat
mutual
def Has(H:Hp):V->Dat->Prop
 |v,.non=>v=.non
 |v,.bl b=>v=.bl b
 |v,.int i=>v=.int i
 |v,.str x=>v=.str x
 |v,.tup ds=>∃a xs,v=.ref a/\H a=some (.tup xs)/\HasL H xs ds
 |v,.lst ds=>∃a xs,v=.ref a/\H a=some (.lst xs)/\HasL H xs ds
def HasL(H:Hp):List V->List Dat->Prop
 |[],[]=>True
 |x::xs,d::ds=>Has H x d/\HasL H xs ds
 |_::_,[]=>False
 |[],_::_=>False
end
mutual
theorem Has.mono{H M:Hp}(e:Same H M):∀(d:Dat){v:V},Has H v d->Has M v d
 |.non,_,h=>by unfold Has at h |-;exact h
 |.bl _,_,h=>by unfold Has at h |-;exact h
 |.int _,_,h=>by unfold Has at h |-;exact h
 |.str _,_,h=>by unfold Has at h |-;exact h
 |.tup ds,_,h=>by
  unfold Has at h |-;obtain⟨a,Z,L,G,J⟩:=h;exact⟨a,Z,L,e _ _ G,HasL.mono e ds J⟩
 |.lst ds,_,h=>by
  unfold Has at h |-;obtain⟨a,Z,L,G,J⟩:=h;exact⟨a,Z,L,e _ _ G,HasL.mono e ds J⟩
theorem HasL.mono{H G:Hp}(e:Same H G):∀(Z:kP){J:kK},HasL H J Z->HasL G J Z
 |[],[],h=>by unfold HasL;trivial
 |[],_::_,h=>by unfold HasL at h;exact h.elim
 |_::_,[],h=>by unfold HasL at h;exact h.elim
 |d::Z,x::J,h=>by
  unfold HasL at h |-;exact⟨Has.mono e d h.1,HasL.mono e Z h.2⟩
end
theorem HasL.length:∀{J:kP}{Z:kK},HasL H Z J->Z.length=J.length
 |[],[],h=>rfl
 |[],_::_,h=>by unfold HasL at h;exact h.elim
 |_::_,[],h=>by unfold HasL at h;exact h.elim
 |d::J,x::Z,h=>by
  unfold HasL at h;rw[Zd,Zd,HasL.length h.2]
theorem HasL.get:∀{J:kP}{Z:kK}{i:Nat}{x:V},HasL H Z J->Z[i]?=some x->∃d,J[i]?=some d/\Has H x d
 |[],[],i,x,h,e=>by simp at e
 |[],_::_,_,_,h,_=>by unfold HasL at h;exact h.elim
 |_::_,[],_,_,h,_=>by unfold HasL at h;exact h.elim
 |d::J,y::Z,0,x,h,e=>by
  unfold HasL at h;have G:some y=some x:=e;cases G;exact⟨d,Y,h.1⟩
 |d::J,y::Z,i+1,x,h,e=>by
  unfold HasL at h;exact HasL.get (i:=i) h.2 e
theorem HasL.append:∀{G J:kP}{Z ys:kK},HasL H Z G->HasL H ys J->HasL H (Z++ ys) (G++ J)
 |[],_,[],_,_,h=>h
 |[],_,_::_,_,h,_=>by unfold HasL at h;exact h.elim
 |_::_,_,[],_,h,_=>by unfold HasL at h;exact h.elim
 |d::G,J,x::Z,ys,h,h'=>by
  unfold HasL at h;show HasL H (x::(Z++ ys)) (d::(G++ J));unfold HasL;exact⟨h.1,HasL.append h.2 h'⟩
abbrev Z5:=@HasL.append
def HasL.one(h:Has H x d):HasL H [x] [d]:=by
 unfold HasL;exact⟨h,by unfold HasL;trivial⟩
abbrev Z3:=@HasL.one
def HasL.nil:HasL H [] []:=by unfold HasL;trivial
abbrev Z4:=@HasL.nil
def HasL.cons(h:Has H x d)(t:HasL H Z J):HasL H (x::Z) (d::J):=by
 unfold HasL;exact⟨h,t⟩
abbrev Z2:=@HasL.cons
mutual
theorem Has.inj{H:Hp}:∀(d Z:Dat){v:V},Has H v d->Has H v Z->d=Z
 |.non,Z,_,h,h'=>by
  unfold Has at h;subst h;cases Z <;> unfold Has at h' <;> first|(obtain⟨_,_,q,_⟩:=h';cases q;done)|rfl|(cases h';done)
 |.bl _,Z,_,h,h'=>by
  unfold Has at h;subst h;cases Z <;> unfold Has at h' <;> first|(obtain⟨_,_,q,_⟩:=h';cases q;done)|(cases h';done)|(cases h';rfl)
 |.int _,Z,_,h,h'=>by
  unfold Has at h;subst h;cases Z <;> unfold Has at h' <;> first|(obtain⟨_,_,q,_⟩:=h';cases q;done)|(cases h';done)|(cases h';rfl)
 |.str _,Z,_,h,h'=>by
  unfold Has at h;subst h;cases Z <;> unfold Has at h' <;> first|(obtain⟨_,_,q,_⟩:=h';cases q;done)|(cases h';done)|(cases h';rfl)
 |.tup ds,Z,_,h,h'=>by
  unfold Has at h;obtain⟨a,B,T,L,R⟩:=h;subst T
  cases Z with
  |tup M=>
   unfold Has at h';obtain⟨b,O,G,J,N⟩:=h';cases G;rw[L]at J;cases J;rw[HasL.inj ds M R N]
  |lst M=>
   unfold Has at h';obtain⟨b,O,G,J,N⟩:=h';cases G;rw[L]at J;cases J
  |_=>unfold Has at h';cases h'
 |.lst ds,Z,_,h,h'=>by
  unfold Has at h;obtain⟨a,B,T,L,R⟩:=h;subst T
  cases Z with
  |lst M=>
   unfold Has at h';obtain⟨b,O,G,J,N⟩:=h';cases G;rw[L]at J;cases J;rw[HasL.inj ds M R N]
  |tup M=>
   unfold Has at h';obtain⟨b,O,G,J,N⟩:=h';cases G;rw[L]at J;cases J
  |_=>unfold Has at h';cases h'
theorem HasL.inj{H:Hp}:∀(G J:kP){Z:kK},HasL H Z G->HasL H Z J->G=J
 |[],[],_,_,_=>rfl
 |[],_::_,Z,h,h'=>by
  cases Z <;> unfold HasL at h h'
  .exact h'.elim
  .exact h.elim
 |_::_,[],Z,h,h'=>by
  cases Z <;> unfold HasL at h h'
  .exact h.elim
  .exact h'.elim
 |d::G,e::J,Z,h,h'=>by
  cases Z with
  |nil=>unfold HasL at h;exact h.elim
  |cons x Z=>
   unfold HasL at h h';rw[Has.inj d e h.1 h'.1,HasL.inj G J h.2 h'.2]
end
theorem LJ{K:W.Frag}:∀{d:Dat},Has H v d->Xc K H v (.type<|match d with|.non=>"NoneType"|.bl _=>"bool"|.int _=>"int"|.str _=>"str"|.tup _=>"tuple"|.lst _=>"list")
 |.non,h=>by unfold Has at h;subst h;exact .non
 |.bl _,h=>by unfold Has at h;subst h;exact .bl _
 |.int _,h=>by unfold Has at h;subst h;exact .int _
 |.str _,h=>by unfold Has at h;subst h;exact .str _
 |.tup _,h=>by unfold Has at h;obtain⟨a,Z,rfl,e,_⟩:=h;exact .tup e
 |.lst _,h=>by unfold Has at h;obtain⟨a,Z,rfl,e,_⟩:=h;exact .lst e
end L2
namespace L2
open PySem
def UZ{K:PySem.W.Frag}{a:Addr}{xs:kK}{g:TG}{L:TS}{D:Ends}{U:St}{H:Hp}(Z:kL)(S:Z 0 U H)(A:∀i U H,i<=xs.length->Z i U H->SqL K H a xs)(F:∀(B:kM)(R:VK) i x U H,xs[i]?=some x->Z i U H->g x U H fun σ2 G=>L {nx:=Z<|i+1,rt:=R,bk:=B,ct:=Z (i+1)} σ2 G)(I:∀U H,Z xs.length U H->D.nx U H):
  ∃W:Nat->Nat->St->Hp->Prop,(∃m,W 0 m U H)/\∀i m U H,W i m U H->
   ((Itl K a).stop i H/\D.nx U H)\/((Itl K a).go i H/\∃N:kM,(∀O J,N O J->∃M,M<m/\W (i+1) M O J)/\∀x J,(Itl K a).yld i H x J->g x U J fun σ2 G=>L {D with nx:=N,ct:=N,bk:=D.nx} σ2 G):=
 LT Z S A (λi x U H E p=>F _ _ i x U H E p) I
def RC{K:PySem.W.Frag}{a:Addr}{xs:kK}{g:TG}{L:TS}{D:Ends}{U:St}{H:Hp}(Z:kL)(S:Z 0 U H)(A:∀i U H,i<=xs.length->Z i U H->SqT K H a xs)(F:∀(B:kM)(R:VK) i x U H,xs[i]?=some x->Z i U H->g x U H fun σ2 G=>L {nx:=Z<|i+1,rt:=R,bk:=B,ct:=Z (i+1)} σ2 G)(I:∀U H,Z xs.length U H->D.nx U H):
  ∃W:Nat->Nat->St->Hp->Prop,(∃m,W 0 m U H)/\∀i m U H,W i m U H->
   ((Itt K a).stop i H/\D.nx U H)\/((Itt K a).go i H/\∃N:kM,(∀O J,N O J->∃M,M<m/\W (i+1) M O J)/\∀x J,(Itt K a).yld i H x J->g x U J fun σ2 G=>L {D with nx:=N,ct:=N,bk:=D.nx} σ2 G):=
 PV Z S A (λi x U H E p=>F _ _ i x U H E p) I
def LV{G:Int}{n:Nat}{g:TG}{M:TS}{D:Ends}{U:St}{H:Hp}(Z:kL)(S:Z 0 U H)(F:∀(B:kM)(R:VK) i U H,i<n->Z i U H->g (.int<|G+i) U H fun σ2 L=>M {nx:=Z<|i+1,rt:=R,bk:=B,ct:=Z (i+1)} σ2 L)(I:∀U H,Z n U H->D.nx U H):
  ∃W:Nat->Nat->St->Hp->Prop,(∃m,W 0 m U H)/\∀i m U H,W i m U H->
   ((Itr G n).stop i H/\D.nx U H)\/((Itr G n).go i H/\∃N:kM,(∀T J,N T J->∃O,O<m/\W (i+1) O T J)/\∀x J,(Itr G n).yld i H x J->g x U J fun σ2 L=>M {D with nx:=N,ct:=N,bk:=D.nx} σ2 L):=
 Rh Z S (λi U H A p=>F _ _ i U H A p) I
def Ym.none{P:Program}{w:World}{K:W.Frag}{M:Str->Option Value}{base:Heap}{O:CXT}{k:Nat}{f:Addr}{N:FuncData}{L:ky}{G:Sp}(h:∀Z H Q E,G Z H Q E->False):Ym P w K M base O k f N L G:=
 ⟨λZ H Q E q=>(h _ _ _ _ q).elim,λA J s H args R Z Q E _ _ _ _ q=>(h _ _ _ _ q).elim⟩
def Y6{N P:ky}{Z:Scope}(h:Z.kind=.function/\Z.isCoroutine=false/\Z.isGenerator=false/\N.Nodup/\N.take P.length=P/\(∀x∈P,Z.names.lookup x=some .local\/Z.names.lookup x=some .cell)/\∀y∈Z.names,y.2≠.free:=by decide +kernel):Yq N P Z:=
 ⟨h.1,h.2.1,h.2.2.1,h.2.2.2.1,h.2.2.2.2.1,h.2.2.2.2.2.1,h.2.2.2.2.2.2⟩
end L2
namespace K4
open PySem L2
def top(i:Nat):Stmt:=PySem.Challenge.pw_wantway_k80_no_sheets.main.body.getD i<|.Pass ⟨0,0,0,0⟩
abbrev Bk:Stmt:=top 16
abbrev sKP:Stmt:=top 18
abbrev Im:Stmt:=top 19
abbrev Bq:Stmt:=top 20
abbrev Bp:Stmt:=top 21
abbrev Io:Stmt:=top 22
abbrev MV:Stmt:=top 23
abbrev Bo:Stmt:=top 24
abbrev TX:Stmt:=top 25
abbrev Iq:Stmt:=top 26
abbrev Ip:Stmt:=top 27
abbrev MY:Stmt:=top 33
abbrev Br:Stmt:=top 34
abbrev Bj:Stmt:=top 35
abbrev Uh:Stmt:=top 47
abbrev Ir:Stmt:=inClass Uh 0
abbrev Bn:Stmt:=inClass Uh 1
abbrev Il:Stmt:=inClass Uh 2
abbrev Bl:Stmt:=inClass Uh 3
abbrev Bm:Stmt:=inClass Uh 4
abbrev Wn:Stmt:=inClass Uh 5
abbrev TU:Stmt:=inClass Uh 7
abbrev MW:Stmt:=inClass Uh 9
abbrev TV:Stmt:=inClass Uh 10
abbrev Wa:Stmt:=top 54
abbrev Bw:Stmt:=inClass Wa 0
abbrev Bt:Stmt:=inClass Wa 1
abbrev Bx:Stmt:=inClass Wa 2
abbrev Mb:Stmt:=inClass Wa 3
abbrev Ma:Stmt:=inClass Wa 4
abbrev MZ:Stmt:=inClass Wa 5
abbrev Bu:Stmt:=inClass Wa 6
abbrev Bv:Stmt:=inClass Wa 7
abbrev Bs:Stmt:=inClass Wa 10
abbrev By:Stmt:=top 57
abbrev Wp:Stmt:=top 58
abbrev Wo:Stmt:=top 60
abbrev MS:Stmt:=top 48
abbrev K7:Stmt:=top 102
abbrev K3:Stmt:=top 103
abbrev DZ:Stmt:=top 104
abbrev Mn:Stmt:=top 105
abbrev De:Stmt:=top 106
abbrev K6:Stmt:=top 107
abbrev Mm:Stmt:=top 108
abbrev Dg:Stmt:=top 109
abbrev EO:Stmt:=top 110
abbrev K8:Stmt:=top 111
abbrev K5:Stmt:=top 113
abbrev To:Stmt:=top 120
abbrev Da:Stmt:=top 122
abbrev Dc:Stmt:=top 125
abbrev XG:Stmt:=top 90
abbrev MX:Stmt:=top 91
abbrev XF:Stmt:=top 92
abbrev Wq:Stmt:=top 93
abbrev MU:Stmt:=top 98
abbrev UV:Stmt:=top 99
abbrev Dh:Stmt:=top 112
abbrev Wz:Stmt:=top 114
abbrev Tq:Stmt:=top 115
abbrev Tr:Stmt:=top 116
abbrev W0:Stmt:=top 117
abbrev K1:Stmt:=top 118
abbrev Mo:Stmt:=top 119
abbrev Mp:Stmt:=top 121
abbrev Di:Stmt:=top 123
abbrev K2:Stmt:=top 124
abbrev Lm:Stmt:=top 96
abbrev MQ:Stmt:=inClass Lm 0
abbrev MR:Stmt:=inClass Lm 1
abbrev MT:Stmt:=inClass (top 14) 0
abbrev TY:Stmt:=inClass Uh 11
end K4
namespace L2
open PySem PySem.Spec PyProof.Rows
def XQ(K:W.Frag)(T:String):W.kitOne K (.type T) (.type T)=some true:=by
 unfold W.kitOne;rw[Zn (by simp)]
def SV{K:W.Frag}:∀{a b:String},(a,b)∈ [("NoneType","bool"),("NoneType","str"),("NoneType","int"),("NoneType","tuple"),("NoneType","list"),("int","bool"),("int","str"),("int","tuple"),("int","list"),("str","bool"),("str","int"),("str","tuple"),("str","list"),("bool","str"),("bool","tuple"),("bool","list"),("tuple","bool"),("tuple","str"),("tuple","int"),("tuple","list"),("list","bool"),("list","str"),("list","int"),("list","tuple")]->W.kitOne K (.type a) (.type b)=some false:=by
 intro a b h;simp only[Zb,Prod.mk.injEq,yn,or_false]at h;rcases h with⟨rfl,rfl⟩|⟨rfl,rfl⟩|⟨rfl,rfl⟩|⟨rfl,rfl⟩|⟨rfl,rfl⟩|⟨rfl,rfl⟩|⟨rfl,rfl⟩|⟨rfl,rfl⟩|⟨rfl,rfl⟩|⟨rfl,rfl⟩|⟨rfl,rfl⟩|⟨rfl,rfl⟩|⟨rfl,rfl⟩|⟨rfl,rfl⟩|⟨rfl,rfl⟩|⟨rfl,rfl⟩|⟨rfl,rfl⟩|⟨rfl,rfl⟩|⟨rfl,rfl⟩|⟨rfl,rfl⟩|⟨rfl,rfl⟩|⟨rfl,rfl⟩|⟨rfl,rfl⟩|⟨rfl,rfl⟩ <;> kernel_rfl
def JR:bootBuiltins "tuple"=some (.type "tuple"):=by decide +kernel
def Vo:bootBuiltins "list"=some (.type "list"):=by decide +kernel
def GD:bootBuiltins "str"=some (.type "str"):=by decide +kernel
def Fm:bootBuiltins "int"=some (.type "int"):=by decide +kernel
def Dw:bootBuiltins "bool"=some (.type "bool"):=by decide +kernel
def WB:bootBuiltins "dict"=some (.type "dict"):=by decide +kernel
def Us:bootBuiltins "isinstance"=some (.builtin "isinstance"):=by decide +kernel
def Rl:bootBuiltins "all"=some (.builtin "all"):=by decide +kernel
def Xs:bootBuiltins "max"=some (.builtin "max"):=by decide +kernel
def Wu(R:Gl X "isinstance")(O:X.mg "isinstance"=none)(J:Gl X x)(Z:X.mg x=none)(M:bootBuiltins x=some (.type T))(he:PE X e te)(N:x≠"__name__":=by decide)(G:(x==("__debug__":Str))=false:=by decide)(L:starEach [e,.Name x p'] X.env=(false,eval e X.env)::starEach [.Name x p'] X.env:=by rfl):
  PE X (.Call (.Name "isinstance" p) [e,.Name x p'] [] pos) (tCB (AU X.K)<|Vj te<|Vj (tC<|.ty T) Xu):=
 Yt Ll R O Us (pa2 he (EK J Z M rfl N G) L) (he:=L)
def tyD:Dat->String
 |.non=>"NoneType"|.bl _=>"bool"|.int _=>"int"|.str _=>"str"|.tup _=>"tuple"|.lst _=>"list"
def Si{K:W.Frag}(h:Has H v d):Xc K H v (.type<|tyD d):=by
 have q:=LJ (K:=K) h;cases d <;> exact q
end L2
namespace L2
open PySem
mutual
def Dat.dep:Dat->Nat
 |.tup ds=>1+Dat.deps ds
 |.lst ds=>1+Dat.deps ds
 |_=>0
def Dat.deps:List Dat->Nat
 |[]=>0
 |d::ds=>max d.dep<|Dat.deps ds
end
theorem Dat.deps_get:∀{ds:kP}{i:Nat}{d:Dat},ds[i]?=some d->d.dep<=Dat.deps ds
 |[],i,d,e=>by simp at e
 |a::ds,0,d,e=>by
  have Z:some a=some d:=e;cases Z;unfold Dat.deps;exact yA _ _
 |a::ds,i+1,d,e=>by
  have q:=Dat.deps_get (ds:=ds) (i:=i) e;unfold Dat.deps;exact ZZ q<|yr _ _
mutual
def Dat.wid:Dat->Nat
 |.tup ds=>max ds.length<|Dat.wids ds
 |.lst ds=>max ds.length<|Dat.wids ds
 |_=>0
def Dat.wids:List Dat->Nat
 |[]=>0
 |d::ds=>max d.wid<|Dat.wids ds
end
def VH{c A B:Prop}[Decidable c](Z:c)(h:A):if c then A else B:=by
 rw[Zn Z];exact h
def Y0{c A B:Prop}[Decidable c](Z:¬c)(h:B):if c then A else B:=by
 rw[Zo Z];exact h
def Vu(n:Nat)(U:n<sizeLine)(G:Nat->List V->Hp->Prop)(I:G 0 [] H)(M:∀i Z H,G i Z H->Z.length=i)(O:∀i Z H,i<n->G i Z H->J.go i H)(L:∀Z H,G n Z H->J.stop n H)(E:∀i Z H x N (R:V->Hp->Prop),i<n->G i Z H->J.yld i H x N->(∀v T,G (i+1) (Z++[v]) T->R v T)->g x s0 N λB S=>te B S R)(F:∀Z H p,G n Z H->H p=none->Q (.ref p) (upd H p<|.lst Z)):
  RI J g te s0 Q H:=by
 refine⟨λi m Z H=>m=n-i/\i<=n/\G i Z H,⟨n,by simp,Za _,I⟩,?_⟩;rintro i m Z H ⟨rfl,X,p⟩;have C:=M i Z H p;exists by omega
 by_cases hlt:i<n
 .exact .inr ⟨O i Z H hlt p,λx N y=>E i Z H x N _ hlt p y λv T D=>⟨n-(i+1),by omega,rfl,hlt,D⟩⟩
 .have e:i=n:=by omega
  subst e;exact .inl ⟨L Z H p,λa A=>F Z H a p A⟩
def Ye(h:H p=none)(o:HO):Same H (upd H p o):=λb u q=>by rw[Yc (Yk q h)];exact q
@[elab_as_elim] theorem up_in {motive:Hp->Prop}(h:H l=none) (o:HO) (k:∀H',Same H H'->H' l=some o->motive H'):motive (upd H l o):=k _ (Ye h o) YZ
structure Blt(mg:Str->Option Value):Prop where
 len:mg "len"=none
 isi:mg "isinstance"=none
 bool:mg "bool"=none
 str:mg "str"=none
 int:mg "int"=none
 tuple:mg "tuple"=none
 list:mg "list"=none
 dict:mg "dict"=none
 all:mg "all"=none
 zip:mg "zip"=none
 max:mg "max"=none
 range:mg "range"=none
 sorted:mg "sorted"=none
end L2
namespace K4
open PySem L2
section
def WA:GK 2 (PU K 2<|U9 (Vi 0)<|U9 (Vi 1) Nw):=
 Sk (Eb (VP (i:=0)<|by decide) (Eb (VP (i:=1)<|by decide) Sl (λ_ _ _ _ _ h z=>h _ _ z) (λx _ _ _ _ h z=>by
  match x,z with
  |[],z=>exact h _ _ z)) (λ_ _ _ _ _ h z=>h _ _ z) (λx _ _ _ _ h z=>by
  match x,z with
  |[v],z=>exact h _ _ z))
end
end K4
namespace L2
open PySem
inductive W where
 |non|tag (x:Str)|pair (a b:W)
def W.dat:W->Dat
 |.non=>.non
 |.tag x=>.str x
 |.pair a b=>.tup [a.dat,b.dat]
def LK(h:Has H v (W.pair a b).dat):∃p x y,v=.ref p/\H p=some (.tup [x,y])/\Has H x a.dat/\Has H y b.dat:=by
 unfold W.dat Has at h;obtain⟨p,L,rfl,M,Z⟩:=h
 match L,Z with
 |[x,y],Z=>
  unfold HasL at Z;obtain⟨N,J⟩:=Z;unfold HasL at J;exact⟨p,x,y,Y,M,N,J.1⟩
 |[],Z=>unfold HasL at Z;exact Z.elim
 |[x],Z=>unfold HasL at Z;obtain⟨_,J⟩:=Z;unfold HasL at J;exact J.elim
 |_::_::_::_,Z=>
  unfold HasL at Z;obtain⟨_,J⟩:=Z;unfold HasL at J;obtain⟨_,G⟩:=J;unfold HasL at G;exact G.elim
def EY:Has H .non W.non.dat:=by unfold W.dat Has;rfl
def W.dep:W->Nat
 |.non=>0
 |.tag _=>0
 |.pair a b=>1+max a.dep b.dep
def Vr(h:Has H v (.lst J)):∃a Z,v=.ref a/\H a=some (.lst Z)/\HasL H Z J:=by unfold Has at h;exact h
def VB(h:H a=some (.lst Z))(t:HasL H Z J):Has H (.ref a) (.lst J):=by unfold Has;exact⟨a,Z,Y,h,t⟩
def But(p:Addr)(H H':Hp):Prop:=∀b,b≠p->H' b=H b
def But.refl(p:Addr)(H:Hp):But p H H:=λ_ _=>rfl
def But.trans(a:But p H J)(b:But p J Z):But p H Z:=λc h=>(b c h).trans<|a c h
def But.upd{p:Addr}{H:Hp}(o:HO):But p H (upd H p o):=λ_ h=>Yc h
end L2
namespace K4
open PySem L2
end K4
namespace L2
open PySem
def alpha(o:Nat):Str:=⟨((List.range 26).map (o + ·)).toArray⟩
def one(c:Nat):Str:=⟨#[c]⟩
def txt(cs:List Nat):Str:=⟨cs.toArray⟩
def Rq(o:Nat):(alpha o).length=26:=by show((List.range 26).map (o + ·)).toArray.size=26;simp
def Ls(o:Nat)(j:Int)(J:0<=j)(Z:j<26):atI (alpha o).cps.toList j=some (o+j.toNat):=by
 obtain⟨n,rfl⟩:∃n:Nat,j=n:=⟨j.toNat,by omega⟩;refine Ya ?_;show(((List.range 26).map (o + ·)).toArray.toList)[n]?=_;rw[List.toList_toArray,ZG,vJ (by omega)]
 rfl
def D6(a b:List Nat):txt a++ txt b=txt (a++ b):=by
 show(⟨a.toArray++ b.toArray⟩:Str)=⟨(a++ b).toArray⟩;simp
def L5(h:txt a=txt b):a=b:=by
 have q:a.toArray=b.toArray:=congrArg Str.cps h;simpa using q
def Xd(a:List Nat):(txt a).length=a.length:=by show a.toArray.size=a.length;simp
structure Wds(o:Nat)(ys:List Str):Prop where
 nd:ys.Nodup
 len:∀y∈ys,1<=y.length/\y.length<=8
 abc:∀y∈ys,∀c∈y.cps.toList,o<=c/\c<o+26
def SameB(p:Addr)(H H':Hp):Prop:=∀b o,b≠p->H b=some o->H' b=some o
def SameB.refl(p:Addr)(H:Hp):SameB p H H:=λ_ _ _ h=>h
def SameB.trans(a:SameB p H J)(b:SameB p J Z):SameB p H Z:=λc o n h=>b c o n<|a c o n h
def But.sb(a:But p H Z):SameB p H Z:=λb o n h=>(a b n).trans h
def Same.sb(a:Same H Z):SameB p H Z:=λb o _ h=>a b o h
def SameB.free(a:SameB p H Z)(n:r≠p)(h:Z r=none):H r=none:=by
 cases e:H r with
 |none=>rfl
 |some o=>rw[a r o n e]at h;cases h
def SameB.put(a:SameB p H Z)(h:H r=none):SameB p H (upd Z r o):=λb u n e=>by
 rw[Yc (Yk e h)];exact a b u n e
def NR(a b:Str):(a++ b).length=a.length+b.length:=by
 show(a.cps++ b.cps).size=a.cps.size+b.cps.size;simp
end L2
namespace K4
open PySem L2
end K4
namespace L2
open PySem PySem.Spec PyProof.Rows SeqAt
mutual
def Dat.pq:Dat->Dat->Bool
 |.non,.non=>true
 |.bl a,.bl b=>a==b
 |.bl a,.int b=>(if a then 1 else 0)==b
 |.int a,.bl b=>a==(if b then 1 else 0)
 |.int a,.int b=>a==b
 |.str a,.str b=>a==b
 |.tup a,.tup b=>Dat.pqs a b
 |.lst a,.lst b=>Dat.pqs a b
 |_,_=>false
def Dat.pqs:List Dat->List Dat->Bool
 |[],[]=>true
 |a::as,b::bs=>Dat.pq a b && Dat.pqs as bs
 |_,_=>false
end
mutual
theorem Dat.pq_self:∀a:Dat,a.pq a=true
 |.non=>by unfold Dat.pq;rfl
 |.bl b=>by unfold Dat.pq;exact beq_self_eq_true b
 |.int i=>by unfold Dat.pq;exact beq_self_eq_true i
 |.str x=>by unfold Dat.pq;exact beq_self_eq_true x
 |.tup ds=>by unfold Dat.pq;exact Dat.pqs_self ds
 |.lst ds=>by unfold Dat.pq;exact Dat.pqs_self ds
theorem Dat.pqs_self:∀a:kP,Dat.pqs a a=true
 |[]=>by unfold Dat.pqs;rfl
 |a::as=>by unfold Dat.pqs;rw[Dat.pq_self a,Dat.pqs_self as];rfl
end
theorem Gq:∀(J Z:kP),((List.range<|min J.length Z.length).all (λi=>((J[i]?).getD .non).pq<|(Z[i]?).getD .non) && J.length==Z.length)=Dat.pqs J Z
 |[],[]=>by unfold Dat.pqs;rfl
 |[],_::_=>by unfold Dat.pqs;simp
 |_::_,[]=>by unfold Dat.pqs;simp
 |a::J,b::Z=>by
  have ih:=Gq J Z;have e:min (a::J).length (b::Z).length=min J.length Z.length+1:=by simp only[Zd];omega
  rw[e,List.range_succ_eq_map,jm,jy];unfold Dat.pqs;rw[<-ih];have G:((a::J).length==(b::Z).length)=(J.length==Z.length):=by simp
  rw[G,Bool.and_assoc]
  rfl
def OX(h:Z.length=J.length):(List.range Z.length).all (λi=>((Z[i]?).getD .non).pq<|(J[i]?).getD .non)=Dat.pqs Z J:=by
 rw[<-Gq Z J,h];simp
def Qu(h:J.length≠Z.length):Dat.pqs J Z=false:=by
 rw[<-Gq J Z];simp[h]
def Ut{s:Shared}(G:HOk P w H s.heap)(h:H a=some (.tup J)):∃Z:kq,Vals J Z/\s.heap.IsTuple a Z.toArray:=by
 obtain⟨_,Z,r,p⟩:=(show VN P w H s.heap a (.tup J)from G a _ h);exact⟨Z,r,p.is⟩
def Uy{s:Shared}(G:HOk P w H s.heap)(h:H a=some (.lst J)):∃Z:kq,Vals J Z/\s.heap.IsList a Z.toArray:=by
 obtain⟨_,Z,n,r,p⟩:=(show VN P w H s.heap a (.lst J)from G a _ h);exact⟨Z,r,_,p,Y,n,Y⟩
structure Cmp(A:Around)(s:Shared)(u v:Value)(b:Bool):Prop where
 eq:EqAt A s u v b
 rc:RcAt A s u v b
 ne:RcNeAt A s u v (!b)
def Ej{A:Around}{E Q:kP}{G ys:kK}{J Z:kq}(ih:∀(F q:Dat){x y:V}{u v:Value},F.dep<=m->Has H x F->Has H y q->RelV x u->RelV y v->EqAt A s u v (F.pq q))(b:Dat.deps E<=m)(O:HasL H G E)(N:HasL H ys Q)(r:Vals G J)(I:Vals ys Z):∀j (P:j<J.toArray.size) (X:j<Z.toArray.size),EqAt A s J.toArray[j] Z.toArray[j] ((λi=>((E[i]?).getD .non).pq<|(Q[i]?).getD .non) j):=by
 intro j P X;have l:=r.length;have w:=I.length;rw[ZM]at P X;have U:j<G.length:=by omega
 have S:j<ys.length:=by omega
 obtain⟨d,C,c⟩:=O.get<|ZC U;obtain⟨f,D,B⟩:=N.get<|ZC S;obtain⟨g,T,M⟩:=r.get<|ZC U;obtain⟨t,R,L⟩:=I.get<|ZC S;have p:J.toArray[j]=g:=by have z:=(ZE.mp T).2;simpa using z
 have k:Z.toArray[j]=t:=by have z:=(ZE.mp R).2;simpa using z
 dsimp only;rw[p,k,C,D];have e:=Dat.deps_get C;exact ih d f (by omega) c B M L
def N7(U:HOk P w H s.heap)(n:Nat)(ih:∀m,n=m+1->∀(C S:Dat)(A:Around){x y:V}{u v:Value},C.dep<=m->Has H x C->Has H y S->RelV x u->RelV y v->VW (m+1) A->Cmp A s u v (C.pq S))(C S:Dat)(A:Around){x y:V}{u v:Value}(hn:C.dep<=n)(B:Has H x C)(Z:Has H y S)(j:RelV x u)(L:RelV y v)(i:VW (n+1) A):Cmp A s u v (C.pq S):=by
 have G:=i.units0
 cases C with
 |non=>
  unfold Has at B;subst B;cases j
  cases S with
  |non=>unfold Has at Z;subst Z;cases L;unfold Dat.pq;exact⟨.same _,.none_none,.none_none⟩
  |bl b=>unfold Has at Z;subst Z;cases L;unfold Dat.pq;exact⟨.none_bool _,.none_bool _,.none_bool _⟩
  |int b=>unfold Has at Z;subst Z;obtain⟨Q,rfl⟩:=L;unfold Dat.pq;exact⟨.none_int _ _,.none_int _ _,.none_int _ _⟩
  |str b=>unfold Has at Z;subst Z;obtain⟨Q,rfl⟩:=L;unfold Dat.pq;exact⟨.none_str _ _,.none_str _ _,.none_str _ _⟩
  |tup O=>unfold Has at Z;obtain⟨p,X,rfl,R,_⟩:=Z;cases L;obtain⟨N,r,J⟩:=Ut U R;unfold Dat.pq;exact⟨.none_tuple J G,.none_tuple J G,.none_tuple J G⟩
  |lst O=>unfold Has at Z;obtain⟨p,X,rfl,R,_⟩:=Z;cases L;obtain⟨N,r,J⟩:=Uy U R;unfold Dat.pq;exact⟨.none_list J G,.none_list J G,.none_list J G⟩
 |bl a=>
  unfold Has at B;subst B;cases j
  cases S with
  |non=>unfold Has at Z;subst Z;cases L;unfold Dat.pq;exact⟨.bool_none _,.bool_none _,.bool_none _⟩
  |bl b=>unfold Has at Z;subst Z;cases L;unfold Dat.pq;exact⟨.bool_bool _ _,.bool_bool _ _,.bool_bool _ _⟩
  |int b=>unfold Has at Z;subst Z;obtain⟨Q,rfl⟩:=L;unfold Dat.pq;exact⟨.bool_int _ _ _,.bool_int _ _ _,.bool_int _ _ _⟩
  |str b=>unfold Has at Z;subst Z;obtain⟨Q,rfl⟩:=L;unfold Dat.pq;exact⟨.bool_str _ _ _,.bool_str _ _ _,.bool_str _ _ _⟩
  |tup O=>unfold Has at Z;obtain⟨p,X,rfl,R,_⟩:=Z;cases L;obtain⟨N,r,J⟩:=Ut U R;unfold Dat.pq;exact⟨.bool_tuple _ J G,.bool_tuple _ J G,.bool_tuple _ J G⟩
  |lst O=>unfold Has at Z;obtain⟨p,X,rfl,R,_⟩:=Z;cases L;obtain⟨N,r,J⟩:=Uy U R;unfold Dat.pq;exact⟨.bool_list _ J G,.bool_list _ J G,.bool_list _ J G⟩
 |int a=>
  unfold Has at B;subst B;obtain⟨t,rfl⟩:=j
  cases S with
  |non=>unfold Has at Z;subst Z;cases L;unfold Dat.pq;exact⟨.int_none _ _,.int_none _ _,.int_none _ _⟩
  |bl b=>unfold Has at Z;subst Z;cases L;unfold Dat.pq;exact⟨.int_bool _ _ _,.int_bool _ _ _,.int_bool _ _ _⟩
  |int b=>unfold Has at Z;subst Z;obtain⟨Q,rfl⟩:=L;unfold Dat.pq;exact⟨.int_int _ _ _ _,.int_int _ _ _ _,.int_int _ _ _ _⟩
  |str b=>unfold Has at Z;subst Z;obtain⟨Q,rfl⟩:=L;unfold Dat.pq;exact⟨.int_str _ _ _ _,.int_str _ _ _ _,.int_str _ _ _ _⟩
  |tup O=>unfold Has at Z;obtain⟨p,X,rfl,R,_⟩:=Z;cases L;obtain⟨N,r,J⟩:=Ut U R;unfold Dat.pq;exact⟨.int_tuple _ _ J G,.int_tuple _ _ J G,.int_tuple _ _ J G⟩
  |lst O=>unfold Has at Z;obtain⟨p,X,rfl,R,_⟩:=Z;cases L;obtain⟨N,r,J⟩:=Uy U R;unfold Dat.pq;exact⟨.int_list _ _ J G,.int_list _ _ J G,.int_list _ _ J G⟩
 |str a=>
  unfold Has at B;subst B;obtain⟨t,rfl⟩:=j
  cases S with
  |non=>unfold Has at Z;subst Z;cases L;unfold Dat.pq;exact⟨.str_none _ _,.str_none _ _,.str_none _ _⟩
  |bl b=>unfold Has at Z;subst Z;cases L;unfold Dat.pq;exact⟨.str_bool _ _ _,.str_bool _ _ _,.str_bool _ _ _⟩
  |int b=>unfold Has at Z;subst Z;obtain⟨Q,rfl⟩:=L;unfold Dat.pq;exact⟨.str_int _ _ _ _,.str_int _ _ _ _,.str_int _ _ _ _⟩
  |str b=>unfold Has at Z;subst Z;obtain⟨Q,rfl⟩:=L;unfold Dat.pq;exact⟨.str_str _ _ _ _,.str_str _ _ _ _,.str_str _ _ _ _⟩
  |tup O=>unfold Has at Z;obtain⟨p,X,rfl,R,_⟩:=Z;cases L;obtain⟨N,r,J⟩:=Ut U R;unfold Dat.pq;exact⟨.str_tuple _ _ J G,.str_tuple _ _ J G,.str_tuple _ _ J G⟩
  |lst O=>unfold Has at Z;obtain⟨p,X,rfl,R,_⟩:=Z;cases L;obtain⟨N,r,J⟩:=Uy U R;unfold Dat.pq;exact⟨.str_list _ _ J G,.str_list _ _ J G,.str_list _ _ J G⟩
 |tup D=>
  unfold Has at B;obtain⟨p,xs,rfl,R,F⟩:=B;cases j;obtain⟨N,r,J⟩:=Ut U R
  cases S with
  |non=>unfold Has at Z;subst Z;cases L;unfold Dat.pq;exact⟨.tuple_none J G,.tuple_none J G,.tuple_none J G⟩
  |bl b=>unfold Has at Z;subst Z;cases L;unfold Dat.pq;exact⟨.tuple_bool _ J G,.tuple_bool _ J G,.tuple_bool _ J G⟩
  |int b=>unfold Has at Z;subst Z;obtain⟨Q,rfl⟩:=L;unfold Dat.pq;exact⟨.tuple_int _ _ J G,.tuple_int _ _ J G,.tuple_int _ _ J G⟩
  |str b=>unfold Has at Z;subst Z;obtain⟨Q,rfl⟩:=L;unfold Dat.pq;exact⟨.tuple_str _ _ J G,.tuple_str _ _ J G,.tuple_str _ _ J G⟩
  |lst O=>unfold Has at Z;obtain⟨q,X,rfl,h,_⟩:=Z;cases L;obtain⟨T,g,M⟩:=Uy U h;unfold Dat.pq;exact⟨.tuple_list J M G,.tuple_list J M G,.tuple_list J M G⟩
  |tup O=>
   unfold Has at Z;obtain⟨c,X,rfl,I,E⟩:=Z;cases L;obtain⟨T,g,M⟩:=Ut U I;have l1:=F.length;have l2:=E.length;have l3:=r.length;have l4:=g.length;have dd:Dat.deps D+1<=n:=by unfold Dat.dep at hn;omega
   obtain⟨m,rfl⟩:∃m,n=m+1:=⟨n-1,by omega⟩;have d:=Ej (A:=A.in1) (λC S {x y u v} z B Z j L=>(ih m rfl C S A.in1 z B Z j L i.in1).eq) (show Dat.deps D<=m by omega) F E r g;have f:N.toArray.size=D.length:=by rw[ZM];omega
   have o:T.toArray.size=O.length:=by rw[ZM];omega
   have q:=RcAt.tuples (A:=A) J M G d;have k:=RcNeAt.tuples (A:=A) J M G d;rw[f,o,Gq]at q k;have e0:(Dat.tup D).pq (Dat.tup O)=Dat.pqs D O:=by conv=>lhs;unfold Dat.pq
   rw[e0];refine⟨?_,q,k⟩
   by_cases e:p=c
   .subst e
    rw[R]at I;cases I;rw[HasL.inj D O F E,Dat.pqs_self];exact EqAt.same _
   .exact EqAt.of_refs e q
 |lst D=>
  unfold Has at B;obtain⟨p,xs,rfl,R,F⟩:=B;cases j;obtain⟨N,r,J⟩:=Uy U R
  cases S with
  |non=>unfold Has at Z;subst Z;cases L;unfold Dat.pq;exact⟨.list_none J G,.list_none J G,.list_none J G⟩
  |bl b=>unfold Has at Z;subst Z;cases L;unfold Dat.pq;exact⟨.list_bool _ J G,.list_bool _ J G,.list_bool _ J G⟩
  |int b=>unfold Has at Z;subst Z;obtain⟨Q,rfl⟩:=L;unfold Dat.pq;exact⟨.list_int _ _ J G,.list_int _ _ J G,.list_int _ _ J G⟩
  |str b=>unfold Has at Z;subst Z;obtain⟨Q,rfl⟩:=L;unfold Dat.pq;exact⟨.list_str _ _ J G,.list_str _ _ J G,.list_str _ _ J G⟩
  |tup O=>unfold Has at Z;obtain⟨q,X,rfl,h,_⟩:=Z;cases L;obtain⟨T,g,M⟩:=Ut U h;unfold Dat.pq;exact⟨.list_tuple J M G,.list_tuple J M G,.list_tuple J M G⟩
  |lst O=>
   unfold Has at Z;obtain⟨c,X,rfl,I,E⟩:=Z;cases L;obtain⟨T,g,M⟩:=Uy U I;have l1:=F.length;have l2:=E.length;have l3:=r.length;have l4:=g.length;have dd:Dat.deps D+1<=n:=by unfold Dat.dep at hn;omega
   obtain⟨m,rfl⟩:∃m,n=m+1:=⟨n-1,by omega⟩;have d:=Ej (A:=A.in1) (λC S {x y u v} z B Z j L=>(ih m rfl C S A.in1 z B Z j L i.in1).eq) (show Dat.deps D<=m by omega) F E r g;have f:N.toArray.size=D.length:=by rw[ZM];omega
   have o:T.toArray.size=O.length:=by rw[ZM];omega
   have e0:(Dat.lst D).pq (Dat.lst O)=Dat.pqs D O:=by conv=>lhs;unfold Dat.pq
   rw[e0]
   have l:RcAt A s (.ref p) (.ref c) (Dat.pqs D O)/\RcNeAt A s (.ref p) (.ref c) (!Dat.pqs D O):=by
    by_cases e:D.length=O.length
    .have q:=RcAt.lists (A:=A) J M (by omega) G d
     have k:=RcNeAt.lists (A:=A) J M (by omega) G d;rw[f,OX e]at q k;exact⟨q,k⟩
    .have z:(N.toArray.size !=T.toArray.size)=true:=by rw[f,o];simp[e]
     rw[Qu e];exact⟨RcAt.lists_lengths (A:=A) J M z G,RcNeAt.lists_lengths (A:=A) J M z G⟩
   refine⟨?_,l.1,l.2⟩
   by_cases e:p=c
   .subst e
    rw[R]at I;cases I;rw[HasL.inj D O F E,Dat.pqs_self];exact EqAt.same _
   .exact EqAt.of_refs e l.1
theorem M0(G:HOk P w H s.heap):∀(n:Nat)(Z J:Dat)(A:Around){x y:V}{u v:Value},Z.dep<=n->Has H x Z->Has H y J->RelV x u->RelV y v->VW (n+1) A->Cmp A s u v (Z.pq J)
 |0,Z,J,A,_,_,_,_,hn,hx,hy,ru,rv,hr=>N7 G 0 (λ_ e=>nomatch e) Z J A hn hx hy ru rv hr
 |n+1,Z,J,A,_,_,_,_,hn,hx,hy,ru,rv,hr=>N7 G (n+1) (λ_ e Z J A {_ _ _ _}=>by cases e;exact M0 G n Z J A) Z J A hn hx hy ru rv hr
section
def C9(k:Nat):R2:=λx y H Q=>∃d e,Has H x d/\Has H y e/\d.dep<=k/\Q (.bl<|d.pq e) H
def C8(k:Nat):R2:=λx y H Q=>∃d e,Has H x d/\Has H y e/\d.dep<=k/\Q (.bl<|!d.pq e) H
def B9(L:VW (k+1) X.A):OpR X (compareOp .Eq) (C9 k):=by
 intro Z s U H x y v u Q I G J h;obtain⟨d,e,O,N,M,q⟩:=h;exact(M0 I.hok k d e X.A M O N G J L).rc _ _ _ _ ⟨.bl _,H,I,rfl,q⟩
def Ue(L:VW (k+1) X.A):OpR X (compareOp .NotEq) (C8 k):=by
 intro Z s U H x y v u Q I G J h;obtain⟨d,e,O,N,M,q⟩:=h;exact(M0 I.hok k d e X.A M O N G J L).ne _ _ _ _ ⟨.bl _,H,I,rfl,q⟩
end
end L2
namespace L2
open PySem PySem.Spec PyProof.Rows
mutual
def Dat.st:Dat->Bool
 |.str _=>true
 |.tup ds=>Dat.sts ds
 |_=>false
def Dat.sts:List Dat->Bool
 |[]=>true
 |d::ds=>d.st && Dat.sts ds
end
end L2
namespace L2
open PySem
inductive Shp where
 |tags (ts:List Str)
 |pair (a b:Str)
abbrev kQ:=List (Str×Shp)
def Shp.dat:Shp->Dat
 |.tags ts=>.tup [.str "tags",.tup (ts.map Dat.str)]
 |.pair a b=>.tup [.str "pair",.str a,.str b]
theorem NQ:∀Z:ky,Dat.sts (Z.map Dat.str)=true
 |[]=>by unfold Dat.sts;rfl
 |t::Z=>by rw[ZT];unfold Dat.sts;rw[NQ Z];unfold Dat.st;rfl
theorem Wf:∀Z:ky,Dat.deps (Z.map Dat.str)=0
 |[]=>by unfold Dat.deps;rfl
 |t::Z=>by rw[ZT];unfold Dat.deps;rw[Wf Z];unfold Dat.dep;rfl
theorem Shp.st:∀s:Shp,s.dat.st=true
 |.tags ts=>by simp[Shp.dat,Dat.st,Dat.sts,NQ]
 |.pair a b=>by simp[Shp.dat,Dat.st,Dat.sts]
end L2
namespace K4
open PySem L2
def Um:(Str.ofString "abcdefghijklmnopqrstuvwxyz")=alpha 97:=by decide +kernel
def Rg:(Str.ofString "ABCDEFGHIJKLMNOPQRSTUVWXYZ")=alpha 65:=by decide +kernel
end K4
namespace L2
open PySem
def TK(H H':Hp):Prop:=∀b Z,H b=some (.tup Z)->H' b=some (.tup Z)
def J3(h:H a=some u)(J:∀Z,u≠.tup Z):TK H (upd H a o):=λb Z e=>by
 rw[Yc (V8 e h λz=>J Z z.symm)];exact e
mutual
theorem XT{H Z:Hp}(b:TK H Z):∀(d:Dat){v:V},d.st=true->Has H v d->Has Z v d
 |.str _,_,_,h=>by unfold Has at h |-;exact h
 |.tup ds,_,t,h=>by
  unfold Has at h |-;obtain⟨a,J,M,L,G⟩:=h;unfold Dat.st at t;exact⟨a,J,M,b _ _ L,JM b ds t G⟩
 |.non,_,t,_=>by unfold Dat.st at t;cases t
 |.bl _,_,t,_=>by unfold Dat.st at t;cases t
 |.int _,_,t,_=>by unfold Dat.st at t;cases t
 |.lst _,_,t,_=>by unfold Dat.st at t;cases t
theorem JM{H L:Hp}(b:TK H L):∀(Z:kP){J:kK},Dat.sts Z=true->HasL H J Z->HasL L J Z
 |[],[],_,h=>Z4
 |[],_::_,_,h=>by unfold HasL at h;exact h.elim
 |_::_,[],_,h=>by unfold HasL at h;exact h.elim
 |d::Z,x::J,t,h=>by
  unfold HasL at h;unfold Dat.sts at t;have G:=zx.mp t;exact Z2 (XT b d G.1 h.1)<|JM b Z G.2 h.2
end
def Vv(k:Str×Shp):Dat:=.tup [.str k.1,k.2.dat]
def KK1(top:Nat)(c d:kU)(ahead:ky)(y:Str):Shp->Prop
 |.tags ts=>1<=ts.length/\ts.length<=4/\c y=1+ts.length/\d y=0/\ts.Nodup
 |.pair a b=>a∈ahead/\b∈ahead/\c y=1+c a*c b/\c y<=top/\d y=1+max (d a) (d b)/\d y<=2
def KK(top:Nat)(c d:kU)(ks:kQ):Prop:=∀(i:Nat)(y:Str)(s:Shp),ks[i]?=some (y,s)->KK1 top c d ((ks.take i).map (·.1)) y s
def KK1.of(h:KK1 top c d ahead y s)(L:∀z,z∈ahead\/z=y->T z=c z)(G:∀z,z∈ahead\/z=y->d' z=d z):KK1 top T d' ahead y s:=by
 cases s with
 |tags B=>
  obtain⟨J,Z,O,N,M⟩:=h;exact⟨J,Z,(L y<|.inr rfl).trans O,(G y<|.inr rfl).trans N,M⟩
 |pair a b=>
  obtain⟨J,Z,O,N,M,R⟩:=h;exists J,Z,?_,?_,?_
  .rw [L y (.inr rfl),L a<|.inl J,L b (.inl Z)];exact O
  .rw [L y (.inr rfl)];exact N
  .rw [G y (.inr rfl),G a<|.inl J,G b (.inl Z)];exact M
  .rw [G y (.inr rfl)];exact R
def KK.snoc(h:KK top c d J)(O:(J.map (·.1)++[y]).Nodup)(T:KK1 top (λz=>if z=y then n else c z) (λz=>if z=y then m else d z) (J.map (·.1)) y s):KK top (λz=>if z=y then n else c z) (λz=>if z=y then m else d z) (J++[(y,s)]):=by
 have N:∀z∈J.map (·.1),z≠y:=λz Z e=>by
  have q:=yC.mp O;exact q.2.2 z Z y (by simp) e
 intro i G M e
 by_cases hi:i<J.length
 .rw [zn hi]at e
  rw[List.take_append_of_le_length (Zf hi)];have R:G∈J.map (·.1):=ZU.mpr ⟨(G,M),ZH e,rfl⟩
  have L:∀z,z∈(J.take i).map (·.1)\/z=G->z≠y:=λz Z=>by
   rcases Z with Z|Z
   .obtain ⟨k,hk,rfl⟩:=ZU.mp Z
    exact N _<|ZU.mpr ⟨k,Zi hk,rfl⟩
   .rw [Z];exact N _ R
  exact(h i G M e).of (λz Z=>Zo<|L z Z) λz Z=>Zo<|L z Z
 .have hl:i=J.length:=by
   have:=(ZE.mp e).1;rw[ZJ,ze]at this;omega
  subst hl;rw[zq (ZF _),jA]at e;have B:some (y,s)=some (G,M):=e;cases B;rw[List.take_left];exact T
structure KG(ks:List (Str×Shp)):Prop where
 nm:Wds 97 (ks.map (·.1))
 tw:∀(y:Str)(ts:List Str),(y,Shp.tags ts)∈ks->Wds 65 ts
 ap:∀(i j:Nat)(y z:Str)(ts us:List Str)(x:Str),ks[i]?=some (y,.tags ts)->ks[j]?=some (z,.tags us)->x∈ts->x∈us->i=j
 pr:∀(i1 i2:Nat)(y1 y2 a b:Str),ks[i1]?=some (y1,.pair a b)->ks[i2]?=some (y2,.pair a b)->i1=i2
def KG.tags(g:KG J)(h:(y,Shp.tags Z)∈J):Wds 65 Z:=g.tw y Z h
def take_snoc{α:Type}{l:List α}{a:α}(h:l[i]?=some a):l.take (i+1)=l.take i++[a]:=by
 have Z:=(ZE.mp h).1;rw[List.take_succ_eq_append_getElem Z,(ZE.mp h).2]
def BG(h:u D (U.set k<|some v) H):Yg (BS (tC v)<|Vi k) u D U H:=h
def RF(Z:kK)(k:Nat)(h:k<=Z.length):U4 Z none (some (k:Int))=Z.take k:=by
 unfold U4;rw[HT.sIx_none,HT.sIx_nat,List.drop_zero,Nat.sub_zero,vb h]
def Vw(h:Has H x (Vv (y,s))):∃a v,x=.ref a/\H a=some (.tup [.str y,v])/\Has H v s.dat:=by
 unfold Vv Has at h;obtain⟨a,M,rfl,N,Z⟩:=h
 match M,Z with
 |[u,v],Z=>
  unfold HasL at Z;obtain⟨L,J⟩:=Z;unfold HasL at J;unfold Has at L;subst L;exact⟨a,v,Y,N,J.1⟩
 |[],Z=>unfold HasL at Z;exact Z.elim
 |[x],Z=>unfold HasL at Z;obtain⟨_,J⟩:=Z;unfold HasL at J;exact J.elim
 |_::_::_::_,Z=>unfold HasL at Z;obtain⟨_,J⟩:=Z;unfold HasL at J;obtain⟨_,G⟩:=J;unfold HasL at G;exact G.elim
def Ve(Z:kM)(L:∀J G,Z J G->u D J G)(main:∀N:kM,(∀J G,Z J G->N J G)->t {D with nx:=N} U H):Yg t u D U H:=main _ L
end L2
namespace K4
open PySem L2
end K4
namespace L2
open PySem
def VX(ks:kQ)(y:Str):Option Shp:=(ks.find? λk=>decide<|k.1=y).map (·.2)
def Y8(ks:kQ):Nat->Str->List W
 |0,_=>[]
 |n+1,y=>match VX ks y with
  |none=>[]
  |some (.tags ts)=>.non::ts.map W.tag
  |some (.pair a b)=>.non::(Y8 ks n a).flatMap λu=>(Y8 ks n b).map λv=>.pair u v
def Jx(h:VX Z y=some s):(y,s)∈Z:=by
 unfold VX at h
 cases e:Z.find? λk=>decide (k.1=y)with
 |none=>rw[e]at h;cases h
 |some k=>
  rw[e]at h;have J:k.2=s:=ZP h;have q:=List.find?_some e;have m:=zz e;have z:k.1=y:=Zr q;rw[<-J,<-z];exact m
def JJ(h:y∈Z.map (·.1)):∃s,VX Z y=some s:=by
 obtain⟨k,J,rfl⟩:=ZU.mp h;unfold VX
 cases e:Z.find? λz=>decide (z.1=k.1)with
 |none=>
  have q:=vO.mp e k J;simp at q
 |some z=>exact⟨z.2,Y⟩
def KK.at(h:KK top c d J)(e:VX J y=some s):KK1 top c d (J.map (·.1)) y s:=by
 obtain⟨i,M,N⟩:=vD.mp<|Jx e;have q:=h i y s<|by rw[ZC M,N]
 have Z:∀z,z∈(J.take i).map (·.1)->z∈J.map (·.1):=λz G=>by
  obtain⟨k,L,rfl⟩:=ZU.mp G;exact ZU.mpr ⟨k,Zi L,Y⟩
 cases s with
 |tags O=>exact q
 |pair a b=>exact⟨Z a q.1,Z b q.2.1,q.2.2⟩
theorem Ny{α:Type}(f:α->List W)(k:Nat):∀(l:List α),(∀a∈l,(f a).length=k)->(l.flatMap f).length=l.length*k
 |[],_=>by simp
 |a::l,h=>by
  rw[vT,ZJ,h a (by simp),Ny f k l λb Z=>h b (by simp[Z]),Zd,vg,Nat.add_comm]
theorem Ui(h:KK top c d J):∀(n:Nat)(y:Str),y∈J.map (·.1)->d y<n->(Y8 J n y).length=c y/\0<c y/\∀u∈Y8 J n y,u.dep<=d y
 |0,y,_,hd=>Zp hd<|Zu _
 |n+1,y,hy,hd=>by
  obtain⟨s,N⟩:=JJ hy;have M:=h.at N;unfold Y8;rw[N]
  cases s with
  |tags L=>
   obtain⟨R,O,U,S,_⟩:=M;refine⟨?_,by omega,λu G=>?_⟩
   .show (W.non::L.map W.tag).length=c y
    rw[Zd,ZA];omega
   .have Z:u=.non\/u∈L.map W.tag:=Zb.mp G
    rcases Z with rfl|Z
    .exact Za _
    .obtain ⟨x,_,rfl⟩:=ZU.mp Z
     exact Za _
  |pair a b=>
   obtain⟨R,O,U,S,q,j⟩:=M;have E:=yA (d a)<|d b;have D:=yr (d a)<|d b;obtain⟨A,Q,X⟩:=Ui h n a R (by omega);obtain⟨F,P,C⟩:=Ui h n b O (by omega);refine⟨?_,by omega,λu G=>?_⟩
   .show (W.non::(Y8 J n a).flatMap λu=>(Y8 J n b).map λv=>.pair u v).length=c y
    rw[Zd,Ny _ (c b) _ (λa _=>by rw[ZA,F]),A];omega
   .have Z:u=.non\/u∈(Y8 J n a).flatMap λu=>(Y8 J n b).map λv=>.pair u v:=Zb.mp G
    rcases Z with rfl|Z
    .exact Za _
    .obtain ⟨x,hx,hu2⟩:=jG.mp Z
     obtain⟨z,I,rfl⟩:=ZU.mp hu2;have B:=X x hx;have T:=C z I;show 1+max x.dep z.dep<=d y;have:=vP.mpr ⟨ZZ B E,ZZ T D⟩;omega
theorem UT(h:KK top c d Z):∀(n m:Nat)(y:Str),y∈Z.map (·.1)->d y<n->d y<m->Y8 Z n y=Y8 Z m y
 |0,_,_,_,h1,_=>Zp h1<|Zu _
 |_+1,0,_,_,_,h2=>Zp h2<|Zu _
 |n+1,m+1,y,hy,h1,h2=>by
  obtain⟨s,J⟩:=JJ hy;have M:=h.at J;unfold Y8;rw[J]
  cases s with
  |tags N=>rfl
  |pair a b=>
   obtain⟨L,G,B,T,R,O⟩:=M;have E:=yA (d a)<|d b;have D:=yr (d a)<|d b;show(W.non::_)=(W.non::_);rw[UT h n m a L (by omega) (by omega),UT h n m b G (by omega) (by omega)]
theorem RU:∀{J:ky}{Z:kK},HasL H Z (J.map Dat.str)->Z=J.map V.str
 |[],[],_=>rfl
 |[],_::_,h=>by rw[yW]at h;unfold HasL at h;exact h.elim
 |_::_,[],h=>by rw[ZT]at h;unfold HasL at h;exact h.elim
 |t::J,z::Z,h=>by
  rw[ZT]at h;unfold HasL at h;obtain⟨G,L⟩:=h;unfold Has at G;rw[G,RU L];rfl
def wOf(ks:kQ)(n:Nat):Shp->List W
 |.tags ts=>.non::ts.map W.tag
 |.pair a b=>.non::(Y8 ks n a).flatMap λu=>(Y8 ks n b).map λv=>.pair u v
def Wc(h:VX Z y=some s):Y8 Z (n+1) y=wOf Z n s:=by
 conv=>lhs;unfold Y8
 rw[h];cases s <;> rfl
def Fa{α:Type}(f:α->List W){l:List α}{a:α}(h:l[i]?=some a):(l.take<|i+1).flatMap f=(l.take i).flatMap f++ f a:=by
 rw[take_snoc h,ji];simp
def J0(h:Has H v (Shp.tags M).dat):∃p l,v=.ref p/\H p=some (.tup [.str "tags",.ref l])/\H l=some (.tup<|M.map V.str):=by
 unfold Shp.dat Has at h;obtain⟨p,T,rfl,B,Z⟩:=h
 match T,Z with
 |[u,v],Z=>
  unfold HasL at Z;obtain⟨O,J⟩:=Z;unfold HasL at J;unfold Has at O;subst O;have G:=J.1;unfold Has at G;obtain⟨l,R,rfl,N,L⟩:=G;have e:R=M.map V.str:=RU L;rw[e]at N;exact⟨p,l,Y,B,N⟩
 |[],Z=>unfold HasL at Z;exact Z.elim
 |[x],Z=>unfold HasL at Z;obtain⟨_,J⟩:=Z;unfold HasL at J;exact J.elim
 |_::_::_::_,Z=>unfold HasL at Z;obtain⟨_,J⟩:=Z;unfold HasL at J;obtain⟨_,G⟩:=J;unfold HasL at G;exact G.elim
def X9(h:Has H v (Shp.pair a b).dat):∃p,v=.ref p/\H p=some (.tup [.str "pair",.str a,.str b]):=by
 unfold Shp.dat Has at h;obtain⟨p,N,rfl,O,Z⟩:=h
 match N,Z with
 |[u,v,w],Z=>
  unfold HasL at Z;obtain⟨M,J⟩:=Z;unfold HasL at J;obtain⟨J,G⟩:=J;unfold HasL at G;have G:=G.1;unfold Has at M J G;subst M J G;exact⟨p,Y,O⟩
 |[],Z=>unfold HasL at Z;exact Z.elim
 |[x],Z=>unfold HasL at Z;obtain⟨_,J⟩:=Z;unfold HasL at J;exact J.elim
 |[x,y],Z=>unfold HasL at Z;obtain⟨_,J⟩:=Z;unfold HasL at J;obtain⟨_,G⟩:=J;unfold HasL at G;exact G.elim
 |_::_::_::_::_,Z=>unfold HasL at Z;obtain⟨_,J⟩:=Z;unfold HasL at J;obtain⟨_,G⟩:=J;unfold HasL at G;obtain⟨_,L⟩:=G;unfold HasL at L;exact L.elim
theorem NP:∀Z:ky,HasL H (Z.map V.str)<|(Z.map W.tag).map W.dat
 |[]=>Z4
 |t::Z=>Z2 (by show Has H (.str t) (W.dat<|.tag t);unfold W.dat Has;rfl)<|NP Z
end L2
namespace L2
open PySem PySem.Spec PyProof.Rows
section
def EG(K:W.Frag):R2:=λx y H Q=>∃a b Z,x=.ref a/\y=.ref b/\SqT K H a []/\SqT K H b Z/\Q (.ref b) H
def Oj:OpR X (binaryOp .Add) (EG X.K):=by
 intro O s U H x y v u Q I E D h;obtain⟨a,b,m,rfl,rfl,z,j,q⟩:=h;cases E;cases D;obtain⟨P,F,S,_⟩:=I.tuple z;obtain⟨Z,g,A,_⟩:=I.tuple j;cases F;obtain⟨⟨p,t,data,sl⟩,R,B,n,T⟩:=id S;obtain⟨⟨k,N,data2,M⟩,J,L,C,G⟩:=id A;simp only at B T L G;subst B T L G;exact concat_meets ⟨_,R,Y⟩ ⟨_,J,Y⟩ noFill_tuple_add seq_tuple_add jb vX (vV _ _)
  (tuple_addW0 a b _ Z.toArray n C t N sl M rfl) ⟨R,J,.ref b,H,I,rfl,q⟩
def EM:OpR X (binaryOp .Add) (λx y H Q=>EG X.K x y H Q\/NZ X.K x y H Q):=Oj.or WU
end
def XZ:plainId "dict.update.loop"=true:=by decide +kernel
def N3:entryFor table "dict.update.loop"=some Builtin.«dict.update.loop»:=entryFor_of_fast<|by kernel_rfl
def Pa:typeLookup (.type "list") (Str.ofString "keys")=pure none:=am_miss_of_fast<|by decide +kernel
section
def Pb(D:PlainL s.heap a G)(C:A.handled=none)(h:∀L M,(∀b o,s.heap.get? b=some o->L.get? b=some o)->Q none {s with heap:=L,toks:=M}):
  wpAny (model prog w) A (getAttr? (.ref a)<|Str.ofString "keys") Q E s:=by
 obtain⟨⟨c,y,z,sl⟩,k,N,R,O,hdat⟩:=D;simp only at R hdat O;subst R hdat O;obtain⟨X,P,j,M,I⟩:=s;have Z:=F.slot_list_getattribute;have U:=Z.lookup;have q:=Z.bind<|.ref a;have S:=am_list_getattr_none;have t:=sub_AttributeError;have T:∀n,(Shared.mk X P j n I).TypeIs (.ref a) "list":=λn=>⟨_,N,rfl⟩;simp only[getAttr?,getAttrBy?,getAttrBy]
 repeat (any_goals (first|assumption|exact T _|((with_reducible show wpAny _ _ (call (Value.builtin "list.__getattribute__") _ _) _ _ _);refine vp F.slot_list_getattribute (T _) am_entry_list_getattribute (F.args_list_getattribute_2 _ _) (meets_getattribute_miss_list a G k sl (Str.ofString "keys") _ Pa (by decide +kernel)<|by size_fits) ⟨N,C,λL B e J=>?_⟩)|wp_step))
 have there:=J.there;obtain⟨_,_,m⟩:=there;refine(?_:wpAny _ _ (getattributeRaised _ _ _ _ _ _ _) _ _ _);simp only[getattributeRaised]
 repeat any_goals first|assumption|wp_step
 exact h _ _ J.keeps
end
def zU{prog:Program}{w:World}(h₀:Heap)(vs:List (Key×Value))(i:Nat)(v:Value):Prop:=
 ∃a k J Z,v=.ref a/\vs[i]?=some (k,Z)/\h₀.IsTuple a #[J,Z]/\(VC prog w).is k J=true
def Fd(Z:List (Key×Value))(T:(Z.map (·.1)).Nodup)(e:Z[i]?=some (k,u)):stored (Z.take i) k u=Z.take (i+1):=by
 obtain⟨A,F⟩:=ZE.mp e
 have L:(Z.take i).any (λG=>decide<|G.1=k)=false:=by
  rw[Bool.eq_false_iff];intro J;obtain⟨G,B,D⟩:=vY.mp J;have M:G.1=k:=Zr D;obtain⟨j,E,R⟩:=vD.mp B;rw[ZL]at E;rw[List.getElem_take]at R;have N:j<(Z.map (·.1)).length:=by rw[ZA];omega
  have O:i<(Z.map (·.1)).length:=by rw[ZA];omega
  have q:(Z.map (·.1))[j]=(Z.map (·.1))[i]:=by
   rw[List.getElem_map,List.getElem_map,R,F,M]
  exact List.pairwise_iff_getElem.mp T j i N O (by omega) q
 unfold stored;rw[L,jB,e]
 rfl
section
variable{St:Nat->Heap->Prop}
def Ee(W:Walks prog w A.in1 I fp wr n P St)(E:vs.length=n)(hsz:vs.length<=sizeLine)(hn:(vs.map (·.1)).Nodup)(hP:∀i v,P i v->zU (prog:=prog) (w:=w) h₀ vs i v)(d:Addr)(U:d∉fp)(hw:∀b o,h₀.get? b=some o->b∉wr/\b≠d)(O:Value):
  ∀(k i:Nat)(s:Shared)(j:Int)(t:Tok),n-i=k->i<=n->St i s.heap->s.heap.DictOf (VC prog w) d (vs.take i)->(∀b o,h₀.get? b=some o->s.heap.get? b=some o)->
  (∀J N,J.DictOf (VC prog w) d vs->(∀b o,b∉wr->b≠d->s.heap.get? b=some o->J.get? b=some o)->R (.ok<|.ret O) {s with heap:=J,toks:=N})->
  codeAny (model prog w) A (.builtin "dict.update.loop" ⟨[.ref d,.ref I,.int j t,O],[]⟩) R s:=by
 have S:d∉wr:=λh=>U<|W.sub _ h;intro k
 induction k with
 |zero=>
  intro i s j t hk hi G y h0 l;have f:i=n:=by omega
  subst f;refine codeAny_builtin N3 ?_;rw[Around.under_plainId XZ _];refine Zj (m:=pyNext<|.ref I)<|W.done s _ _ G λJ N Z=>Zj<|Zk<|Zk ?_;refine l J N ?_ λb o M _ e=>Z b o M e;rw[<-E,yJ]at y;obtain⟨o,es,ep,p,rest⟩:=y;exact⟨o,es,ep,Z d o S p,rest⟩
 |succ k ih=>
  intro i s j t hk hi G y h0 l;have D:i<n:=by omega
  refine codeAny_builtin N3 ?_;rw[Around.under_plainId XZ _];refine Zj (m:=pyNext<|.ref I)<|W.item i s _ _ D G λv J N x T Z=>?_;obtain⟨a,Z8,ku,vu,rfl,ev,ht,F⟩:=hP i v x;have Q:∀b o,h₀.get? b=some o->J.get? b=some o:=λb o e=>Z b o (hw b o e).1<|h0 b o e;obtain⟨o,p,hc,m,hdat⟩:=ht;have B:=Q a o p;have hT:({s with heap:=J,toks:=N}:Shared).TypeIs (.ref a) "tuple":=⟨o,B,hc⟩;refine Zj<|wpAny_holding<|Zj<|wpAny_tryCatch ?_;simp only[Builtin.Dict.pairItems];refine Zj (m:=typeOf<|.ref a)<|jg hT ?_;rw[Zn (by decide)];refine Zj<|yB B hdat<|Zk ?_;show wpAny _ A.in1 (holding [ku,vu]<|dictSet d ku vu) _ _ _
  have r:Heap.DictOf (VC prog w) J d (vs.take i):=by
   obtain⟨o1,es,ep,g,rest⟩:=y;exact⟨o1,es,ep,Z d o1 S g,rest⟩
  refine wpAny_holding<|wpAny_dictSet_pairs (hsz:=by rw[ZL];omega) F r λh2 C L=>?_;rw[Fd vs hn ev]at C;refine Zk ⟨plainId_quiet XZ _,ih (i+1) _ (j+1) 0 (by omega) D (W.frame _ _ _ T λb M o e=>?_) C (λb o e=>?_) λh3 q u c=>?_⟩
  .exact (L.2 b λz=>U<|z ▸ M).trans e
  .exact (L.2 b (hw b o e).2).trans (Q b o e)
  .refine l h3 q u λb o M X e=>c b o M X<|(L.2 b X).trans<|Z b o M e
end
section
def Eu(K:W.Frag)(H:Hp)(ts:kF)(kvs:kJ):Prop:=ts.length=kvs.length/\∀(i:Nat)(a:Addr)(k:Key)(y:V),ts[i]?=some a->kvs[i]?=some (k,y)->SqT K H a [kV k,y]
theorem Te(h:Heap):∀(L:kF)(Z:kJ),L.length=Z.length->(∀(i:Nat)(a:Addr)(k:Key)(y:V),L[i]?=some a->Z[i]?=some (k,y)->∃G J,h.IsTuple a #[G,J]/\RelV (kV k) G/\RelV y J)->
  ∃M,KV Z M/\∀(i:Nat)(a:Addr),L[i]?=some a->∃k G J,M[i]?=some (k,J)/\h.IsTuple a #[G,J]/\RelV (kV k) G
 |[],[],_,_=>⟨[],.nil,λi a e=>by simp at e⟩
 |[],_::_,e,_=>by simp at e
 |_::_,[],e,_=>by simp at e
 |t::L,kv::Z,e,hp=>by
  obtain⟨G,J,D,B,T⟩:=hp 0 t kv.1 kv.2 rfl rfl;obtain⟨M,r,R⟩:=Te h L Z (by simpa using e) λi a k y F E=>hp (i+1) a k y F E;refine⟨(kv.1,J)::M,.cons ⟨Y,T⟩ r,λi a O=>?_⟩
  cases i with
  |zero=>
   have N:some t=some a:=O;cases N;exact⟨kv.1,G,J,Y,D,B⟩
  |succ i=>exact R i a O
def Gd(hc:X.calm=true):Jr X (.type "dict") (λxs H Q=>∃(p:Addr)(L:kF)(Z:kJ),xs=[.ref p]/\SqL X.K H p (L.map V.ref)/\Eu X.K H L Z/\(Z.map (·.1)).Nodup/\∀l,H l=none->Q (.ref l) (upd H l<|.dK Z)):=by
 intro J2 s U H xs us Q I r h;obtain⟨p,L,Z,rfl,x,S,hn,q⟩:=h;obtain⟨u,rfl,g⟩:=vals1 r;cases g;obtain⟨G,r',c,f⟩:=I.list x;rw[ZA]at f
 have P:G.length=L.length:=by
  have:=r'.length;rw[ZA]at this;exact this.symm
 have Z9:∀(i:Nat)(a:Addr),L[i]?=some a->G[i]?=some (Value.ref a):=λi a e=>by
  obtain⟨u,hu,g⟩:=r'.get (show(L.map V.ref)[i]?=some (V.ref a) by rw[ZG,e];rfl);rw[hu,show u=Value.ref a from g]
 obtain⟨vs,M,w⟩:=Te s.heap L Z S.1 λi a k y e1 e2=>by
  obtain⟨J4,r2,p2,_⟩:=I.tuple<|S.2 i a k y e1 e2
  cases r2 with
  |cons r1 t1=>
   cases t1 with
   |cons r3 t3=>
    cases t3;exact⟨_,_,p2,r1,r3⟩
 have Z8:vs.length=G.toArray.size:=by rw[ZM,P,S.1,<-M.length]
 have R:vs.map (·.1)=Z.map (·.1):=by
  have J1:∀{l:kJ}{m:List (Key×Value)},KV l m->m.map (·.1)=l.map (·.1):=by
   intro l m q
   induction q with
   |nil=>rfl
   |cons x t ih=>rw[ZT,ZT,ih,x.1]
  exact J1 M
 have E:p<s.heap.objs.size:=by
  obtain⟨o,n,e,_⟩:=c;exact ZN e
 refine callType_codes (Q₁:=λob t=>ob=.ref s.heap.objs.size/\t={s with heap:=s.heap.push {cls:=.type "dict",data:=.dict #[]}}) F.kt_called_dict (F.kt_typeCall_dict_1 _) F.entry_dict_init (kt_code_dict_new _ ⟨Y,Y⟩) λob t z=>?_;obtain⟨rfl,rfl⟩:=z;have J:(s.heap.push {cls:=.type "dict",data:=.dict #[]}).DictOf (VC X.prog X.w) s.heap.objs.size []:=Heap.DictOf.new s.heap;have k0:∀b o,s.heap.get? b=some o->(s.heap.push {cls:=.type "dict",data:=.dict #[]}).get? b=some o:=λb o e=>ZD _ e;refine And.intro J.typeIs<|And.intro (F.args_dict_init_2 _ _) ?_;delta Builtin.«dict.__init__» Builtin.Dict.selfAndRest;refine Zj<|Zj<|wpAny_notOrdered_dict J.typeIs<|Zk (?_:wpAny _ _ (Builtin.Dict.updateFrom "dict.__init__" s.heap.objs.size (.ref p) [] .none) _ _ _);delta Builtin.Dict.updateFrom;have O:=c.keeps k0;refine Zj<|jg O.isList.typeIs ?_;rw[Zn (by decide)];refine Zj<|Pb O (I.ok.hd hc) λB J5 N=>?_;simp only[Option.isNone_none,if_true];refine Zj<|vZ ?_;refine Zj<|yY (O.keeps N).isList ?_
 have j:s.heap.objs.size<B.objs.size:=by
  obtain⟨o,es,ep,ho,_⟩:=J;exact ZN<|N _ _ ho
 have d:∀b o,s.heap.get? b=some o->(B.push {cls:=.type "list_iterator",data:=.fields #[.ref p,.int 0 0]}).get? b=some o:=λb o e=>ZD _<|N b o<|k0 b o e;refine Zk ⟨plainId_quiet XZ _,Ee (Walks.list (A:=X.A.in1.in1) (I.ok.hd hc) B.objs.size p (Zc<|Nat.lt_trans E j) G.toArray) (h₀:=s.heap) (vs:=vs) Z8 (by rw[<-M.length,<-S.1];exact f) (by rw[R];exact hn) ?_ s.heap.objs.size ?_ ?_ .none _ 0 _ 0 0 rfl (Za _) ?_ ?_ d ?_⟩
 .intro i v hv
  have hi:i<G.length:=by
   have:=(yT.mp hv).1
   rwa [ZM]at this
  have z:i<L.length:=by omega
  obtain⟨k,ku,vu,e1,e2,e3⟩:=w i L[i]<|ZC z;refine⟨L[i],k,ku,vu,?_,e1,e2,WW e3⟩;have:=Z9 i L[i]<|ZC z;have D:G[i]?=some v:=by simpa using hv
  rw[this]at D;exact(ZP D).symm
 .intro C
  have two:s.heap.objs.size=B.objs.size\/s.heap.objs.size=p:=by simpa using C
  rcases two with e|e
  .exact Zp e (Zc j)
  .exact Zp e (yh E)
 .intro b o e
  have T:=ZN e;refine⟨λC=>?_,Zc T⟩;have e':b=B.objs.size:=by simpa using C
  rw[e']at T;exact Zp j<|v8 T
 .exact ⟨⟨_,ZW _ rfl,rfl,rfl⟩,(c.keeps d).isList⟩
 .obtain ⟨o,es,ep,ho,rest⟩:=J
  exact⟨o,es,ep,ZD _<|N _ _ ho,rest⟩
 .intro h' tk hd' hk'
  refine⟨Y,.ref s.heap.objs.size,_,I.laid (a:=s.heap.objs.size) (o:=.dK Z) (λb o e=>?_) (ZF _)<|My (by rw[<-S.1];exact f) (beq_eq_false_iff_ne.mpr<|Zq<|Zc I.big) M hd',rfl,q _<|I.hok.fresh<|ZF _⟩;have T:=ZN e;refine hk' b o (λC=>?_) (Zc T)<|d b o e;have e':b=B.objs.size:=by simpa using C
  rw[e']at T;exact Zp j<|v8 T
end
end L2
namespace L2
open PySem
def KK.small(h:KK 30 c d G)(L:y∈G.map (·.1)):d y<=2/\c y<=30:=by
 obtain⟨s,M⟩:=JJ L;have Z:=h.at M
 cases s with
 |tags B=>obtain⟨T,R,O,J⟩:=Z;omega
 |pair a b=>obtain⟨T,R,O,J,D,N⟩:=Z;exact⟨N,J⟩
end L2
namespace L2
open PySem PySem.Spec PyProof.Rows
section
def PZ{i:Nat}{Q:ko}(t:IsEnum s.heap e it i old)(z:SI tp s.heap it l i xs)(nl:l≠it)(hx:xs[i]?=some x)(J:e≠it)(hQ:∀g,IsEnumOut g e it ((i:Int)+1) x s.heap.objs.size->SJ tp g it l (i+1)->g.get? s.heap.objs.size=some {cls:=.type "tuple",data:=.seq #[.int i s.toks,x]}->g.objs.size=s.heap.objs.size+1->
   (∀b o,b≠e->b≠it->s.heap.get? b=some o->g.get? b=some o)->Q (.ref s.heap.objs.size) {s with heap:=g,toks:=s.toks+1}):
  wpAny (model prog w) A (Builtin.«enumerate.__next__» ⟨[.ref e],[]⟩) (λf s'=>∃v,f=.done (.ret v)/\Q v s') E s:=by
 obtain⟨Z,g,d,R,os⟩:=s;refine Zj (m:=field (.ref e) 2)<|Zm t rfl (x:=.ref it) rfl ?_;refine Zj<|Gj z nl hx λU a N=>?_;replace N:Heap.SameBut it Z U:=N;have j:IsEnum U e it i old:=(N.2 e J).trans t;refine Zj (m:=field (.ref e) 3)<|Zm j rfl (x:=rawInt i) rfl ?_;refine Zj (m:=field (.ref e) 4)<|Zm j rfl (x:=.none) rfl ?_;refine Zj (m:=mkInt i)<|wpAny_mkInt ?_;refine Zj (m:=setField (.ref e) 3<|rawInt<|(i:Int)+1)<|zY j (by simp) λS P M=>?_;replace M:Heap.SameBut e U S:=M;replace P:IsEnum S e it ((i:Int)+1) old:=P;refine Zj (m:=setField (.ref e) 4 .none)<|zY P (by simp) λO X L=>?_;replace L:Heap.SameBut e S O:=L;replace X:IsEnum O e it ((i:Int)+1) old:=X;refine Zj (m:=newTuple [.int i R,x])<|wpAny_newTuple ?_;have C:IsEnum (O.push {cls:=.type "tuple",data:=.seq #[.int i R,x]}) e it ((i:Int)+1) old:=ZD _ X;generalize q4:O.push {cls:=.type "tuple",data:=.seq #[.int i R,x]}=g4 at C;have T:O.objs.size=Z.objs.size:=by rw[L.1,M.1,N.1]
 have el:e<Z.objs.size:=ZN t;have t4:g4.get? Z.objs.size=some {cls:=.type "tuple",data:=.seq #[.int i R,x]}:=by rw[<-q4,<-T];exact ZW _ Y
 have z4:g4.objs.size=Z.objs.size+1:=by rw[<-q4,yj,T]
 have k4:∀b o,b≠e->b≠it->Z.get? b=some o->g4.get? b=some o:=λb o G n k=>by
  rw[<-q4];exact ZD _<|L.extBut b o G<|M.extBut b o G<|N.extBut b o n k
 have j4:SJ tp g4 it l (i+1):=by
  rw[<-q4];exact a.sj.to λo ho=>ZD _<|L.extBut _ o (Zq J)<|M.extBut _ o (Zq J) ho
 show wpAny _ _ (Builtin.SmallTypes.ownedTupleIsFree (.ref e) >>=_) _ _ ⟨g4,g,d,R+1,os⟩;rw[T];clear q4 X L P M j N a T O S U;refine Zj (m:=Builtin.SmallTypes.ownedTupleIsFree<|.ref e)<|Zj (m:=field (.ref e) 0)<|Zm C rfl (x:=.none) rfl (Zk ?_);simp only[if_true];refine Zj (vZ<|Zj<|Zm C rfl (x:=old) rfl (Zj<|zY C (by simp) λc h F=>?_));replace F:Heap.SameBut e g4 c:=F;replace h:IsEnum c e it ((i:Int)+1) x:=h;refine Zj (m:=Builtin.SmallTypes.ownedTupleHandOut (.ref e)<|.ref Z.objs.size) ?_;simp only[Builtin.SmallTypes.ownedTupleHandOut];refine Zj<|zY h (by simp) λp r D=>?_;replace D:Heap.SameBut e c p:=D;replace r:IsEnumOut p e it ((i:Int)+1) x Z.objs.size:=r;refine zY r (by simp) λI u B=>?_;replace B:Heap.SameBut e p I:=B;replace u:IsEnumOut I e it ((i:Int)+1) x Z.objs.size:=u;have y:∀b o,b≠e->g4.get? b=some o->I.get? b=some o:=λb o G q=>B.extBut b o G<|D.extBut b o G<|F.extBut b o G q;refine Zj<|wpAny_letGo<|Zk ⟨_,rfl,hQ I u (j4.to λo q=>y _ o (Zq J) q) (y _ _ (yh el) t4) (by rw[B.1,D.1,F.1,z4]) λb o G n k=>y b o G<|k4 b o G n k⟩
def O6{i:Nat}(J:IsEnum s.heap e it i old)(z:SI M s.heap it l i L)(N:l≠it)(O:L[i]?=some x)(Z:e≠it)(R:∀g,IsEnumOut g e it ((i:Int)+1) x s.heap.objs.size->SJ M g it l (i+1)->g.get? s.heap.objs.size=some {cls:=.type "tuple",data:=.seq #[.int i s.toks,x]}->g.objs.size=s.heap.objs.size+1->
   (∀b o,b≠e->b≠it->s.heap.get? b=some o->g.get? b=some o)->Q (some<|.ref s.heap.objs.size) {s with heap:=g,toks:=s.toks+1}):wpAny (model prog w) A (pyNext<|.ref e) Q E s:=by
 have G:s.TypeIs (.ref e) "enumerate":=⟨_,J,rfl⟩;simp only[pyNext];exact Zj (vi (wpAny_callSpecial?_slot (name:=Str.ofString "__next__") G vK (yL vK G F.entry_enumerate_next
   (PZ J z N O Z λg a b c d k=>Zk<|R g a b c d k) (F.args_enumerate_next_1 _))))
def Sv{i:Nat}(N:A.handled=none)(Z:IsEnum s.heap e it i old)(z:SI D s.heap it l i G)(L:G[i]?=none)(R:∀g,Heap.ExtBut it s.heap g->Q none {s with heap:=g}):wpAny (model prog w) A (pyNext<|.ref e) Q E s:=by
 have J:s.TypeIs (.ref e) "enumerate":=⟨_,Z,rfl⟩;simp only[pyNext];refine Zj<|vi<|wpAny_callSpecial?_slot (name:=Str.ofString "__next__") J vK<|yL vK J F.entry_enumerate_next ?_<|F.args_enumerate_next_1 _;refine Zj (m:=field (.ref e) 2)<|Zm Z rfl (x:=.ref it) rfl (Zj<|Be N z L λg y B ⟨o,M,O⟩=>?_);exact Zj<|wpAny_isInstance (T:="StopIteration") (b:=true) ⟨o,M,O⟩ isSubtype_stop<|Zk<|R _ B
set_option tactic.hygienic true in
def Fc(J:Bool)(l:Addr)(N:kI):Meets (Builtin.«enumerate.__new__» ⟨[.type "enumerate",.ref l],[]⟩) (λ_ R s=>Wk J s.heap l N/\
   R (.ok<|.ret<|.ref (s.heap.push<|Jn J l).objs.size) {s with heap:=(s.heap.push<|Jn J l).push {cls:=.type "enumerate",data:=.fields #[.none,.bool false,.ref s.heap.objs.size,rawInt 0,.none,.none]}}):=
 .of_wp λO w A R s h=>by
  obtain⟨D,g,d,F,I⟩:=s;obtain⟨L,h⟩:=h;have B:=sub_enumerate;have T:Wk J (Shared.heap ⟨D,g,d,F,I⟩) l N:=L
  obtain⟨G,Z,S⟩:∃G,D.get? l=some G/\(∃E n,G.data=.seq E n):=by
   cases J with
   |false=>obtain⟨o,e,_,n,M⟩:=L;exact⟨o,e,_,n,M⟩
   |true=>obtain⟨o,e,_,n,M⟩:=L;exact⟨o,e,_,n,M⟩
  wp_walk using AutoSeq1.wpAny_loadPart' Z
  refine wpAny_stack_any λU=>Zk ?_
  split
  .rename_i c _ _ _ _ _
   cases(c==Value.type "enumerate") <;> (wp_walk using AutoSeq1.wpAny_loadPart' Z,Gf T;exact⟨_,Y,h⟩)
  .wp_walk using AutoSeq1.wpAny_loadPart' Z,Gf T
   exact⟨_,Y,h⟩
def Pe(N:Wk Z s.heap l L)(h:∀g,IsEnum g (s.heap.objs.size+1) s.heap.objs.size 0 .none->SJ Z g s.heap.objs.size l 0->(∀c o,s.heap.get? c=some o->g.get? c=some o)->Q (.ref<|s.heap.objs.size+1) {s with heap:=g}):
  wpAny (model prog w) A (call (.type "enumerate") [.ref l]) Q E s:=by
 refine callType_new F.called_enumerate (by decide) (F.typeCall_enumerate_1 _) (F.newCall_enumerate_1 _) (λG=>F.args_object_init_2 G _) F.entry_enumerate_new (Fc Z l L) ⟨N,?_⟩;have O:(s.heap.push<|Jn Z l).objs.size=s.heap.objs.size+1:=yj ..;have J:((s.heap.push<|Jn Z l).push {cls:=.type "enumerate",data:=.fields #[.none,.bool false,.ref s.heap.objs.size,rawInt 0,.none,.none]}).get? (s.heap.push<|Jn Z l).objs.size=some _:=ZW _ rfl;have M:SJ Z ((s.heap.push<|Jn Z l).push {cls:=.type "enumerate",data:=.fields #[.none,.bool false,.ref s.heap.objs.size,rawInt 0,.none,.none]}) s.heap.objs.size l 0:=(SJ.new Z s.heap l).to λo q=>ZD _ q;show _/\_;rw[O]at J |-;exact⟨⟨_,J,Y⟩,h _ J M λc o q=>ZD _<|ZD _ q⟩
end
structure ER(h:Heap)(e it:Addr)(tp:Bool)(l:Addr)(k:Nat):Prop where
 enu:∃old,IsEnum h e it k old
 one:SJ tp h it l k
def Ite(K:W.Frag)(tp:Bool)(l:Addr):It:=
 ⟨λi H=>∃Z x,Sq K tp H l Z/\Z[i]?=some x,λi H v J=>∃r x,v=.ref r/\H r=none/\J=upd H r (.tup [.int (i:Nat),x])/\∀Z,Sq K tp H l Z->Z[i]?=some x,λi H=>∃Z,Sq K tp H l Z/\Z.length<=i⟩
def L6{P:Program}{w:World}{K:W.Frag}{O:kX}{x1}{pos:Pos}{e it l:Addr}{a:Bool}(n1:e≠it)(n2:l≠it):Turn P w K (.Tuple O x1 pos) (Ite K a l) [e,it] e (λi h=>ER h e it a l i) where
 mem:=by simp
 obj:=λi h J b Z=>by
  have q:b=e\/b=it:=by simpa using Z
  rcases q with q|q <;> rw[q]
  .obtain ⟨L,N⟩:=J.enu
   exact⟨_,N,λv e=>nomatch e⟩
  .exact J.one.obj
 keep:=λi h h' J k=>⟨let⟨L,N⟩:=J.enu;⟨L,k e (by simp) _ N⟩,J.one.to λo q=>k it (by simp) o q⟩
 item:=by
  intro X u p r hc i G s U H E I M J f;subst u p r;obtain⟨xs,x,T,hx⟩:=f;obtain⟨m,C,D⟩:=I.sq T;obtain⟨F,c,S⟩:=C.get hx;obtain⟨L,B⟩:=J.enu;have R:e<s.heap.objs.size:=ZN B;refine O6 B (J.one.si D) n2 (x:=F) (by simpa using c) n1 λg ho hj ht sz t=>?_;have y:∀b o,b ∉ [e,it]->s.heap.get? b=some o->g.get? b=some o:=λb o Z q=>t b o (λz=>Z<|by simp[z]) (λz=>Z<|by simp[z]) q;have I1:Inv X G U H {s with heap:=g,toks:=s.toks+1}:=I.turnedL (t':=s.toks+1) y M;have d:H s.heap.objs.size=none:=I.hok.fresh<|ZF _;exists _,Y;refine wpAny_letOwnedTupleGo_enum (s:={s with heap:=g,toks:=s.toks+1}) ho λn e2 A=>?_
  have I2:Inv X G U H {s with heap:=n,toks:=s.toks+1}:=I1.turnedL (s:={s with heap:=g,toks:=s.toks+1}) (t':=s.toks+1) (ch:=[e]) (λb o Z q=>A.extBut b o (λz=>Z<|by simp[z]) q) λb Z=>by
   have q:b=e:=by simpa using Z
   rw[q];exact M e<|by simp
  have Q:n.get? s.heap.objs.size=some {cls:=.type "tuple",data:=.seq #[.int i s.toks,F]}:=A.extBut _ _ (yh R) ht;have I3:Inv X G U (upd H s.heap.objs.size<|.tup [.int (i:Nat),x]) {s with heap:=n,toks:=s.toks+1}:=I2.retrack d (I.fpOk (ZF _) d) ⟨sl 2,[.int i s.toks,F],.cons ⟨_,rfl⟩<|.cons S .nil,⟨_,Q,rfl,rfl,_,rfl⟩⟩
  have j:∀b∈ [e,it],b<s.heap.objs.size:=λb Z=>by
   have q:b=e\/b=it:=by simpa using Z
   rcases q with q|q <;> rw[q]
   .exact R
   .obtain ⟨o,q,_⟩:=J.one.obj
    exact ZN q
  refine⟨.ref s.heap.objs.size,_,I3,Y,⟨_,x,Y,d,Y,λzs h=>by rw[I.sq_inj h T];exact hx⟩,?_,λb Z=>?_⟩
  .exact ⟨⟨_,e2⟩,hj.to λo q=>A.extBut _ o (Zq n1) q⟩
  .rw [Yc (Zc<|j b Z)]
   exact(M b Z).1
 done:=by
  intro X u p r hc i G s U H E I M J f;subst u p r;obtain⟨xs,T,Z8⟩:=f;obtain⟨m,C,D⟩:=I.sq T;have e1:=C.length;obtain⟨L,B⟩:=J.enu;refine Sv (I.ok.hd hc) B (J.one.si D) (by simp;omega) λg t=>⟨Y,?_⟩
  exact I.turnedL (t':=s.toks) (ch:=[it]) (λb o Z q=>t b o (λz=>Z<|by simp[z]) q) λb Z=>M b (by
   have q:b=it:=by simpa using Z
   rw[q];simp)
 self:=λ_ _ _ _ _ J h=>let⟨_,N⟩:=J.enu;wpAny_pyIter_enum N h
def Dv:bootBuiltins "enumerate"=some (.type "enumerate"):=by decide +kernel
def CG(K:W.Frag)(ta:TA):TI:=λU H R=>ta U H λL J=>∃a Z G,L=[.ref a]/\Sq K Z J a G/\R (Ite K Z a) J
def WP(j:Gl X "enumerate")(P:X.mg "enumerate"=none)(t:PA X [a] ta)(C:starEach [a] X.env=[(false,eval a X.env)]:=by rfl):PI X (.Tuple elts x1 tpos) (.Call (.Name "enumerate" p) [a] [] pos) (CG X.K ta):=by
 intro J s U H R I h;refine Call_ (Wy I j P Dv<|yM (thn (t pos J s U H _ I h) λd Z ⟨c,T,L,E,M⟩=>?_) (by rw[C];rfl)<|by rfl);obtain⟨l,f,k,e,M,q⟩:=M;subst e;obtain⟨u,rfl,B⟩:=vals1 E;cases B;obtain⟨S,D,N⟩:=L.sq M;have F:=N.lt;refine Pe N λg O Q A=>?_;refine wpAny_pyIter_enum (s:={Z with heap:=g}) O ?_;have m:Inv X J U T {Z with heap:=g}:=L.kept (t':=Z.toks) A;refine⟨_,[Z.heap.objs.size+1,Z.heap.objs.size],_,_,T,Y,m,L6 (Nat.succ_ne_self _)<|Zc F,⟨⟨_,O⟩,Q⟩,λb y=>?_,q⟩
 have G:Z.heap.objs.size<=b:=by
  have z:b=Z.heap.objs.size+1\/b=Z.heap.objs.size:=by simpa using y
  rcases z with z|z <;> rw[z] <;> first|exact ZF _|exact v7 _ _
 exact L.fpOk G<|L.hok.fresh G
end L2
namespace L2
open PySem PySem.Spec PyProof.Rows PySem.W PySem.Calls
end L2
namespace L2
open PySem PySem.Spec PyProof.Rows PySem.MeetsSeq
end L2
namespace L2
open PySem PySem.Spec PyProof.Rows
def Its(x:Str):It:=⟨λi _=>i<x.cps.size,λi H v Z=>Z=H/\∃c,x.cps[i]?=some c/\v=.str ⟨#[c]⟩,λi _=>x.cps.size<=i⟩
def SIt(it:Addr)(x:Str)(i:Nat)(h:Heap):Prop:=∃ty t,(ty="str_ascii_iterator" \/ ty="str_iterator")/\h.IsStrIter it ty x t i
def LM(h:Q () s):wpAny M A (letOwnedTupleGo tg it<|.str y t) Q E s:=by
 unfold letOwnedTupleGo;cases tg <;> cases it <;> exact Zk h
def Fz{P:Program}{w:World}{K:W.Frag}{tg:Expr}(it:Addr)(x:Str):Turn P w K tg (Its x) [it] it (SIt it x) where
 mem:=by simp
 obj:=λi h ⟨ty,t,_,o,p,_,hd⟩ b M=>by
  cases ZO.mp M;exact⟨o,p,λv z=>by rw[hd]at z;cases z⟩
 keep:=λi h L ⟨ty,t,Z,o,p,r⟩ k=>⟨ty,t,Z,o,k it (by simp) o p,r⟩
 item:=by
  intro X d g f D i O s U H E I S ⟨ty,t,Z,N⟩ A;subst d g f;obtain⟨m,q,_,j,Q,C⟩:=S it (by simp);have F:∀(v:Value)(L:Heap)(R:Nat),SignAt x i v->SIt it x (i+1) L->(∀b o,b ∉ [it]->s.heap.get? b=some o->L.get? b=some o)->
    (∃u,some v=some u/\wpAny (model X.prog X.w) X.A (letOwnedTupleGo tg (.ref it) u) (λ_ a=>∃y n,Inv X O U n a/\RelV y u/\(Its x).yld i H y n/\SIt it x (i+1) a.heap/\∀b∈ [it],n b=none) E {s with heap:=L,toks:=R}):=λv L R B J T=>by
   obtain⟨c,u,hx,rfl⟩:=B;exact⟨_,Y,LM ⟨.str ⟨#[c]⟩,H,I.turned (λb o M e=>T b o (by simpa using M) e) m q j Q C,⟨_,Y⟩,⟨Y,c,hx,Y⟩,J,λb M=>(S b M).1⟩⟩
  rcases Z with rfl|rfl
  .exact (Walks.strAscii (I.ok.hd D) it x t).item i s _ _ A N λv L R B J T=>F v L R B ⟨_,t,.inl rfl,J⟩ T
  .exact (Walks.strWide (I.ok.hd D) it x t).item i s _ _ A N λv L R B J T=>F v L R B ⟨_,t,.inr rfl,J⟩ T
 done:=by
  intro X d g f D i O s U H E I S ⟨ty,t,Z,N⟩ A;subst d g f;obtain⟨m,q,_,j,Q,C⟩:=S it<|by simp
  have G:x.cps[i]?=none:=by
   have z:x.cps.size<=i:=A;simp[z]
  rcases Z with rfl|rfl
  .exact wpAny_pyNext_ascii_end (I.ok.hd D) N G λL l=>⟨rfl,I.turned (t':=s.toks) (λb o M e=>l b o M e) m q j Q C⟩
  .exact wpAny_pyNext_wide_end (I.ok.hd D) N G λL l=>⟨rfl,I.turned (t':=s.toks) (λb o M e=>l b o M e) m q j Q C⟩
 self:=λ_ _ _ _ _ ⟨ty,t,Z,N⟩ h=>by
  rcases Z with rfl|rfl
  .exact wpAny_pyIter_striter_ascii N h
  .exact wpAny_pyIter_striter_wide N h
section
def zG(tl:TE):TI:=λU H R=>tl U H λv Z=>∃x,v=.str x/\R (Its x) Z
def Qw(T:PE X l tl):PI X tg l (zG tl):=by
 intro Z s U H R I h;refine thn (T Z s U H _ I h) λv J ⟨y,N,L,O,x,e,q⟩=>?_;subst e;obtain⟨t,rfl⟩:=O
 have D:∀b∈ [J.heap.objs.size],UG X Z N b:=λb B=>by
  cases ZO.mp B;exact L.fpOk (ZF _)<|L.hok.fresh<|ZF _
 have M:∀(ty:String),(ty="str_ascii_iterator" \/ ty="str_iterator")->PIE X Z U tg R (.ref J.heap.objs.size) {J with heap:=J.heap.push {cls:=.type ty,data:=.fields #[.str x t,.int 0 0]}}:=λty G=>
  ⟨_,[J.heap.objs.size],_,_,N,rfl,L.kept (t':=J.toks) λb o e=>ZD _ e,Fz _ x,⟨ty,t,G,_,ZW _ rfl,rfl,rfl⟩,D,q⟩
 cases ha:x.cps.all (λc=>c<128)
 .exact wpAny_pyIter_wide ha (M _<|.inr rfl)
 .exact wpAny_pyIter_ascii ha (M _<|.inl rfl)
end
def VN.dk_ex(x:VN P w H h d (.dK Z)):∃u,h.get? d=some u:=let⟨_,_,_,_,o,_,_,e,_⟩:=x;⟨o,e⟩
def epO(o:Obj):Nat:=match o.data with|.dict _ ep=>ep|_=>0
section
def Inv.freeze(I:Inv X G U H s)(M:H d=some (.dK Z))(R:s.heap.get? d=some o):Inv X G U (upd H d<|.frz o<|.dK Z) s:=by
 have L:∀b u,H b=some u->(∀l,u≠.dK l)->b≠d:=λb u e n z=>by subst z;rw[M]at e;cases e;exact n Z Y
 have O:∀b,H b=none->b≠d:=λb e z=>by subst z;rw[M]at e;cases e
 have J:=I.un (H':=upd H d<|.frz o<|.dK Z) (h':=s.heap) (t':=s.toks)
  ⟨λb u q _ _ _=>q,λb u q _ _ _=>⟨u.slots,q⟩,λb u q n _=>by rw[Yc (O b n)];exact n,λb u q _=>⟨u,q⟩,λb N q=>by rw[Yc (L b _ q (λl=>by intro z;cases z))];exact q,
   λb u v q=>by rw[Yc (L b _ q (λl=>by intro z;cases z))];exact q,λb T q=>⟨#[],by rw[Yc (L b _ q (λl=>by intro z;cases z)),q];simp⟩⟩ ?_
 .exact J
 .intro a u e
  by_cases z:a=d
  .subst z
   rw[YZ]at e;cases e;exact⟨R,I.hok a _ M⟩
  .rw [Yc z]at e
   exact(I.hok a u e).stay (λb v _ q=>q) (λb q=>by rw[Yc (L b _ q (λl=>by intro z;cases z))];exact q) λb N q=>by rw[Yc (L b _ q (λl=>by intro z;cases z))];exact q
end
def Itd(d:Addr)(o:Obj)(kvs:kJ):It:=
 ⟨λi H=>H d=some (.frz o<|.dK kvs)/\i<kvs.length,λi H x J=>J=H/\∃Z,kvs[i]?=some Z/\x=kV Z.1,λi H=>H d=some (.frz o<|.dK kvs)/\kvs.length=i⟩
def PH(h:JY k v=true):RelV (kV k) v:=by
 rcases Va h with⟨i,t,rfl,rfl⟩|⟨x,t,rfl,rfl⟩
 .exact ⟨t,rfl⟩
 .exact ⟨t,rfl⟩
def Sj(Z:JY k v=true)(h:Q () s):wpAny M A (letOwnedTupleGo tg it v) Q E s:=by
 rcases Va Z with⟨i,t,rfl,rfl⟩|⟨x,t,rfl,rfl⟩
 .unfold letOwnedTupleGo
  cases tg <;> cases it <;> exact Zk h
 .exact LM h
section
def Inv.dict_at(I:Inv X M U H s)(D:H d=some (.frz o<|.dK Z)):∃G,s.heap.DictAt (VC X.prog X.w) d G (epO o)/\KV Z G/\(d==sysModules)=false:=by
 obtain⟨N,_,B,G,O,A,E,F,J,T,L,R⟩:=(show VN X.prog X.w H s.heap d (.frz o<|.dK Z)from I.hok d _ D);rw[N]at J;cases J;have e:epO o=F:=by unfold epO;rw[L]
 exact⟨G,⟨o,E,N,T,by rw[e];exact L,R⟩,O,B⟩
end
def Dj{Z:List (κ×V)}{J:List (κ×Value)}(r:KV Z J):Z.length=J.length:=Paired.length r
theorem K9:∀{Z:List (κ×V)}{J:List (κ×Value)}(i:Nat)(k:κ)(u:Value),KV Z J->J[i]?=some (k,u)->∃v,Z[i]?=some (k,v)
 |_,_,i,k,u,.nil,e=>by simp at e
 |_,_,0,k,u,.cons (a:=p) (b:=q) r _,e=>by
  have L:some q=some (k,u):=e;cases L;obtain⟨G,v⟩:=p;have z:G=k:=r.1;subst z;exact⟨v,Y⟩
 |_,_,i+1,k,u,.cons _ t,e=>K9 i k u t e
def E3{P:Program}{w:World}{K:W.Frag}{tg:Expr}(it d:Addr)(o:Obj)(Z:kJ):Turn P w K tg (Itd d o Z) [it] it (λi h=>h.IsKeyIter it d i Z.length<|epO o) where
 mem:=by simp
 obj:=λi h ⟨D,Q,_,x⟩ b L=>by
  cases ZO.mp L;exact⟨D,Q,λv z=>by rw[x]at z;cases z⟩
 keep:=λi h n ⟨D,Q,r⟩ k=>⟨D,k it (by simp) D Q,r⟩
 item:=by
  intro X y C q l i R s U H E I A G T;subst y C q;obtain⟨c,p,_,g,m,t⟩:=A it (by simp);obtain⟨N,M,B,_⟩:=I.dict_at T.1;have F:=Dj B;rw[F]at G;have u:i<N.length:=by have z:i<Z.length:=T.2;omega
  have f:N[i]?=some (N[i].1,N[i].2):=ZC u;obtain⟨v',j⟩:=K9 i _ _ B f;refine wpAny_pyNext_dict_item G M f λS n J O a=>?_;rw[<-F]at O;exact⟨S,Y,Sj J ⟨_,H,I.turned (t':=s.toks) (λb o L e=>(a.2 b L).trans e) c p g m t,PH J,⟨Y,_,j,Y⟩,O,λb L=>(A b L).1⟩⟩
 done:=by
  intro X y C q l i R s U H E I A G T;subst y C q;obtain⟨c,p,_,g,m,t⟩:=A it (by simp);obtain⟨N,M,B,_⟩:=I.dict_at T.1;have F:=Dj B;rw[F]at G;have u:Z.length=i:=T.2;exact wpAny_pyNext_dict_end (I.ok.hd l) G M (zg.mpr<|by omega) λn eb=>⟨rfl,I.turned (t':=s.toks) (λb o L e=>eb b o L e) c p g m t⟩
 self:=λ_ _ _ _ _ G h=>wpAny_pyIter_keyiter G h
section
def CH(tl:TE):TI:=λU H R=>tl U H λv J=>∃d Z,v=.ref d/\J d=some (.dK Z)/\∀o,R (Itd d o Z)<|upd J d<|.frz o<|.dK Z
def OY(F:PE X l tl):PI X tg l (CH tl):=by
 intro Z s U H R I h;refine thn (F Z s U H _ I h) λv L ⟨y,S,O,B,d,G,e,N,q⟩=>?_;subst e;cases B;obtain⟨o,D⟩:=(show VN X.prog X.w S L.heap d (.dK G)from O.hok d _ N).dk_ex;have J:=O.freeze N D;obtain⟨C,M,T,E⟩:=J.dict_at YZ;refine wpAny_pyIter_dict E M ?_;rw[<-Dj T];refine⟨_,[L.heap.objs.size],_,_,_,Y,J.kept (t':=L.toks) λb o e=>ZD _ e,E3 _ d o G,⟨_,ZW _ Y,Y,Y⟩,λb A=>?_,q o⟩;cases ZO.mp A;exact J.fpOk (ZF _)<|J.hok.fresh<|ZF _
def Jf{Z:Stmt}:PS X Z (λ_ _ _=>False):=λ_ _ _ _ _ _ h=>h.elim
end
end L2
namespace L2
open PySem
inductive Bd where
 |tag (t:Str)|name (x:Str)|pair (a b:Bd)|one (e:Bd)|other (e:Bd)
 |choose (e:Bd) (ts:List Str) (bs:List Bd)|ask (f:Str) (as:List Bd)|letb (x k:Str) (e b:Bd)
mutual
def Bd.dat:Bd->Dat
 |.tag t=>.tup [.str "tag",.str t]
 |.name x=>.tup [.str "name",.str x]
 |.pair a b=>.tup [.str "pair",a.dat,b.dat]
 |.one e=>.tup [.str "one",e.dat]
 |.other e=>.tup [.str "other",e.dat]
 |.choose e ts bs=>.tup [.str "choose",e.dat,.tup (Bd.brs bs ts)]
 |.ask f as=>.tup [.str "ask",.str f,.tup (Bd.dats as)]
 |.letb x k e b=>.tup [.str "let",.str x,.str k,e.dat,b.dat]
def Bd.dats:List Bd->List Dat
 |[]=>[]
 |b::bs=>b.dat::Bd.dats bs
def Bd.brs:List Bd->List Str->List Dat
 |[],_=>[]
 |b::bs,t::ts=>.tup [.str t,b.dat]::Bd.brs bs ts
 |_::_,[]=>[]
end
def Bd.parts:Bd->List Bd
 |.tag _=>[]
 |.name _=>[]
 |.pair a b=>[a,b]
 |.one e=>[e]
 |.other e=>[e]
 |.choose e _ bs=>e::bs
 |.ask _ as=>as
 |.letb _ _ e b=>[e,b]
end L2
namespace L2
open PySem PySem.W PyProof.Rows
end L2
namespace L2
open PySem PySem.Spec PyProof.Rows
def Lc:typeLookup (.type "tuple") (Str.ofString "keys")=pure none:=am_miss_of_fast<|by decide +kernel
section
def Ld(D:GG s.heap a G)(C:A.handled=none)(h:∀L M,(∀b o,s.heap.get? b=some o->L.get? b=some o)->Q none {s with heap:=L,toks:=M}):
  wpAny (model prog w) A (getAttr? (.ref a)<|Str.ofString "keys") Q E s:=by
 obtain⟨⟨c,y,z,sl⟩,N,O,R,k,hdat⟩:=D;simp only at R hdat O;subst R hdat O;obtain⟨X,P,j,M,I⟩:=s;have Z:=F.slot_tuple_getattribute;have U:=Z.lookup;have q:=Z.bind<|.ref a;have S:=am_tuple_getattr_none;have t:=sub_AttributeError;have T:∀n,(Shared.mk X P j n I).TypeIs (.ref a) "tuple":=λn=>⟨_,N,rfl⟩;simp only[getAttr?,getAttrBy?,getAttrBy]
 repeat (any_goals (first|assumption|exact T _|((with_reducible show wpAny _ _ (call (Value.builtin "tuple.__getattribute__") _ _) _ _ _);refine vp F.slot_tuple_getattribute (T _) am_entry_tuple_getattribute (F.args_tuple_getattribute_2 _ _) (meets_getattribute_miss_tuple a G k sl (Str.ofString "keys") _ Lc (by decide +kernel)<|by size_fits) ⟨N,C,λL B e J=>?_⟩)|wp_step))
 have there:=J.there;obtain⟨_,_,m⟩:=there;refine(?_:wpAny _ _ (getattributeRaised _ _ _ _ _ _ _) _ _ _);simp only[getattributeRaised]
 repeat any_goals first|assumption|wp_step
 exact h _ _ J.keeps
end
section
def W9(hc:X.calm=true):Jr X (.type "dict") (λxs H Q=>∃(p:Addr)(L:kF)(Z:kJ),xs=[.ref p]/\H p=some (.tup<|L.map V.ref)/\Eu X.K H L Z/\(Z.map (·.1)).Nodup/\∀l,H l=none->Q (.ref l) (upd H l<|.dK Z)):=by
 intro J2 s U H xs us Q I r h;obtain⟨p,L,Z,rfl,x,C,hn,q⟩:=h;obtain⟨u,rfl,c⟩:=vals1 r;cases c;obtain⟨w,G,r',d⟩:=(show VN X.prog X.w H s.heap p (.tup<|L.map V.ref)from I.hok p _ x);rw[ZA]at w
 have j:G.length=L.length:=by
  have:=r'.length;rw[ZA]at this;exact this.symm
 have Z9:∀(i:Nat)(a:Addr),L[i]?=some a->G[i]?=some (Value.ref a):=λi a e=>by
  obtain⟨u,hu,c⟩:=r'.get (show(L.map V.ref)[i]?=some (V.ref a) by rw[ZG,e];rfl);rw[hu,show u=Value.ref a from c]
 obtain⟨vs,M,n⟩:=Te s.heap L Z C.1 λi a k y e1 e2=>by
  obtain⟨J4,r2,p2,_⟩:=I.tuple<|C.2 i a k y e1 e2
  cases r2 with
  |cons r1 t1=>
   cases t1 with
   |cons r3 t3=>
    cases t3;exact⟨_,_,p2,r1,r3⟩
 have Z8:vs.length=G.toArray.size:=by rw[ZM,j,C.1,<-M.length]
 have B:vs.map (·.1)=Z.map (·.1):=by
  have J1:∀{l:kJ}{m:List (Key×Value)},KV l m->m.map (·.1)=l.map (·.1):=by
   intro l m q
   induction q with
   |nil=>rfl
   |cons x t ih=>rw[ZT,ZT,ih,x.1]
  exact J1 M
 have S:p<s.heap.objs.size:=by
  obtain⟨o,e,_⟩:=d;exact ZN e
 refine callType_codes (Q₁:=λob t=>ob=.ref s.heap.objs.size/\t={s with heap:=s.heap.push {cls:=.type "dict",data:=.dict #[]}}) F.kt_called_dict (F.kt_typeCall_dict_1 _) F.entry_dict_init (kt_code_dict_new _ ⟨Y,Y⟩) λob t g=>?_;obtain⟨rfl,rfl⟩:=g;have J:(s.heap.push {cls:=.type "dict",data:=.dict #[]}).DictOf (VC X.prog X.w) s.heap.objs.size []:=Heap.DictOf.new s.heap;have k0:∀b o,s.heap.get? b=some o->(s.heap.push {cls:=.type "dict",data:=.dict #[]}).get? b=some o:=λb o e=>ZD _ e;refine And.intro J.typeIs<|And.intro (F.args_dict_init_2 _ _) ?_;delta Builtin.«dict.__init__» Builtin.Dict.selfAndRest;refine Zj<|Zj<|wpAny_notOrdered_dict J.typeIs<|Zk (?_:wpAny _ _ (Builtin.Dict.updateFrom "dict.__init__" s.heap.objs.size (.ref p) [] .none) _ _ _);delta Builtin.Dict.updateFrom;have R:=d.keeps k0;refine Zj<|jg (T:="tuple") (show Shared.TypeIs _ _ _ from let⟨o,O,_,h2,_⟩:=R;⟨o,O,h2⟩) ?_;rw[Zn (by decide)];refine Zj<|Ld R (I.ok.hd hc) λO J5 N=>?_;simp only[Option.isNone_none,if_true];refine Zj<|vZ ?_;refine Zj<|wpAny_pyIter_tuple (show Heap.IsTuple _ _ _ from(R.keeps N).is) ?_
 have z:s.heap.objs.size<O.objs.size:=by
  obtain⟨o,es,ep,ho,_⟩:=J;exact ZN<|N _ _ ho
 have f:∀b o,s.heap.get? b=some o->(O.push {cls:=.type "tuple_iterator",data:=.fields #[.ref p,.int 0 0]}).get? b=some o:=λb o e=>ZD _<|N b o<|k0 b o e;refine Zk ⟨plainId_quiet XZ _,Ee (Walks.tuple (A:=X.A.in1.in1) (I.ok.hd hc) O.objs.size p (Zc<|Nat.lt_trans S z) G.toArray) (h₀:=s.heap) (vs:=vs) Z8 (by rw[<-M.length,<-C.1];exact w) (by rw[B];exact hn) ?_ s.heap.objs.size ?_ ?_ .none _ 0 _ 0 0 rfl (Za _) ?_ ?_ f ?_⟩
 .intro i v hv
  have hi:i<G.length:=by
   have:=(yT.mp hv).1
   rwa [ZM]at this
  have g:i<L.length:=by omega
  obtain⟨k,ku,vu,e1,e2,e3⟩:=n i L[i]<|ZC g;refine⟨L[i],k,ku,vu,?_,e1,e2,WW e3⟩;have:=Z9 i L[i]<|ZC g;have E:G[i]?=some v:=by simpa using hv
  rw[this]at E;exact(ZP E).symm
 .intro P
  have two:s.heap.objs.size=O.objs.size\/s.heap.objs.size=p:=by simpa using P
  rcases two with e|e
  .exact Zp e (Zc z)
  .exact Zp e (yh S)
 .intro b o e
  have D:=ZN e;refine⟨λP=>?_,Zc D⟩;have e':b=O.objs.size:=by simpa using P
  rw[e']at D;exact Zp z<|v8 D
 .exact ⟨⟨_,ZW _ rfl,rfl,rfl⟩,(show Heap.IsTuple _ _ _ from(d.keeps f).is)⟩
 .obtain ⟨o,es,ep,ho,rest⟩:=J
  exact⟨o,es,ep,ZD _<|N _ _ ho,rest⟩
 .intro h' tk hd' hk'
  refine⟨Y,.ref s.heap.objs.size,_,I.laid (a:=s.heap.objs.size) (o:=.dK Z) (λb o e=>?_) (ZF _)<|My (by rw[<-C.1];exact w) (beq_eq_false_iff_ne.mpr<|Zq<|Zc I.big) M hd',rfl,q _<|I.hok.fresh<|ZF _⟩;have D:=ZN e;refine hk' b o (λP=>?_) (Zc D)<|f b o e;have e':b=O.objs.size:=by simpa using P
  rw[e']at D;exact Zp z<|v8 D
end
end L2
namespace L2
open PySem
def Y5(h:Has H v (.tup J)):∃p Z,v=.ref p/\H p=some (.tup Z)/\HasL H Z J:=by unfold Has at h;exact h
def Yx(h:H p=some (.tup xs))(t:HasL H xs Z):Has H (.ref p) (.tup Z):=by unfold Has;exact⟨p,xs,Y,h,t⟩
def has_str(h:Has H v (.str x)):v=.str x:=by unfold Has at h;exact h
def Yz:Has H (.str x) (.str x):=by unfold Has;rfl
def Yh(h:HasL H Z (d::J)):∃x r,Z=x::r/\Has H x d/\HasL H r J:=by
 match Z,h with
 |[],h=>unfold HasL at h;exact h.elim
 |x::r,h=>unfold HasL at h;exact⟨x,r,Y,h.1,h.2⟩
def VS(h:HasL H Z []):Z=[]:=by
 match Z,h with
 |[],_=>rfl
 |_::_,h=>unfold HasL at h;exact h.elim
theorem Bd.dats_map:∀Z:List Bd,Bd.dats Z=Z.map Bd.dat
 |[]=>by unfold Bd.dats;rfl
 |b::Z=>by unfold Bd.dats;rw[Bd.dats_map Z];rfl
abbrev Z7:=@Bd.dats_map
theorem Bd.brs_len:∀{bs:List Bd}{ts:ky},bs.length=ts.length->(Bd.brs bs ts).length=ts.length
 |[],[],_=>by unfold Bd.brs;rfl
 |[],_::_,e=>by simp at e
 |_::_,[],e=>by simp at e
 |b::bs,t::ts,e=>by
  unfold Bd.brs;rw[Zd,Bd.brs_len<|by simpa using e,Zd]
theorem Bd.brs_get:∀{bs:List Bd}{ts:ky}{j:Nat}{d:Dat},(Bd.brs bs ts)[j]?=some d->∃b t,bs[j]?=some b/\ts[j]?=some t/\d=.tup [.str t,b.dat]
 |[],ts,j,d,e=>by unfold Bd.brs at e;simp at e
 |_::_,[],j,d,e=>by unfold Bd.brs at e;simp at e
 |b::bs,t::ts,0,d,e=>by
  unfold Bd.brs at e;have Z:some _=some d:=e;cases Z;exact⟨b,t,Y,Y,Y⟩
 |b::bs,t::ts,j+1,d,e=>by
  unfold Bd.brs at e;exact Bd.brs_get (bs:=bs) (ts:=ts) (j:=j) e
mutual
def Bd.ok:Bd->Prop
 |.tag _=>True
 |.name _=>True
 |.pair a b=>a.ok/\b.ok
 |.one e=>e.ok
 |.other e=>e.ok
 |.choose e ts bs=>e.ok/\bs.length=ts.length/\(1<=ts.length/\ts.length<=7)/\Bd.oks bs
 |.ask _ as=>as.length<=6/\Bd.oks as
 |.letb _ _ e b=>e.ok/\b.ok
def Bd.oks:List Bd->Prop
 |[]=>True
 |b::bs=>b.ok/\Bd.oks bs
end
theorem Bd.oks_mem:∀{Z:List Bd}{b:Bd},Bd.oks Z->b∈Z->b.ok
 |[],_,_,h=>nomatch h
 |c::Z,b,w,h=>by
  unfold Bd.oks at w;rcases Zb.mp h with rfl|h
  .exact w.1
  .exact Bd.oks_mem w.2 h
def Bd.ok_parts{b:Bd}(h:b.ok):∀c∈b.parts,c.ok:=by
 intro c Z
 cases b with
 |tag t=>cases Z
 |name x=>cases Z
 |pair a e=>
  unfold Bd.ok at h;simp only[Bd.parts,Zb,jH,or_false]at Z;rcases Z with rfl|rfl
  .exact h.1
  .exact h.2
 |one e=>unfold Bd.ok at h;simp only[Bd.parts,ZO]at Z;rw[Z];exact h
 |other e=>unfold Bd.ok at h;simp only[Bd.parts,ZO]at Z;rw[Z];exact h
 |choose e J G=>
  unfold Bd.ok at h;simp only[Bd.parts,Zb]at Z;rcases Z with rfl|Z
  .exact h.1
  .exact Bd.oks_mem h.2.2.2 Z
 |ask f L=>unfold Bd.ok at h;exact Bd.oks_mem h.2 Z
 |letb x k e g=>
  unfold Bd.ok at h;simp only[Bd.parts,Zb,jH,or_false]at Z;rcases Z with rfl|rfl
  .exact h.1
  .exact h.2
def Bd.few{b:Bd}(h:b.ok):b.parts.length<=8:=by
 cases b <;> (try (simp[Bd.parts];done)) <;> (unfold Bd.ok at h;simp only[Bd.parts,Zd,List.length_nil];omega)
end L2
namespace K4
open PySem L2
def ED:Yq ["body","word"] ["body"] (Yb Bk):=Y6
def Pz:List.Nodup [("tag":Str),"branch"]:=by decide +kernel
section
def Gh:Sp:=λJ H Q _=>∃(v:V)(b:Bd),J=[v]/\Has H v b.dat/\b.ok/\∀u Z,Same H Z->Has Z u (.tup<|Bd.dats b.parts)->Q u Z
def ok_parts(B:Blt mg)(F:Fun K "parts" "parts" Bk f fd):Ym P w K mg base CX0 (n+1) f fd ["body"] Gh:=by
 refine F.oq ED λM2 A J1 s H I Q E hr h=>?_;obtain⟨v,b,rfl,O,ok,q⟩:=h;refine⟨_,YW (Yp 1 ED.nd<|Yf Yl (pv 0) YX)
  (YW (Y2 (Yn Uo (pv 1) (Yv<|pa2 Y3 Y3)<|by rfl) (YY<|Ys<|Yv VR) Yr)
  (YW (Y2 (Yn Vk (pv 1) Y3<|Yu _) (YY (Ys (Y4 WU (Yv<|pa1<|Yf Yl (pv 0) YX) (VM V0 rfl B.tuple JR (pa1 (Vq ["tag","branch"] [] (Js<|Yf Yl (pv 0) YX) WA (λcl C fp s H=>VI (n:=2) rfl (Yj (Yd 0 Pz rfl (Or.inl rfl) (Or.inr rfl))<|Yj (Yd 1 Pz rfl (Or.inl rfl) (Or.inr rfl)) Y7))
     (λcl C fp s H=>pv 1))))))) Yr)
  (YW (Y2 (Yn Vk (pv 1) Y3<|Yu _) (YY<|Ys<|Yf Yl (pv 0) YX) Yr)
  (YW (Y2 (Yn Vk (pv 1) Y3<|Yu _) (YY<|Ys<|JO Bb (pv 0) (Jk YX) Jl) Yr)
  (YY<|Ys<|JO Bb (pv 0) (Jk YX) Jl))))),?_⟩
 show let a:=_;let b:=_;let c:=Yg (Y9 _ b _) a;let d:=_;let e:=Yg (Y9 _ d _) c;let f:=_;let g:=Yg (Y9 _ f _) e;let h:=_;let i:=Yg (Y9 _ h _) g;Yg _ i _ _ _
 intros
 cases b with
 |tag t=>
  unfold Bd.dat at O;obtain⟨p,xs,rfl,M,T⟩:=Y5 O;obtain⟨r,m,rfl,D,G⟩:=Yh T;obtain rfl:=has_str D;exists _,_,Z0 M,Ya (j:=0) Y;refine⟨sl 2,λN J=>?_⟩;refine⟨N,_,Y,.inr<|Z0 YZ,rfl,rfl,_,rfl,VH (by decide +kernel) ?_⟩;exact⟨sl 0,λu Z=>q _ _ ((Ye J _).trans<|Ye Z _)<|Yx YZ (by simp only[Bd.parts,Bd.dats];exact Z4)⟩
 |name x=>
  unfold Bd.dat at O;obtain⟨p,xs,rfl,M,T⟩:=Y5 O;obtain⟨r,m,rfl,D,G⟩:=Yh T;obtain rfl:=has_str D;exists _,_,Z0 M,Ya (j:=0) Y;refine⟨sl 2,λN J=>?_⟩;refine⟨N,_,Y,.inr<|Z0 YZ,rfl,rfl,_,rfl,VH (by decide +kernel) ?_⟩;exact⟨sl 0,λu Z=>q _ _ ((Ye J _).trans<|Ye Z _)<|Yx YZ (by simp only[Bd.parts,Bd.dats];exact Z4)⟩
 |pair a e=>
  unfold Bd.dat at O;obtain⟨p,xs,rfl,M,T⟩:=Y5 O;obtain⟨r,m,rfl,D,G⟩:=Yh T;obtain rfl:=has_str D;exists _,_,Z0 M,Ya (j:=0) Y;refine⟨sl 2,λN J=>?_⟩;have L:=Ye J<|.tup [V.str "tag",V.str "name"];refine⟨N,_,Y,.inr<|Z0 YZ,rfl,rfl,_,rfl,Y0 (by decide +kernel) ?_⟩;refine⟨Y,_,Y,Y0 (by decide +kernel) ?_⟩;refine⟨Y,_,Y,Y0 (by decide +kernel) ?_⟩;refine⟨Y,_,Y,Y0 (by decide +kernel) ?_⟩;refine⟨1,Y,p,_,Y,Z0<|L _ _ M,by simp[HT.sIx],λu Z=>q _ _ (L.trans<|Ye Z _)<|Yx (xs:=m) (by rw[YZ];simp[U4,HT.sIx]) ?_⟩;exact(G.mono L).mono<|Ye Z _
 |one e=>
  unfold Bd.dat at O;obtain⟨p,xs,rfl,M,T⟩:=Y5 O;obtain⟨r,m,rfl,D,G⟩:=Yh T;obtain rfl:=has_str D;exists _,_,Z0 M,Ya (j:=0) Y;refine⟨sl 2,λN J=>?_⟩;have L:=Ye J<|.tup [V.str "tag",V.str "name"];refine⟨N,_,Y,.inr<|Z0 YZ,rfl,rfl,_,rfl,Y0 (by decide +kernel) ?_⟩;refine⟨Y,_,Y,Y0 (by decide +kernel) ?_⟩;refine⟨Y,_,Y,Y0 (by decide +kernel) ?_⟩;refine⟨Y,_,Y,Y0 (by decide +kernel) ?_⟩;refine⟨1,Y,p,_,Y,Z0<|L _ _ M,by simp[HT.sIx],λu Z=>q _ _ (L.trans<|Ye Z _)<|Yx (xs:=m) (by rw[YZ];simp[U4,HT.sIx]) ?_⟩;exact(G.mono L).mono<|Ye Z _
 |other e=>
  unfold Bd.dat at O;obtain⟨p,xs,rfl,M,T⟩:=Y5 O;obtain⟨r,m,rfl,D,G⟩:=Yh T;obtain rfl:=has_str D;exists _,_,Z0 M,Ya (j:=0) Y;refine⟨sl 2,λN J=>?_⟩;have L:=Ye J<|.tup [V.str "tag",V.str "name"];refine⟨N,_,Y,.inr<|Z0 YZ,rfl,rfl,_,rfl,Y0 (by decide +kernel) ?_⟩;refine⟨Y,_,Y,Y0 (by decide +kernel) ?_⟩;refine⟨Y,_,Y,Y0 (by decide +kernel) ?_⟩;refine⟨Y,_,Y,Y0 (by decide +kernel) ?_⟩;refine⟨1,Y,p,_,Y,Z0<|L _ _ M,by simp[HT.sIx],λu Z=>q _ _ (L.trans<|Ye Z _)<|Yx (xs:=m) (by rw[YZ];simp[U4,HT.sIx]) ?_⟩;exact(G.mono L).mono<|Ye Z _
 |choose e ts bs=>
  unfold Bd.dat at O;obtain⟨p,xs,rfl,M,T⟩:=Y5 O;obtain⟨r,m,rfl,D,G⟩:=Yh T;obtain rfl:=has_str D;obtain⟨o,r2,rfl,h2,X⟩:=Yh G;obtain⟨x3,r3,rfl,h3,U⟩:=Yh X;obtain rfl:=VS U;obtain⟨pz,zs,rfl,Z9,Z8⟩:=Y5 h3;unfold Bd.ok at ok;obtain⟨o1,o2,o3,o4⟩:=ok;have lz:=Z8.length;rw[Bd.brs_len o2]at lz;exists _,_,Z0 M,Ya (j:=0) Y;refine⟨sl 2,λN J=>?_⟩;have L:=Ye J<|.tup [V.str "tag",V.str "name"];refine⟨N,_,Y,.inr<|Z0 YZ,rfl,rfl,_,rfl,Y0 (by decide +kernel) ?_⟩;refine⟨Y,_,Y,VH (by decide +kernel) ?_⟩;refine⟨_,_,Z0<|L _ _ M,rfl,sl 1,λu Z=>?_⟩;have s2:=Ye Z<|.tup [o];have sA:=L.trans s2;exists _,_,Z0<|sA _ _ M,rfl,⟨_,Z0<|sA _ _ Z9⟩;have S:=sA _ _ Z9;refine Vu zs.length (Yi<|by omega) (λj I H'=>H'=upd (upd H N<|.tup [V.str "tag",V.str "name"]) u (.tup [o])/\I.length=j/\HasL H I ((bs.map Bd.dat).take j)) ⟨rfl,rfl,Z4⟩ (λj I H' z=>z.2.1) ?_ ?_ ?_ ?_
  .rintro j I H' hj ⟨rfl,_⟩
   exact⟨zs,zs[j],Z0 S,by simp[hj]⟩
  .rintro I H' ⟨rfl,_⟩
   exact⟨zs,Z0 S,ZF _⟩
  .rintro j I H' x H3 R hj ⟨rfl,z2,z3⟩ yl hR
   obtain⟨rfl,y⟩:=yl;obtain⟨d,hd,G1⟩:=Z8.get<|y zs<|Z0 S;obtain⟨b,t0,G5,L1,rfl⟩:=Bd.brs_get hd;obtain⟨pp,ys,rfl,G2,J2⟩:=Y5 G1;obtain⟨y1,r4,rfl,h4,J5⟩:=Yh J2;obtain⟨y2,r5,rfl,h5,J4⟩:=Yh J5;obtain rfl:=VS J4;exists _,Z0<|sA _ _ G2,rfl;refine hR _ _ ⟨Y,by rw[ZJ,z2];rfl,?_⟩;rw[jB,ZG,G5];exact Z5 z3<|Z3 h5
  .rintro I H' l ⟨rfl,z2,z3⟩ hl3
   have s3:=Ye hl3<|.lst I;refine⟨l,_,Y,.inl ⟨Z1 YZ,λl4 G4=>?_⟩⟩;have s4:=Ye G4<|.tup I;have sB:=(sA.trans s3).trans s4;rw[Ze (by rw[ZA];omega)]at z3;have e1:Bd.dats (Bd.choose e ts bs).parts=e.dat::bs.map Bd.dat:=by rw[Z7];rfl
   refine⟨u,l4,[o],I,Y,Y,Z0<|s4 _ _<|s3 _ _ YZ,Z0 YZ,by simp,Zf (Yi (by simp only[ze];omega)),λe0=>?_,λ_ p5 G3=>?_⟩
   .refine q _ _ sB ?_
    rw[e1];subst e0
    have hb:bs=[]:=by
     have:=z3.length;simpa using this.symm
    rw[hb];exact Yx (s4 _ _<|s3 _ _ YZ)<|Z3<|h2.mono sB
   .have s5:=Ye G3<|.tup<|[o]++ I
    refine q _ _ (sB.trans s5) ?_;rw[e1];exact Yx YZ<|Z2 (h2.mono<|sB.trans s5)<|z3.mono<|sB.trans s5
 |ask g as=>
  unfold Bd.dat at O;obtain⟨p,xs,rfl,M,T⟩:=Y5 O;obtain⟨r,m,rfl,D,G⟩:=Yh T;obtain rfl:=has_str D;obtain⟨o,r2,rfl,h2,X⟩:=Yh G;obtain⟨x3,r3,rfl,h3,U⟩:=Yh X;exists _,_,Z0 M,Ya (j:=0) Y;refine⟨sl 2,λN J=>?_⟩;have L:=Ye J<|.tup [V.str "tag",V.str "name"];refine⟨N,_,Y,.inr<|Z0 YZ,rfl,rfl,_,rfl,Y0 (by decide +kernel) ?_⟩;refine⟨Y,_,Y,Y0 (by decide +kernel) ?_⟩;refine⟨Y,_,Y,VH (by decide +kernel) ?_⟩;exact⟨_,_,Z0<|L _ _ M,Ya (j:=2) rfl,q _ _ L<|h3.mono L⟩
 |letb x k e g=>
  unfold Bd.dat at O;obtain⟨p,xs,rfl,M,T⟩:=Y5 O;obtain⟨r,m,rfl,D,G⟩:=Yh T;obtain rfl:=has_str D;obtain⟨o,r2,rfl,h2,X⟩:=Yh G;obtain⟨x3,r3,rfl,h3,U⟩:=Yh X;have lr:=U.length;exists _,_,Z0 M,Ya (j:=0) Y;refine⟨sl 2,λN J=>?_⟩;have L:=Ye J<|.tup [V.str "tag",V.str "name"];refine⟨N,_,Y,.inr<|Z0 YZ,rfl,rfl,_,rfl,Y0 (by decide +kernel) ?_⟩;refine⟨Y,_,Y,Y0 (by decide +kernel) ?_⟩;refine⟨Y,_,Y,Y0 (by decide +kernel) ?_⟩;refine⟨Y,_,Y,VH (by decide +kernel) ?_⟩;refine⟨3,Y,p,_,Y,Z0<|L _ _ M,by simp[HT.sIx],λu Z=>q _ _ (L.trans<|Ye Z _)<|Yx (xs:=r3) (by rw[YZ];simp[U4,HT.sIx]) ?_⟩;exact(U.mono L).mono<|Ye Z _
end
end K4
namespace L2
open PySem
end L2
namespace K4
open PySem L2
end K4
namespace L2
open PySem PySem.Spec PyProof.Rows
section
def PL{Z:kE}(r:Vals (Z.map V.int) G){i:Nat}(e:G[i]?=some v):∃t,v=.int (Z.getD i 0) t:=by
 have M:=(ZE.mp e).1;have l:=r.length;rw[ZA]at l;have J:i<Z.length:=by omega
 obtain⟨u,L,t,rfl⟩:=r.get (show(Z.map V.int)[i]?=some (V.int Z[i]) by rw[ZG,ZC J];rfl);rw[L]at e;cases e;exact⟨t,by rw[zj,ZC J];rfl⟩
def Fg(S:X.calm=true):Jr X (.builtin "sum") (λO H Q=>∃(p:Addr)(J:kE),O=[.ref p]/\SqL X.K H p (J.map V.int)/\PyProof.Rows.SumFits J/\Q (.int J.sum) H):=by
 intro T s U H O P Q I r h;obtain⟨p,J,rfl,E,N,q⟩:=h;obtain⟨u,rfl,D⟩:=vals1 r;cases D;obtain⟨G,R,L,y⟩:=I.list E
 have B:p<s.heap.objs.size:=by
  obtain⟨o,n,e,_⟩:=L;exact ZN e
 have Z:G.length=J.length:=by
  have:=R.length;rw[ZA]at this;exact this.symm
 refine call_sum_walk<|yY L.isList ?_;exists s.heap.objs.size,_,_,G.toArray.size,_,_,λi=>J.getD i 0,Y,Walks.list (A:=X.A.in1) (I.ok.hd S) _ p (Zc B) G.toArray,?_,?_,?_,?_
 .exact ⟨⟨_,ZW _ rfl,rfl,rfl⟩,L.isList.push _⟩
 .intro b hb
  have e:b=s.heap.objs.size\/b=p:=by simpa using hb
  have M:∀o:Obj,(s.heap.push o).objs.size=s.heap.objs.size+1:=λo=>yj _ _;show b<(s.heap.push _).objs.size;rw[M];rcases e with e|e
  .rw [e];exact yV _
  .rw [e];exact Nat.lt_succ_of_lt B
 .intro i v hv
  exact PL R<|by simpa using hv
 .intro j hj
  rw[ZM,Z]at hj;rw[preSum_getD];exact N j hj
 .intro h' tk t' hk
  rw[ZM,Z,preSum_getD,yJ];refine⟨.int J.sum,H,I.kept λb o e=>hk b o (λF=>?_)<|ZD _ e,⟨t',rfl⟩,q⟩;have C:b=s.heap.objs.size:=by simpa using F
  rw[C]at e;exact zX _<|ZN e
end
mutual
def Bd.dep:Bd->Nat
 |.tag _=>0
 |.name _=>0
 |.pair a b=>1+max a.dep b.dep
 |.one e=>1+e.dep
 |.other e=>1+e.dep
 |.choose e _ bs=>1+max e.dep (Bd.deps bs)
 |.ask _ as=>1+Bd.deps as
 |.letb _ _ e b=>1+max e.dep b.dep
def Bd.deps:List Bd->Nat
 |[]=>0
 |b::bs=>max b.dep<|Bd.deps bs
end
theorem Bd.deps_mem:∀{Z:List Bd}{b:Bd},b∈Z->b.dep<=Bd.deps Z
 |[],_,h=>nomatch h
 |c::Z,b,h=>by
  unfold Bd.deps;rcases Zb.mp h with rfl|h
  .exact yA _ _
  .exact ZZ (Bd.deps_mem h) (yr _ _)
def Bd.dep_mem{b c:Bd}(h:c∈b.parts):c.dep<b.dep:=by
 have Z:=Bd.deps_mem h;cases b <;> simp only[Bd.parts,Bd.deps,Bd.dep,jH]at * <;> first|exact h.elim|omega
end L2
namespace K4
open PySem L2
def Fk:bootBuiltins "sum"=some (.builtin "sum"):=by decide +kernel
end K4
namespace L2
open PySem
def MN(J:(Z.map (·.1)).Nodup)(h:(y,s)∈Z):VX Z y=some s:=by
 induction Z with
 |nil=>simp at h
 |cons k Z ih=>
  rw[ZT,zW]at J;unfold VX;rw[zo];rcases Zb.mp h with e|e
  .subst e;simp
  .have ne:¬k.1=y:=λq=>J.1 (by rw[q];exact ZU.mpr ⟨_,e,Y⟩)
   rw[Zw ne];exact ih J.2 e
abbrev Hds:=Str->Option (List (Str×Str)×Str)
inductive Kd(ks:List (Str×Shp))(hd:Hds):List (Key×V)->Str->Bd->Prop
 |tag {g:List (Key×V)}{y t:Str}{ts:List Str}:VX ks y=some (.tags ts)->t∈ts->Kd ks hd g y (.tag t)
 |name {g:List (Key×V)}{y x:Str}:VD g (Sum.inr x)=some (.str y)->Kd ks hd g y (.name x)
 |pair {g:List (Key×V)}{y a b:Str}{A B:Bd}:VX ks y=some (.pair a b)->Kd ks hd g a A->Kd ks hd g b B->Kd ks hd g y (.pair A B)
 |one {g:List (Key×V)}{y z b:Str}{e:Bd}:VX ks z=some (.pair y b)->Kd ks hd g z e->Kd ks hd g y (.one e)
 |other {g:List (Key×V)}{y z a:Str}{e:Bd}:VX ks z=some (.pair a y)->Kd ks hd g z e->Kd ks hd g y (.other e)
 |choose {g:List (Key×V)}{y z:Str}{ts:List Str}{e:Bd}{bs:List Bd}:VX ks z=some (.tags ts)->Kd ks hd g z e->bs.length=ts.length->(∀b∈bs,Kd ks hd g y b)->Kd ks hd g y (.choose e ts bs)
 |ask {g:List (Key×V)}{y f:Str}{ps:List (Str×Str)}{as:List Bd}:hd f=some (ps,y)->as.length=ps.length->(∀(i:Nat)(a:Bd)(p:Str×Str),as[i]?=some a->ps[i]?=some p->Kd ks hd g p.2 a)->Kd ks hd g y (.ask f as)
 |letb {g:List (Key×V)}{y x z:Str}{e b:Bd}:VD g (Sum.inr x)=none->z∈ks.map (·.1)->Kd ks hd (putK g (Sum.inr x) (.str z)) z e->Kd ks hd (putK g (Sum.inr x) (.str z)) y b->Kd ks hd g y (.letb x z e b)
def hdD(ps:List (Str×Str))(k:Str):Dat:=.tup [.tup (ps.map λp=>.tup [.str p.1,.str p.2]),.str k]
def Sh(Z:List (Str×Str))(k:Str):(hdD Z k).st=true:=by
 have:∀Z:List (Str×Str),Dat.sts (Z.map λp=>Dat.tup [.str p.1,.str p.2])=true:=by
  intro Z
  induction Z with
  |nil=>unfold List.map Dat.sts;rfl
  |cons p Z ih=>rw[ZT];unfold Dat.sts;rw[ih];simp[Dat.st,Dat.sts]
 simp[hdD,Dat.st,Dat.sts,this]
theorem Em:∀{Z:List Bd}{J:ky},Dat.sts (Bd.dats Z)=true->Dat.sts (Bd.brs Z J)=true
 |[],_,_=>by unfold Bd.brs Dat.sts;rfl
 |b::Z,[],_=>by unfold Bd.brs Dat.sts;rfl
 |b::Z,t::J,h=>by
  unfold Bd.dats Dat.sts at h;rw[ZX]at h;unfold Bd.brs Dat.sts;rw[Em h.2];simp[Dat.st,Dat.sts,h.1]
mutual
theorem Bd.st:∀b:Bd,b.dat.st=true
 |.tag t=>by simp[Bd.dat,Dat.st,Dat.sts]
 |.name t=>by simp[Bd.dat,Dat.st,Dat.sts]
 |.pair a b=>by simp[Bd.dat,Dat.st,Dat.sts,Bd.st a,Bd.st b]
 |.one a=>by simp[Bd.dat,Dat.st,Dat.sts,Bd.st a]
 |.other a=>by simp[Bd.dat,Dat.st,Dat.sts,Bd.st a]
 |.choose e G Z=>by simp[Bd.dat,Dat.st,Dat.sts,Bd.st e,Em (Bd.sts Z)]
 |.ask f J=>by simp[Bd.dat,Dat.st,Dat.sts,Bd.sts J]
 |.letb x k e b=>by simp[Bd.dat,Dat.st,Dat.sts,Bd.st e,Bd.st b]
theorem Bd.sts:∀Z:List Bd,Dat.sts (Bd.dats Z)=true
 |[]=>by unfold Bd.dats Dat.sts;rfl
 |b::Z=>by unfold Bd.dats Dat.sts;rw[Bd.st b,Bd.sts Z];rfl
end
def Fw{Z:kJ}(h:VD Z k=some v):∃J∈Z,J.1=k/\J.2=v:=by
 unfold VD at h
 cases e:Z.find? (λJ=>decide<|J.1=k)with
 |none=>rw[e]at h;cases h
 |some J=>
  rw[e]at h;exact⟨J,zz e,by simpa using List.find?_some e,ZP h⟩
theorem VT:∀Z:ky,HasL H (Z.map V.str)<|Z.map Dat.str
 |[]=>Z4
 |n::Z=>Z2 Yz<|VT Z
def ST{Z:ky}(h:H a=some (.lst<|Z.map V.str)):Has H (.ref a) (.lst<|Z.map Dat.str):=VB h<|VT Z
def G7(Z:ky):(Dat.lst<|Z.map Dat.str).dep<=1:=by
 have:∀Z:ky,Dat.deps (Z.map Dat.str)=0:=by
  intro Z
  induction Z with
  |nil=>unfold List.map Dat.deps;rfl
  |cons n Z ih=>rw[ZT];unfold Dat.deps;rw[ih];unfold Dat.dep;rfl
 unfold Dat.dep;rw[this];decide
def KE(Z:kP):(Dat.lst Z).pq (.lst [])=Z.isEmpty:=by
 unfold Dat.pq
 cases Z with
 |nil=>unfold Dat.pqs;rfl
 |cons d Z=>unfold Dat.pqs;rfl
def WE(h:H r=some (.tup [.str a,.str b])):Has H (.ref r) (.tup [.str a,.str b]):=Yx h<|Z2 Yz<|Z2 Yz Z4
end L2
namespace K4
open PySem L2
section
variable{P:Program}{w:World}{K:W.Frag}{mg:Str->Option Value}{base:Heap}
def Df(P:Program)(w:World)(K:W.Frag)(mg:Str->Option Value)(base:Heap)(n:Nat)(x:Str)(ps:ky)(sp:Sp):Prop:=
 ∃(g:Addr)(Z:FuncData),mg x=some (.ref g)/\W.keepIn K (.ref g)=true/\Binds K Z ps []/\Ym P w K mg base CX0 n g Z ps sp
def Yy{X:Cx}(D:Df X.prog X.w X.K X.mg X.base k x B M)(N:VW k X.A)(T:PA X (e::Z) t)(O:Gl X x:=by exact Y)(L:(x==("__debug__":Str))=false:=by decide)(R:starEach (e::Z) X.env=(false,eval e X.env)::starEach Z X.env:=by rfl)(J:(backTo pos<|starEach Z X.env).any (·.1)=false:=by rfl):
  PE X (.Call (.Name x p) (e::Z) [] pos) (RT M [] E0 t):=let⟨_,_,m,k,b,G⟩:=D;Xg G N O m k b .nil VQ T L R J
def Df.up(d:Df P w K mg base n x J Z)(h:n<=m):Df P w K mg base m x J Z:=
 let⟨g,O,N,M,L,G⟩:=d;⟨g,O,N,M,L,G.mono h⟩
end
end K4
namespace L2
open PySem
end L2
namespace K4
open PySem L2
end K4
namespace L2
open PySem
def Xl(h:Has H v (.tup [.str a,.str b])):∃t,v=.ref t/\H t=some (.tup [.str a,.str b]):=by
 obtain⟨t,O,rfl,G,L⟩:=Y5 h;obtain⟨T,D,rfl,N,J⟩:=Yh L;obtain⟨R,B,rfl,M,Z⟩:=Yh J;obtain rfl:=VS Z;obtain rfl:=has_str N;obtain rfl:=has_str M;exact⟨t,Y,G⟩
end L2
namespace K4
open PySem L2
end K4
namespace L2
open PySem
def Same.putN(s:Same H0 H)(h:H0 p=none):Same H0 (upd H p o):=λb u e=>by
 rw[Yc (Yk e h)];exact s b u e
end L2
namespace K4
open PySem L2
end K4
namespace L2
open PySem PySem.Spec PyProof.Rows
section
def Dt:Jr X (.type "dict") (λL H Q=>∃a Z,L=[.ref a]/\Rd H a (.dK Z)/\∀l,H l=none->Q (.ref l) (upd H l<|.dK Z)):=by
 intro N s U H L A Q I r h;obtain⟨a,Z,rfl,E,q⟩:=h;obtain⟨u,rfl,T⟩:=vals1 r;cases T;obtain⟨O,B,F,M,D⟩:=Xw I.hok E;have J:=M.length;refine kt_call_dict (knd:=VC X.prog X.w) B D (by rw[<-J];exact O) λS G R=>?_;refine⟨.ref s.heap.objs.size,_,I.laid (a:=s.heap.objs.size) (o:=.dK Z) (λb o e=>?_) (ZF _)<|My O (beq_eq_false_iff_ne.mpr<|Zq<|Zc I.big) M G,rfl,q _<|I.hok.fresh<|ZF _⟩;exact(R.2 b<|Zc<|ZN e).trans<|ZD _ e
end
end L2
namespace L2
open PySem
def Iz{Z:kJ}(h:J∈putK Z k v):J∈Z\/J=(k,v):=by
 unfold putK at h
 split at h
 .obtain ⟨q,hq,e⟩:=ZU.mp h
  by_cases z:q.1=k
  .rw [Zn z]at e;exact .inr<|by rw[<-e,z]
  .rw [Zo z]at e;exact .inl (by rw[<-e];exact hq)
 .rcases ZV.mp h with h|h
  .exact .inl h
  .exact .inr (ZO.mp h)
def Na(Z:kJ)(k:Key)(v:V):(putK Z k v).length<=Z.length+1:=by
 unfold putK
 split
 .rw [ZA];omega
 .rw [ZJ];exact ZF _
end L2
namespace K4
open PySem L2
end K4
namespace L2
open PySem
abbrev Hd:=Str×List (Str×Str)×Str
def WdS(y:Str):Prop:=1<=y.length/\y.length<=8/\∀c∈y.cps.toList,97<=c/\c<97+26
def V7(c:kU)(ps:List (Str×Str)):Nat:=ps.foldl (λr p=>r*c p.2) 1
def X2(c:kU)(Z:List (Str×Str))(p:Str×Str):V7 c (Z++[p])=V7 c Z*c p.2:=by unfold V7;rw[jC];rfl
structure Ge(ns:List Str)(c:Str->Nat)(top:Nat)(h:Hd):Prop where
 len:h.2.1.length<=3
 kin:∀p∈h.2.1,p.2∈ns
 own:h.2.2∈ns
 nd:(h.2.1.map (·.1)).Nodup
 spl:∀p∈h.2.1,WdS p.1
 rows:V7 c h.2.1<=top
def WD{Z:kJ}(h:k∉Z.map (·.1)):VD Z k=none:=by
 unfold VD
 rw[vO.mpr (λJ G=>by
  intro z;exact h<|ZU.mpr ⟨J,G,Zr z⟩)]
 rfl
def Ra{ys:ky}(Z:ys.Nodup)(h:ys[i]?=some y):y∉ys.take i:=by
 have e:=take_snoc h;have s:(ys.take i++[y]).Nodup:=by rw[<-e];exact Z.sublist<|yp _ _
 exact λz=>(yC.mp s).2.2 y z y (ZO.mpr Y) Y
def MA{ys:ky}{m:Nat}(h:(ys.map V.str)[m]?=some v):∃y,ys[m]?=some y/\v=.str y:=by
 rw[ZG]at h
 cases e:ys[m]? with
 |none=>rw[e]at h;cases h
 |some y=>rw[e]at h;exact⟨y,Y,(ZP h).symm⟩
def Wds.wdS(w:Wds 97 ys)(h:y∈ys):WdS y:=⟨(w.len y h).1,(w.len y h).2,w.abc y h⟩
end L2
namespace K4
open PySem L2
end K4
namespace L2
open PySem
theorem KA:∀{G:List (Str×Str)}{Z:kK},HasL H Z (G.map λp=>.tup [.str p.1,.str p.2])->∃(J:kF),Z=J.map V.ref/\Eu K H J (G.map λp=>((Sum.inr p.1:Key),V.str p.2))
 |[],Z,h=>by
  obtain rfl:=VS h;exact⟨[],Y,Y,λi a k y e=>by simp at e⟩
 |q::G,Z,h=>by
  rw[ZT]at h;obtain⟨x,r,rfl,E,D⟩:=Yh h;obtain⟨t,rfl,B⟩:=Xl E;obtain⟨J,rfl,T,R⟩:=KA (K:=K) D;refine⟨t::J,Y,by simp[T],λi b k y O N=>?_⟩
  cases i with
  |zero=>
   have M:some t=some b:=O;have L:some ((Sum.inr q.1:Key),V.str q.2)=some (k,y):=N;cases M;cases L;exact Z0 B
  |succ i=>exact R i b k y O N
abbrev Dd:=Hd×Bd
def Jp(x:Dd):Dat:=.tup [.str x.1.1,.tup<|x.1.2.1.map λp=>.tup [.str p.1,.str p.2],.str x.1.2.2,x.2.dat]
def kvP(ps:List (Str×Str)):kJ:=ps.map λp=>((Sum.inr p.1:Key),V.str p.2)
def Y1(hs:List Hd):Hds:=λf=>(hs.find? λh=>decide<|h.1=f).map (·.2)
def Gp(J:List (Str×Str)):Dat.sts (J.map λp=>Dat.tup [.str p.1,.str p.2])=true:=by
 have:=Sh J "";unfold hdD Dat.st Dat.sts at this;rw[ZX]at this;have Z:=this.1;unfold Dat.st at Z;exact Z
def Jo(x:Dd):(Jp x).st=true:=by
 unfold Jp;simp[Dat.st,Dat.sts,Gp,Bd.st]
def XS(J:(Z.map (·.1)).Nodup)(m:h∈Z):Y1 Z h.1=some h.2:=by
 induction Z with
 |nil=>exact nomatch m
 |cons g Z ih=>
  rw[ZT,zW]at J;unfold Y1;rw[zo];rcases Zb.mp m with e|e
  .subst e;simp
  .have ne:¬g.1=h.1:=λq=>J.1 (by rw[q];exact ZU.mpr ⟨_,e,Y⟩)
   rw[Zw ne];exact ih J.2 e
theorem Ry:∀{Z:kJ},(Z.map (·.1)).Nodup->∀{kv:Key×V},kv∈Z->VD Z kv.1=some kv.2
 |[],_,kv,m=>nomatch m
 |g::Z,nd,kv,m=>by
  rw[ZT,zW]at nd;unfold VD;rw[zo];rcases Zb.mp m with e|e
  .subst e;simp
  .have ne:¬g.1=kv.1:=λq=>nd.1 (by rw[q];exact ZU.mpr ⟨_,e,Y⟩)
   rw[Zw ne];exact Ry nd.2 e
end L2
namespace K4
open PySem L2
section
def Fl:bootBuiltins "min"=some (.builtin "min"):=by decide +kernel
end
end K4
namespace L2
open PySem
def Kr(ks:kQ)(hd:Hds)(kv:kJ)(y:Str):Bd->List Str->Prop
 |.tag t,zs=>zs=[]/\∃ts,VX ks y=some (.tags ts)/\t∈ts
 |.name x,zs=>zs=[]/\VD kv (Sum.inr x)=some (.str y)
 |.pair _ _,zs=>∃a b,zs=[a,b]/\VX ks y=some (.pair a b)
 |.one _,zs=>∃z b,zs=[z]/\VX ks z=some (.pair y b)
 |.other _,zs=>∃z a,zs=[z]/\VX ks z=some (.pair a y)
 |.choose _ ts bs,zs=>∃z,zs=z::List.replicate bs.length y/\VX ks z=some (.tags ts)/\bs.length=ts.length
 |.ask f _,zs=>∃ps:List (Str×Str),hd f=some (ps,y)/\zs=ps.map (·.2)
 |.letb x z _ _,zs=>zs=[z,y]/\VD kv (Sum.inr x)=none/\z∈ks.map (·.1)
def wth(kv:kJ):Bd->List (Key×V)
 |.letb x z _ _=>putK kv (Sum.inr x)<|.str z
 |_=>kv
def Kd.inv(h:Kd T B R y b):
  ∃N,Kr T B R y b N/\N.length=b.parts.length/\∀(i:Nat)(p:Bd)(z:Str),b.parts[i]?=some p->N[i]?=some z->Kd T B (wth R b) z p:=by
 cases h with
 |tag G L=>exact⟨[],⟨Y,_,G,L⟩,Y,λi p z e=>nomatch e⟩
 |name G=>exact⟨[],⟨Y,G⟩,Y,λi p z e=>nomatch e⟩
 |pair G L M=>
  refine⟨_,⟨_,_,Y,G⟩,Y,λi p z J Z=>?_⟩;rcases i with _|_|i
  .cases J;cases Z;exact L
  .cases J;cases Z;exact M
  .exact nomatch J
 |one G L=>
  refine⟨_,⟨_,_,Y,G⟩,Y,λi p z J Z=>?_⟩;rcases i with _|i
  .cases J;cases Z;exact L
  .exact nomatch J
 |other G L=>
  refine⟨_,⟨_,_,Y,G⟩,Y,λi p z J Z=>?_⟩;rcases i with _|i
  .cases J;cases Z;exact L
  .exact nomatch J
 | @choose _ _ I S e D G L M O=>
  refine⟨_,⟨_,Y,G,M⟩,by simp[Bd.parts],λi p z J Z=>?_⟩;rcases i with _|i
  .cases J;cases Z;exact L
  .have m:=ZH (show D[i]?=some p from J)
   have A:(List.replicate D.length y)[i]?=some z:=Z;have F:=ZH A;cases List.eq_of_mem_replicate F;exact O p m
 | @ask _ _ f E U G L M=>
  refine⟨_,⟨_,G,Y⟩,by rw[ZA];exact L.symm,λi p z J Z=>?_⟩;rw[ZG]at Z
  cases ep:E[i]? with
  |none=>rw[ep]at Z;cases Z
  |some q=>
   rw[ep]at Z;cases Z;exact M i p q J ep
 |letb G L M O=>
  refine⟨_,⟨Y,G,L⟩,Y,λi p z J Z=>?_⟩;rcases i with _|_|i
  .cases J;cases Z;exact M
  .cases J;cases Z;exact O
  .exact nomatch J
end L2
namespace L2
open PySem
end L2
namespace K4
open PySem L2
section
def ME:Sp:=λJ H Q _=>∃(x:Str)(o:Nat),J=[.str x,.str (alpha o)]/\(o=97\/o=65)/\1<=x.length/\x.length<=8/\(∀c∈x.cps.toList,o<=c/\c<o+26)/\∀Z,Same H Z->Q (.bl true) Z
def OI:Yq ["text","letters"] ["text","letters"] (Yb Bj):=Y6
def Aw:List.Nodup [("sign":Str),"letters"]:=by decide +kernel
def XC(o:Nat):Sp:=λJ H Q _=>∃(x:Str),J=[.str x]/\1<=x.length/\x.length<=8/\(∀c∈x.cps.toList,o<=c/\c<o+26)/\∀Z,Same H Z->Q (.bl true) Z
def Ii:Yq ["text"] ["text"] (Yb MY):=Y6
def OO:Yq ["text"] ["text"] (Yb Br):=Y6
def Kj(F:Fun K "is_tag" "is_tag" Br f S)(G:Ym P w K J base CX0 n g I ["text","letters"] ME)(C:Binds K I ["text","letters"] [])(R:W.keepIn K (.ref g)=true)(M:J "is_spelt"=some (.ref g))(D:J "GREAT"=some u)(L:RelV (.str<|Str.ofString "ABCDEFGHIJKLMNOPQRSTUVWXYZ") u):Ym P w K J base CX0 (n+1) f S ["text"] (XC 65):=by
 refine F.oq OO λU A Z s H X Q E T h=>?_;obtain⟨x,rfl,O,N,B,q⟩:=h;exists _,YY<|Ys<|Xg G T rfl M R C .nil VQ (pa2 (pv 0)<|JK rfl D L);refine⟨x,65,?_,.inr Y,O,N,B,q⟩;rw[<-Rg];rfl
end
end K4
namespace L2
open PySem
def X8(ks:kQ):Nat->Str->Nat
 |0,_=>0
 |n+1,y=>match VX ks y with
  |none=>0
  |some (.tags _)=>1
  |some (.pair a b)=>1+X8 ks n a+X8 ks n b
def JW(t:Str):Shp->Bool
 |.tags ts=>decide<|t∈ts
 |.pair _ _=>false
def JH(a b:Str):Shp->Bool
 |.tags _=>false
 |.pair c e=>decide (c=a) && decide (e=b)
def JT(ks:kQ)(t:Str):Option Str:=(ks.find? λk=>JW t k.2).map (·.1)
def V4(ks:kQ)(a b:Str):Option Str:=(ks.find? λk=>JH a b k.2).map (·.1)
def Xp{α:Type}(p:α->Bool)(l:List α)(x:α):(l++[x]).find? p=(l.find? p).or (if p x=true then some x else none):=by
 rw[jD]
 congr 1
 rw[zo];cases p x <;> simp
def Wj(h:z∈Z.map (·.1)):VX (Z++[x]) z=VX Z z:=by
 obtain⟨s,J⟩:=JJ h;unfold VX at J |-;rw[Xp]
 cases e:Z.find? λk=>decide (k.1=z)with
 |none=>rw[e]at J;cases J
 |some k=>rfl
def E7(h:z∉Z.map (·.1)):VX Z z=none:=by
 cases e:VX Z z with
 |none=>rfl
 |some s=>exact Zp (ZU.mpr ⟨_,Jx e,Y⟩) h
def TJ(h:z∉Z.map (·.1)):VX (Z++[(z,s)]) z=some s:=by
 have q:=E7 h;unfold VX at q |-;rw[Xp]
 cases e:Z.find? λk=>decide (k.1=z)with
 |none=>simp
 |some k=>rw[e]at q;cases q
theorem Jw(h:KK top c d Z)(x:Str×Shp):∀(n:Nat)(z:Str),z∈Z.map (·.1)->Y8 (Z++[x]) n z=Y8 Z n z
 |0,_,_=>rfl
 |n+1,z,hz=>by
  obtain⟨s,J⟩:=JJ hz;rw[Wc J,Wc ((Wj hz).trans J)]
  cases s with
  |tags M=>rfl
  |pair a b=>
   obtain⟨L,G,_⟩:=h.at J;show(W.non::_)=(W.non::_);rw[Jw h x n a L,Jw h x n b G]
def hOf(ks:kQ)(n:Nat):Shp->Nat
 |.tags _=>1
 |.pair a b=>1+X8 ks n a+X8 ks n b
def WX(h:VX Z y=some s):X8 Z (n+1) y=hOf Z n s:=by
 conv=>lhs;unfold X8
 rw[h];cases s <;> rfl
theorem Up(h:KK top c d Z)(x:Str×Shp):∀(n:Nat)(z:Str),z∈Z.map (·.1)->X8 (Z++[x]) n z=X8 Z n z
 |0,_,_=>rfl
 |n+1,z,hz=>by
  obtain⟨s,J⟩:=JJ hz;rw[WX J,WX ((Wj hz).trans J)]
  cases s with
  |tags M=>rfl
  |pair a b=>
   obtain⟨L,G,_⟩:=h.at J;show 1+_+_=1+_+_;rw[Up h x n a L,Up h x n b G]
theorem Xk(h:KK top c d Z):∀(n m:Nat)(y:Str),y∈Z.map (·.1)->d y<n->d y<m->X8 Z n y=X8 Z m y
 |0,_,_,_,h1,_=>Zp h1<|Zu _
 |_+1,0,_,_,_,h2=>Zp h2<|Zu _
 |n+1,m+1,y,hy,h1,h2=>by
  obtain⟨s,J⟩:=JJ hy;have M:=h.at J;rw[WX J,WX J]
  cases s with
  |tags N=>rfl
  |pair a b=>
   obtain⟨L,G,B,T,R,O⟩:=M;have E:=yA (d a)<|d b;have D:=yr (d a)<|d b;show 1+_+_=1+_+_;rw[Xk h n m a L (by omega) (by omega),Xk h n m b G (by omega) (by omega)]
structure KA6 where
 t:Addr
 dx:Addr
 sh:Addr
 wo:Addr
 he:Addr
 pd:Addr
 tk:Addr
 pk:Addr
structure KC where
 sh:List (Key×V)
 wo:List (Key×V)
 he:List (Key×V)
 pd:List (Key×V)
 tk:List (Key×V)
 pk:List (List Key×V)
def Gb(A:KA6):List (Str×V):=[("shapes",.ref A.sh),("worths",.ref A.wo),("heights",.ref A.he),("pairs_deep",.ref A.pd),("tag_kinds",.ref A.tk),("pair_kinds",.ref A.pk)]
def KA6.ds(A:KA6):kF:=[A.sh,A.wo,A.he,A.pd,A.tk,A.pk]
structure KD(H:Hp)(C:Addr)(A:KA6)(S:KC):Prop where
 ins:H A.t=some (.ins C A.dx (Gb A))
 sh:H A.sh=some (.dK S.sh)
 wo:H A.wo=some (.dK S.wo)
 he:H A.he=some (.dK S.he)
 pd:H A.pd=some (.dK S.pd)
 tk:H A.tk=some (.dK S.tk)
 pk:H A.pk=some (.dT S.pk)
 nd:A.ds.Nodup
structure KR(H:Hp)(S:KC)(ks:List (Str×Shp))(d:Str->Nat):Prop where
 ke:S.sh.map (·.1)=ks.map (λk=>Sum.inr k.1)
 sh:∀y s,VX ks y=some s->∃v,VD S.sh (Sum.inr y)=some v/\Has H v s.dat
 wo:∀y∈ks.map (·.1),∃l xs,VD S.wo (Sum.inr y)=some (.ref l)/\H l=some (.lst xs)/\HasL H xs ((Y8 ks 3 y).map W.dat)
 he:∀y∈ks.map (·.1),VD S.he (Sum.inr y)=some (.int (X8 ks 3 y:Nat))
 pd:∀y∈ks.map (·.1),VD S.pd (Sum.inr y)=some (.int (d y:Nat))
 tk:∀x:Str,VD S.tk (Sum.inr x)=(JT ks x).map V.str
 pk:∀a b:Str,VD S.pk [Sum.inr a,Sum.inr b]=(V4 ks a b).map V.str
 ln:S.sh.length<=4*ks.length/\S.wo.length<=4*ks.length/\S.he.length<=4*ks.length/\S.pd.length<=4*ks.length/\S.tk.length<=4*ks.length/\S.pk.length<=4*ks.length
def KI(H:Hp)(C t:Addr)(ks:kQ)(d:kU):Prop:=∃A S,A.t=t/\KD H C A S/\KR H S ks d
def KD.mono(k:KD H C A S)(e:Same H Z):KD Z C A S:=⟨e _ _ k.ins,e _ _ k.sh,e _ _ k.wo,e _ _ k.he,e _ _ k.pd,e _ _ k.tk,e _ _ k.pk,k.nd⟩
def TL(H H':Hp):Prop:=(∀b Z,H b=some (.tup Z)->H' b=some (.tup Z))/\∀b Z,H b=some (.lst Z)->H' b=some (.lst Z)
def Same.tl(e:Same H J):TL H J:=⟨λb Z h=>e _ _ h,λb Z h=>e _ _ h⟩
def TL.trans(a:TL H G)(b:TL G J):TL H J:=⟨λc Z h=>b.1 _ _<|a.1 _ _ h,λc Z h=>b.2 _ _<|a.2 _ _ h⟩
mutual
theorem Has.tl{H M:Hp}(e:TL H M):∀(d:Dat){v:V},Has H v d->Has M v d
 |.non,_,h=>by unfold Has at h |-;exact h
 |.bl _,_,h=>by unfold Has at h |-;exact h
 |.int _,_,h=>by unfold Has at h |-;exact h
 |.str _,_,h=>by unfold Has at h |-;exact h
 |.tup ds,_,h=>by
  unfold Has at h |-;obtain⟨a,Z,L,G,J⟩:=h;exact⟨a,Z,L,e.1 _ _ G,HasL.tl e ds J⟩
 |.lst ds,_,h=>by
  unfold Has at h |-;obtain⟨a,Z,L,G,J⟩:=h;exact⟨a,Z,L,e.2 _ _ G,HasL.tl e ds J⟩
theorem HasL.tl{H G:Hp}(e:TL H G):∀(Z:kP){J:kK},HasL H J Z->HasL G J Z
 |[],[],h=>by unfold HasL;trivial
 |[],_::_,h=>by unfold HasL at h;exact h.elim
 |_::_,[],h=>by unfold HasL at h;exact h.elim
 |d::Z,x::J,h=>by
  unfold HasL at h |-;exact⟨Has.tl e d h.1,HasL.tl e Z h.2⟩
end
def KR.tl(k:KR H S L d)(e:TL H N):KR N S L d:=
 ⟨k.ke,λy s h=>let⟨v,J,Z⟩:=k.sh y s h;⟨v,J,Has.tl e _ Z⟩,λy h=>let⟨l,G,J,Z,M⟩:=k.wo y h;⟨l,G,J,e.2 _ _ Z,HasL.tl e _ M⟩,k.he,k.pd,k.tk,k.pk,k.ln⟩
def KI.mono(k:KI H C t Z d)(e:Same H M):KI M C t Z d:=by
 obtain⟨A,S,L,G,J⟩:=k;exact⟨A,S,L,G.mono e,J.tl e.tl⟩
def JZ(x:Str)(Z:ky):inV (.str x) (Z.map V.str)=decide (x∈Z):=by
 induction Z with
 |nil=>rfl
 |cons t Z ih=>
  have e:inV (.str x) ((t::Z).map V.str)=((t==x) || inV (.str x) (Z.map V.str)):=rfl;rw[e,ih]
  by_cases h:t=x
  .subst h;simp
  .have h':¬x=t:=λq=>h q.symm
   simp[h,h']
def JG(Z:ky):(Z.map V.str).all WZ=true:=by
 induction Z with
 |nil=>rfl
 |cons t Z ih=>simp only[ZT,jm,ih];rfl
structure KCl(K:W.Frag)(C:Addr):Prop where
 cl:Cls K C
 sh:V6 K C "shapes"
 wo:V6 K C "worths"
 he:V6 K C "heights"
 pd:V6 K C "pairs_deep"
 tk:V6 K C "tag_kinds"
 pk:V6 K C "pair_kinds"
def N1(A:KA6):(Gb A).lookup ("shapes":Str)=some (V.ref A.sh):=rfl
def LX(A:KA6):(Gb A).lookup ("worths":Str)=some (V.ref A.wo):=rfl
def PY(A:KA6):(Gb A).lookup ("heights":Str)=some (V.ref A.he):=rfl
def PX(A:KA6):(Gb A).lookup ("pairs_deep":Str)=some (V.ref A.pd):=rfl
def Sr(A:KA6):(Gb A).lookup ("tag_kinds":Str)=some (V.ref A.tk):=rfl
def Ss(A:KA6):(Gb A).lookup ("pair_kinds":Str)=some (V.ref A.pk):=rfl
def RX(k:KD H C A S)(r:KR H S Z d)(h:VX Z y=some s):∃v,V2 H A.sh (.str y) (some v)/\Has H v s.dat:=by
 obtain⟨v,G,J⟩:=r.sh y s h;exact⟨v,by rw[<-G];exact V2.k (k:=Sum.inr y) k.sh,J⟩
end L2
namespace K4
open PySem L2
section
variable{f g C:Addr}
def Uu(C:Addr):Sp:=λG H Q _=>∃(t:Addr)(J:kQ)(d:kU),G=[.ref t]/\KI H C t J d/\∀l Z,Same H Z->H l=none->Z l=some (.lst<|J.map λk=>V.str k.1)->Q (.ref l) Z
def OJ:Yq ["self"] ["self"] (Yb Bm):=Y6
def Kb(B:Blt L)(T:KCl K C)(F:Fun K "names" "Kinds.names" Bm f O):Ym P w K L base CX0 (n+1) f O ["self"] (Uu C):=by
 refine F.oq OJ λR A Z s H D Q E U h=>?_;obtain⟨t,I,d,rfl,⟨X,S,rfl,J,N⟩,q⟩:=h;exists _,YY<|Ys<|VM (Xa rfl) rfl B.list Vo (pa1<|VE (pv 0) rfl);refine⟨C,_,_,_,J.ins,T.cl,T.sh,N1 _,_,_,Y,J.sh,λl G=>?_⟩;refine q l _ (Ye G _) G ?_;rw[YZ];have e:(S.sh.map λM=>kV M.1)=(S.sh.map (·.1)).map kV:=by rw[zf];rfl
 rw[e,N.ke,zf]
 rfl
def Ul(C:Addr):Sp:=λJ H Q _=>∃(t:Addr)(Z:kQ)(d:kU)(y:Str)(s:Shp),J=[.ref t,.str y]/\KI H C t Z d/\VX Z y=some s/\∀v,Has H v s.dat->Q v H
def E9:Yq ["self","kind"] ["self","kind"] (Yb TU):=Y6
def DE(T:KCl K C)(F:Fun K "shape_of" "Kinds.shape_of" TU f B):Ym P w K U base CX0 (n+1) f B ["self","kind"] (Ul C):=by
 refine F.oq E9 λD A Z s H I Q E N h=>?_;obtain⟨t,X,d,y,s,rfl,⟨j,S,rfl,J,G⟩,M,q⟩:=h;have L:=Jz N;obtain⟨v,R,O⟩:=RX J G M;exists _,YY<|Ys<|Ja L (VE (pv 0) rfl) (pv 1) λ_ _=>rfl;exact⟨C,_,_,_,J.ins,T.cl,T.sh,N1 _,v,R,q v O⟩
def TD(C:Addr):Sp:=λJ H Q _=>∃(t:Addr)(Z:kQ)(d:kU)(x:Str),J=[.ref t,.str x]/\KI H C t Z d/\Q (((JT Z x).map V.str).getD .non) H
def Ih:Yq ["self","tag"] ["self","tag"] (Yb MW):=Y6
def FN(T:KCl K C)(F:Fun K "kind_of_tag" "Kinds.kind_of_tag" MW f N):Ym P w K B base CX0 (n+1) f N ["self","tag"] (TD C):=by
 refine F.oq Ih λO A Z s H R Q E M h=>?_;obtain⟨t,D,d,x,rfl,⟨I,S,rfl,J,G⟩,q⟩:=h;have L:=Jz M;exists _,YY<|Ys<|WR L (VE (pv 0) rfl) (pv 1) ⟨rfl,rfl,rfl,rfl⟩;exact⟨C,_,_,_,J.ins,T.cl,T.tk,Sr _,.inl ⟨_,.inl J.tk⟩,_,by rw[<-G.tk x];exact V2.k (k:=Sum.inr x) J.tk,q⟩
def Wh(C:Addr):Sp:=λG H Q _=>∃(t:Addr)(Z:kQ)(d:kU)(a b:Str),G=[.ref t,.str a,.str b]/\KI H C t Z d/\∀J,Same H J->Q (((V4 Z a b).map V.str).getD .non) J
def FA:Yq ["self","one","other"] ["self","one","other"] (Yb TV):=Y6
def DJ(T:KCl K C)(F:Fun K "kind_of_pair" "Kinds.kind_of_pair" TV f R):Ym P w K I base CX0 (n+1) f R ["self","one","other"] (Wh C):=by
 refine F.oq FA λB A Z s H D Q E N h=>?_;obtain⟨t,U,d,a,b,rfl,⟨X,S,rfl,J,L⟩,q⟩:=h;have M:=Jz N;exists _,YY<|Ys<|WR M (VE (pv 0) rfl) (Yv<|pa2 (pv 1)<|pv 2) ⟨rfl,rfl,rfl,rfl⟩;refine⟨C,_,_,_,J.ins,T.cl,T.pk,Ss _,.inr ⟨_,.inl J.pk⟩,sl 2,λp O=>?_⟩;have G:=Ye O<|.tup [.str a,.str b];exact⟨_,by rw[<-L.pk a b];exact V2.t (k:=[Sum.inr a,Sum.inr b]) (G _ _ J.pk) YZ,q _ G⟩
def UK(C:Addr):Sp:=λL H Q _=>∃(t:Addr)(J:kQ)(d:kU)(y:Str),L=[.ref t,.str y]/\KI H C t J d/\y∈J.map (·.1)/\
 ∀l G Z,Same H Z->H l=none->Z l=some (.lst G)->HasL Z G ((Y8 J 3 y).map W.dat)->Q (.ref l) Z
def Bg:Yq ["self","kind"] ["self","kind"] (Yb Wn):=Y6
def Ng(B:Blt N)(T:KCl K C)(F:Fun K "worths_of" "Kinds.worths_of" Wn f z):Ym P w K N base CX0 (n+1) f z ["self","kind"] (UK C):=by
 refine F.oq Bg λm A G s H p Q E I h=>?_;obtain⟨t,c,d,y,rfl,⟨u,S,rfl,M,O⟩,R,q⟩:=h;have D:=Jz I;obtain⟨l,J,j,X,U⟩:=O.wo y R;exists _,YY<|Ys<|VM JB rfl B.list Vo (pa1<|Ja D (VE (pv 0) rfl) (pv 1) λ_ _=>rfl);refine⟨C,_,_,_,M.ins,T.cl,T.wo,LX _,_,by rw[<-j];exact V2.k (k:=Sum.inr y) M.wo,l,J,Y,.inl<|Z1 X,λr Z=>?_⟩;have L:=Ye Z<|.lst J;exact q r J _ L Z YZ<|U.mono L
end
end K4
namespace L2
open PySem
def KFr(A:KA6)(H H':Hp):Prop:=∀b o,b∉A.ds->H b=some o->H' b=some o
def KFr.refl(A:KA6)(H:Hp):KFr A H H:=λ_ _ _ h=>h
def KFr.trans(a:KFr A H G)(b:KFr A G J):KFr A H J:=λc o Z h=>b c o Z<|a c o Z h
def Same.kfr(e:Same H Z):KFr A H Z:=λb o _ h=>e b o h
def KFr.put(a:KFr A H L)(G:x∈A.ds)(o:HO):KFr A H (upd L x o):=λb u Z h=>by
 have J:b≠x:=λz=>by rw[z]at Z;exact Z G
 rw[Yc J];exact a b u Z h
def KFr.tl(a:KFr A H O)(k:KD H C A S):TL H O:=by
 have G:∀b u,H b=some u->(∀l,u≠.dK l)->(∀l,u≠.dT l)->b∉A.ds:=λb u Z J N L=>by
  simp only[KA6.ds,Zb,yn,or_false]at L;rcases L with z|z|z|z|z|z
  .rw [z,k.sh]at Z;exact J _ (ZP Z).symm
  .rw [z,k.wo]at Z;exact J _ (ZP Z).symm
  .rw [z,k.he]at Z;exact J _ (ZP Z).symm
  .rw [z,k.pd]at Z;exact J _ (ZP Z).symm
  .rw [z,k.tk]at Z;exact J _ (ZP Z).symm
  .rw [z,k.pk]at Z;exact N _ (ZP Z).symm
 exact⟨λb M h=>a b _ (G b _ h (λl=>by intro z;cases z) (λl=>by intro z;cases z)) h,λb M h=>a b _ (G b _ h (λl=>by intro z;cases z) (λl=>by intro z;cases z)) h⟩
def KA6.apart{A:KA6}(n:A.ds.Nodup):(A.sh≠A.wo/\A.sh≠A.he/\A.sh≠A.pd/\A.sh≠A.tk/\A.sh≠A.pk)/\(A.wo≠A.he/\A.wo≠A.pd/\A.wo≠A.tk/\A.wo≠A.pk)/\(A.he≠A.pd/\A.he≠A.tk/\A.he≠A.pk)/\(A.pd≠A.tk/\A.pd≠A.pk)/\A.tk≠A.pk:=by
 simpa[KA6.ds]using n
section
def KD.put_sh(k:KD H C A S)(l:kJ):KD (upd H A.sh<|.dK l) C A {S with sh:=l}:=by
 obtain⟨⟨M,L,G,J,Z⟩,_⟩:=KA6.apart k.nd;exact⟨(Yc<|V8 k.ins k.sh (by intro z;cases z)).trans k.ins,YZ,(Yc M.symm).trans k.wo,(Yc L.symm).trans k.he,(Yc G.symm).trans k.pd,(Yc J.symm).trans k.tk,(Yc Z.symm).trans k.pk,k.nd⟩
def KD.put_wo(k:KD H C A S)(l:kJ):KD (upd H A.wo<|.dK l) C A {S with wo:=l}:=by
 obtain⟨⟨M,_⟩,⟨L,G,J,Z⟩,_⟩:=KA6.apart k.nd;exact⟨(Yc<|V8 k.ins k.wo (by intro z;cases z)).trans k.ins,(Yc M).trans k.sh,YZ,(Yc L.symm).trans k.he,(Yc G.symm).trans k.pd,(Yc J.symm).trans k.tk,(Yc Z.symm).trans k.pk,k.nd⟩
def KD.put_he(k:KD H C A S)(l:kJ):KD (upd H A.he<|.dK l) C A {S with he:=l}:=by
 obtain⟨⟨_,M,_⟩,⟨L,_⟩,⟨G,J,Z⟩,_⟩:=KA6.apart k.nd;exact⟨(Yc<|V8 k.ins k.he (by intro z;cases z)).trans k.ins,(Yc M).trans k.sh,(Yc L).trans k.wo,YZ,(Yc G.symm).trans k.pd,(Yc J.symm).trans k.tk,(Yc Z.symm).trans k.pk,k.nd⟩
def KD.put_pd(k:KD H C A S)(l:kJ):KD (upd H A.pd<|.dK l) C A {S with pd:=l}:=by
 obtain⟨⟨_,_,M,_⟩,⟨_,L,_⟩,⟨G,_⟩,⟨J,Z⟩,_⟩:=KA6.apart k.nd;exact⟨(Yc<|V8 k.ins k.pd (by intro z;cases z)).trans k.ins,(Yc M).trans k.sh,(Yc L).trans k.wo,(Yc G).trans k.he,YZ,(Yc J.symm).trans k.tk,(Yc Z.symm).trans k.pk,k.nd⟩
def KD.put_tk(k:KD H C A S)(l:kJ):KD (upd H A.tk<|.dK l) C A {S with tk:=l}:=by
 obtain⟨⟨_,_,_,M,_⟩,⟨_,_,L,_⟩,⟨_,G,_⟩,⟨J,_⟩,Z⟩:=KA6.apart k.nd;exact⟨(Yc<|V8 k.ins k.tk (by intro z;cases z)).trans k.ins,(Yc M).trans k.sh,(Yc L).trans k.wo,(Yc G).trans k.he,(Yc J).trans k.pd,YZ,(Yc Z.symm).trans k.pk,k.nd⟩
def KD.put_pk(k:KD H C A S)(l:List (List Key×V)):KD (upd H A.pk<|.dT l) C A {S with pk:=l}:=by
 obtain⟨⟨_,_,_,_,M⟩,⟨_,_,_,L⟩,⟨_,_,G⟩,⟨_,J⟩,Z⟩:=KA6.apart k.nd;exact⟨(Yc<|V8 k.ins k.pk (by intro z;cases z)).trans k.ins,(Yc M).trans k.sh,(Yc L).trans k.wo,(Yc G).trans k.he,(Yc J).trans k.pd,(Yc Z).trans k.tk,YZ,k.nd⟩
end
def Ug{α:Type}{l:List α}{x a:α}(h:l[i]?=some a):x∈l.take (i+1)↔x∈l.take i\/x=a:=by
 rw[take_snoc h,ZV,ZO]
end L2
namespace K4
open PySem L2
section
variable{f g C:Addr}
def BV(C:Addr):Sp:=λL H Q _=>∃(A:KA6)(S:KC)(y:Str)(l:Addr)(Z:ky),L=[.ref A.t,.str y,.ref l]/\KD H C A S/\H l=some (.tup<|Z.map V.str)/\1<=Z.length/\Z.length<=4/\Wds 65 Z/\(∀x∈Z,VD S.tk (Sum.inr x)=none)/\
 S.tk.length<=100/\S.wo.length<=100/\S.he.length<=100/\S.pd.length<=100/\
 ∀G J r,KFr A H G->KD G C A ⟨S.sh,putK S.wo (Sum.inr y)<|.ref r,putK S.he (Sum.inr y)<|.int 1,putK S.pd (Sum.inr y)<|.int 0,J,S.pk⟩->
  (∀x:Str,VD J (Sum.inr x)=if x∈Z then some (.str y)else VD S.tk (Sum.inr x))->J.length<=S.tk.length+4->G r=some (.lst (.non::Z.map V.str))->Q .non G
def Ic:Yq ["self","name","tags","tag"] ["self","name","tags"] (Yb Il):=Y6
def Oo(B:Blt mg)(T:KCl K C)(F:Fun K "take_tags" "Kinds.take_tags" Il f fd)(hM:mg "MOST_TAGS"=some u)(rM:RelV (.int 4) u)(G:Ym P w K mg base CX0 n g gd ["text"] (XC 65))(bG:Binds K gd ["text"] [])(kG:W.keepIn K (.ref g)=true)(mG:mg "is_tag"=some (.ref g)):Ym P w K mg base CX0 (n+1) f fd ["self","name","tags"] (BV C):=by
 refine F.oq Ic λJ5 A Z8 s H vs Q E hr h=>?_;obtain⟨D,S,y,l,J,rfl,kd,hl,l1,l4,wt,tn,b1,b2,b3,b4,q⟩:=h;have t:=Jz hr;refine⟨_,YW (Y2 (Vx<|Tc Ti Ti YX (Yt Yo rfl B.len Zs (pa1<|pv 2))<|JK rfl hM rM) (YY Jf) Yr)
  (YW (Vy Zt rfl (Js<|pv 2) (Yd 3 Ic.nd)
   (YW (Y2 (Vx<|Vs<|Xg G hr rfl mG kG bG .nil VQ (pa1<|pv 3)) (YY Jf) Yr)
   (YW (Y2 (UP<|X5 t (pv 3)<|VE (pv 0) rfl) (YY Jf) Yr)
   (YY<|V3 t (VE (pv 0) rfl) (pv 3) (pv 1) rfl))))
  (YW (V3 t (VE (pv 0) rfl) (pv 1) (Y4 Mi (Vf<|pa1 Vc)<|VM JB rfl B.list Vo (pa1<|pv 2)) rfl)
  (YW (V3 t (VE (pv 0) rfl) (pv 1) YX rfl)
  (YY<|V3 t (VE (pv 0) rfl) (pv 1) YX rfl)))),?_⟩
 show let a:=_;let b:=Yg _ a;let c:=Yg _ b;let d:=_;let e:=_;let f:=Yg (Y9 _ e _) d;let g:=_;let h:=Yg (Y9 _ g _) f;let i:=Yg (J6 _ _ h) c;let j:=_;Yg (Y9 _ j _) i _ _ _
 intros
 have lt:(J.map V.str).length=J.length:=ZA _;exists l,_,Y,.inr<|Z0 hl,_,rfl;refine VH (by simp;omega) ?_;exists _,Y;refine Y0 (by simp;omega) ?_;exists ⟨_,Z0 hl⟩
 let I:kL:=λi U R=>KFr D H R/\∃L z,KD R C D {S with tk:=L}/\(∀x:Str,VD L (Sum.inr x)=if x∈J.take i then some (.str y)else VD S.tk (Sum.inr x))/\L.length<=S.tk.length+i/\R l=some (.tup<|J.map V.str)/\
  U=[some (.ref D.t),some<|.str y,some<|.ref l,z]
 refine RC (xs:=J.map V.str) I ⟨KFr.refl _ _,S.tk,_,kd,λx=>by simp,ZF _,hl,Y⟩ ?_ ?_ ?_
 .rintro i U R _ ⟨_,L,z,_,_,_,hl',_⟩
  exact Z0 hl'
 .rintro BB RR i v U R hv ⟨fr,L,z,kd',tv,tl,hl',rfl⟩
  rw[ZG]at hv
  cases hx:J[i]? with
  |none=>rw[hx]at hv;cases hv
  |some x=>
   rw[hx]at hv;cases hv;have mx:x∈J:=ZH hx
   have nx:x∉J.take i:=λhm=>by
    have q':(J.take i++[x]).Nodup:=by rw[<-take_snoc hx];exact wt.nd.sublist<|yp _ _
    exact(yC.mp q').2.2 x hm x (by simp) rfl
   have J4:=(ZE.mp hx).1;obtain⟨w1,w8⟩:=wt.len x mx;refine⟨x,Y,w1,w8,wt.abc x mx,λH2 s2=>⟨_,Y,?_⟩⟩;refine Y0 (by simp) ?_;have Z:=kd'.mono s2
   have gx:V2 H2 D.tk (.str x) none:=by
    have e:=tv x;rw[Zo nx,tn x mx]at e;rw[<-e];exact V2.k (k:=Sum.inr x) Z.tk
   exists C,_,_,_,Z.ins,T.cl,T.tk,Sr _,_,gx,_,Y;refine Y0 (by simp) ?_;refine⟨C,_,_,_,Z.ins,T.cl,T.tk,Sr _,_,UH.k (k:=Sum.inr x) Z.tk<|Yi (by show L.length<=1000;omega),?_⟩;have o:=s2 _ _ hl';refine⟨(fr.trans s2.kfr).put (by simp[KA6.ds]) _,putK L (Sum.inr x)<|.str y,_,Z.put_tk _,λX=>?_,?_,?_,rfl⟩
   .rw [UJ]
    by_cases e:X=x
    .subst e
     rw[Zn rfl,Zn ((Ug hx).mpr<|.inr rfl)]
    .rw [Zo (λz=>e<|Sum.inr.inj z),tv X]
     have:(X∈J.take (i+1))↔X∈J.take i:=⟨λz=>((Ug hx).mp z).resolve_right e,λz=>(Ug hx).mpr<|.inl z⟩
     by_cases m:X∈J.take i
     .rw [Zn m,Zn (this.mpr m)]
     .rw [Zo m,Zo (λz=>m<|this.mp z)]
   .have:=V9 L (Sum.inr x)<|.str y;omega
   .rw [Yc (V8 o Z.tk (by intro z;cases z))];exact o
 .rintro U R ⟨fr,L,z,kd',tv,tl,hl',rfl⟩
  rw[lt]at tl;rw[Ze (by omega)]at tv;refine⟨sl 1,λp1 r=>⟨l,_,Y,.inr<|Z0<|(Ye r _) _ _ hl',λp2 p=>?_⟩⟩;refine⟨p1,p2,_,_,Y,Y,(Yc<|Yk YZ p).trans YZ,YZ,Zf (Yi (by simp;omega)),λM J1=>?_⟩;have sx:Same R _:=((Ye r<|.lst [V.non]).trans<|Ye p<|.lst<|J.map V.str).trans<|Ye J1<|.lst<|[V.non]++ J.map V.str;have hp:upd (upd (upd R p1<|.lst [V.non]) p2<|.lst<|J.map V.str) M (.lst<|[V.non]++ J.map V.str) M=some (.lst (.non::J.map V.str)):=YZ;generalize upd (upd (upd R p1<|.lst [V.non]) p2<|.lst<|J.map V.str) M (.lst<|[V.non]++ J.map V.str)=H2 at sx hp |-;have Z:=kd'.mono sx;refine⟨C,_,_,_,Z.ins,T.cl,T.wo,LX _,_,UH.k (k:=Sum.inr y) Z.wo<|Yi (by show S.wo.length<=1000;omega),?_⟩;have O:=Z.put_wo<|putK S.wo (Sum.inr y)<|.ref M;have J2:upd H2 D.wo (.dK<|putK S.wo (Sum.inr y)<|.ref M) M=some (.lst (.non::J.map V.str)):=by rw[Yc (V8 hp Z.wo (by intro z;cases z))];exact hp
  refine⟨C,_,_,_,O.ins,T.cl,T.he,PY _,_,UH.k (k:=Sum.inr y) O.he<|Yi (by show S.he.length<=1000;omega),?_⟩;have N:=O.put_he<|putK S.he (Sum.inr y)<|.int 1;refine⟨C,_,_,_,N.ins,T.cl,T.pd,PX _,_,UH.k (k:=Sum.inr y) N.pd<|Yi (by show S.pd.length<=1000;omega),?_⟩;have Z9:=N.put_pd<|putK S.pd (Sum.inr y)<|.int 0;refine q _ L M ?_ Z9 tv (by omega) ?_
  .exact ((((fr.trans sx.kfr).put (by simp[KA6.ds]) _).put (by simp[KA6.ds]) _).put (by simp[KA6.ds]) _)
  .have h3:=J2
   have h4:upd (upd H2 D.wo<|.dK<|putK S.wo (Sum.inr y)<|.ref M) D.he (.dK<|putK S.he (Sum.inr y)<|.int 1) M=some (.lst (.non::J.map V.str)):=by rw[Yc (V8 h3 O.he (by intro z;cases z))];exact h3
   rw[Yc (V8 h4 N.pd (by intro z;cases z))];exact h4
end
end K4
namespace L2
open PySem
structure Pt(H:Hp)(S:KC)(e:Str)(us:List W)(h p:Nat):Prop where
 sh:(VD S.sh (Sum.inr e)).isSome=true
 wo:∃l xs,VD S.wo (Sum.inr e)=some (.ref l)/\H l=some (.lst xs)/\HasL H xs (us.map W.dat)
 he:VD S.he (Sum.inr e)=some (.int h)
 pd:VD S.pd (Sum.inr e)=some (.int p)
end L2
namespace K4
open PySem L2
section
variable{f g C:Addr}
def MF(C:Addr):Sp:=λT H Q _=>∃(A:KA6)(S:KC)(y e g:Str)(G Z:List W)(R O M L:Nat),T=[.ref A.t,.str y,.str e,.str g]/\KD H C A S/\Pt H S e G R M/\Pt H S g Z O L/\VD S.pk [Sum.inr e,Sum.inr g]=none/\
 1+max M L<=2/\1+G.length*Z.length<=30/\G.length<=30/\Z.length<=30/\S.pk.length<=100/\S.wo.length<=100/\S.he.length<=100/\S.pd.length<=100/\e≠y/\g≠y/\
 ∀J r,KFr A H J->KD J C A ⟨S.sh,putK S.wo (Sum.inr y)<|.ref r,putK S.he (Sum.inr y)<|.int (1+R+O:Nat),putK S.pd (Sum.inr y)<|.int (1+max M L:Nat),S.tk,putK S.pk [Sum.inr e,Sum.inr g]<|.str y⟩->
  (∃N,J r=some (.lst N)/\HasL J N ((W.non::G.flatMap λu=>Z.map λv=>W.pair u v).map W.dat))->Q .non J
def MO:Yq ["self","name","one","other","deep","worths"] ["self","name","one","other"] (Yb Bl):=Y6
def P3:List.Nodup [("first":Str),"second","self","other"]:=by decide +kernel
def Ka(B:Blt mg)(T:KCl K C)(F:Fun K "take_pair" "Kinds.take_pair" Bl f fd)(hM:mg "MOST_PAIRS_DEEP"=some u1)(rM:RelV (.int 2) u1)(T0:mg "MOST_WORTHS"=some u2)(L1:RelV (.int 30) u2):
  Ym P w K mg base CX0 (n+1) f fd ["self","name","one","other"] (MF C):=by
 refine F.oq MO λT4 A M2 s H vs Q E hr h=>?_;obtain⟨J,S,y,e,g,us,Z,he,hg,pe,pg,rfl,kd,Z9,Z8,pn,d2,T5,ul,vl,b0,b1,b2,b3,T3,T1,q⟩:=h;have I:=Jz hr;refine⟨_,YW (Y2 (PW.pt<|Jq (UP<|Xh I (pv 2)<|VE (pv 0) rfl)<|Jc<|UP<|Xh I (pv 3)<|VE (pv 0) rfl) (YY Jf) Yr)
  (YW (Y2 (UP<|X5 I (Yv<|pa2 (pv 2)<|pv 3)<|VE (pv 0) rfl) (YY Jf) Yr)
  (YW (Yp 4 MO.nd<|Y4 Vt YX<|Yt (Xq rfl) rfl B.max Xs (pa2 (Ja I (VE (pv 0) rfl) (pv 2) λ_ _=>rfl)<|Ja I (VE (pv 0) rfl) (pv 3) λ_ _=>rfl))
  (YW (Y2 (Yn UX (pv 4) (JK rfl hM rM)<|Yu _) (YY Jf) Yr)
  (YW (Yp 5 MO.nd (Y4 Mi (Vf<|pa1 Vc) (Od (wi2:=LD K<|Pp (AH K (Xt 2) "worths")<|Xt 3) [0,3] (VL<|Ja I (VE (pv 0) rfl) (pv 2) λ_ _=>rfl)
    (λcl C fp s H=>Yd 0 P3 rfl (Or.inl rfl) (Or.inr rfl)) (λcl C fp s H=>VL<|Ja I (VE (pv 2) rfl) (pv 3) λ_ _=>rfl) (λcl C fp s H=>Yd 1 P3 rfl (Or.inl rfl) (Or.inr rfl))
    (λcl C fp s H=>Yv<|pa2 (pv 0)<|pv 1))))
  (YW (Y2 (Yn UX (Yt Yo rfl B.len Zs (pa1<|pv 5)) (JK rfl T0 L1)<|Yu _) (YY Jf) Yr)
  (YW (V3 I (VE (pv 0) rfl) (Yv<|pa2 (pv 2)<|pv 3) (pv 1) rfl)
  (YW (V3 I (VE (pv 0) rfl) (pv 1) (pv 5) rfl)
  (YW (V3 I (VE (pv 0) rfl) (pv 1) (Y4 Vt (Y4 Vt YX<|Ja I (VE (pv 0) rfl) (pv 2) λ_ _=>rfl)<|Ja I (VE (pv 0) rfl) (pv 3) λ_ _=>rfl) rfl)
  (YY<|V3 I (VE (pv 0) rfl) (pv 1) (pv 4) rfl))))))))),?_⟩
 show let a:=_;let b:=Yg _ a;let c:=Yg _ b;let d:=Yg _ c;let e:=_;let f:=Yg (Y9 _ e _) d;let g:=Yg _ f;let h:=_;let i:=Yg (Y9 _ h _) g;let j:=Yg _ i;let k:=_;let l:=Yg (Y9 _ k _) j;let m:=_;Yg (Y9 _ m _) l _ _ _
 intros
 have fl:∀{H2:Hp},KD H2 C J S->H2 J.t=some (.ins C J.dx<|Gb J):=λk=>k.ins;have ge:V2 H J.sh (.str e) (VD S.sh<|Sum.inr e):=V2.k (k:=Sum.inr e) kd.sh;have gg:V2 H J.sh (.str g) (VD S.sh<|Sum.inr g):=V2.k (k:=Sum.inr g) kd.sh;exists C,_,_,_,kd.ins,T.cl,T.sh,N1 _,_,ge,_,Y;refine Y0 (by rw[Z9.sh];simp) ?_;exists C,_,_,_,kd.ins,T.cl,T.sh,N1 _,_,gg,_,Y;refine Y0 (by rw[Z8.sh];simp) ?_;refine⟨sl 2,λp1 R5=>?_⟩;refine up_in R5 _ λH1 s1 h1=>?_;have O:=kd.mono s1;have gp:V2 H1 J.pk (.ref p1) none:=by rw[<-pn];exact V2.t (k:=[Sum.inr e,Sum.inr g]) O.pk h1
 exists C,_,_,_,O.ins,T.cl,T.pk,Ss _,_,gp,_,Y;refine Y0 (by simp) ?_;refine⟨C,_,_,_,O.ins,T.cl,T.pd,PX _,_,by rw[<-Z9.pd];exact V2.k (k:=Sum.inr e) O.pd,?_⟩;exists C,_,_,_,O.ins,T.cl,T.pd,PX _,_,by rw[<-Z8.pd];exact V2.k (k:=Sum.inr g) O.pd,_,_,Y
 have em:(1+(if(pg:Int) > (pe:Int)then(pg:Int)else(pe:Int)))=((1+max pe pg:Nat):Int):=by
  by_cases z:pe<pg
  .rw [Zn (by omega),Nat.max_eq_right (Zf z)];omega
  .rw [Zo (by omega),Nat.max_eq_left (by omega)];omega
 dsimp only[Vi,rI0,U1];rw[em];exists _,Y;refine Y0 (by simp;omega) ?_;obtain⟨l1,D,w1,w2,w3⟩:=Z9.wo;obtain⟨l2,M,v1,v2,v3⟩:=Z8.wo;have G1:=w3.length;have J5:=v3.length;rw[ZA]at G1 J5;refine⟨sl 1,λp2 R4=>?_⟩;refine up_in R4 _ λH2 s2 h2=>?_;have G4:=O.mono s2;have U:=s1.trans s2;exists C,_,_,_,G4.ins,T.cl,T.wo,LX _,.ref l1,by rw[<-w1];exact V2.k (k:=Sum.inr e) G4.wo,⟨D,Z1<|U _ _ w2⟩;refine RH D.length (λi L H'=>Same H2 H'/\L.length=i*Z.length/\i<=us.length/\HasL H' L (((us.take i).flatMap λu=>Z.map λv=>W.pair u v).map W.dat)) ⟨Z6 _,by simp,Za _,by rw[vk];exact Z4⟩
  (λi L H' z=>Yi (by rw[z.2.1];have:i*Z.length<=us.length*Z.length:=vE _ z.2.2.1;omega)) ?_ ?_ ?_ ?_
 .intro i L H' hi z
  exact⟨D,D[i],Z1<|(U.trans z.1) _ _ w2,by simp[hi]⟩
 .intro L H' z
  exact⟨D,Z1<|(U.trans z.1) _ _ w2,ZF _⟩
 .intro i L H' x H'' R hi z yl hR
  obtain⟨rfl,yy⟩:=yl;have sz:=U.trans z.1;obtain⟨dx,o,R8⟩:=w3.get<|yy D<|Z1<|sz _ _ w2;rw[ZG]at o
  cases hu1:us[i]? with
  |none=>rw[hu1]at o;cases o
  |some u=>
   rw[hu1]at o;cases o;have G2:=kd.mono sz;exists C,_,_,_,G2.ins,T.cl,T.wo,LX _,.ref l2,by rw[<-v1];exact V2.k (k:=Sum.inr g) G2.wo,⟨M,Z1<|sz _ _ v2⟩;refine Nt M.length (λj ws H3=>Same H'' H3/\ws.length=i*Z.length+j/\j<=Z.length/\HasL H3 ws (((us.take i).flatMap λu=>Z.map λv=>W.pair u v).map W.dat++ ((Z.take j).map λv=>W.pair u v).map W.dat)) ⟨Z6 _,by rw[z.2.1];rfl,Za _,by rw[vk,yW,yW,yz];exact z.2.2.2⟩
    (λj ws H3 N=>Yi (by
     rw[N.2.1];have:(i+1)*Z.length<=us.length*Z.length:=vE _ (by omega);rw[vg]at this;have:=N.2.2.1;omega)) ?_ ?_ ?_ ?_
   .intro j ws H3 hj N
    exact⟨M,M[j],Z1<|(sz.trans N.1) _ _ v2,by simp[hj]⟩
   .intro ws H3 N
    exact⟨M,Z1<|(sz.trans N.1) _ _ v2,ZF _⟩
   .intro j ws H3 x2 H4 T2 hj N yl2 hT
    obtain⟨rfl,G5⟩:=yl2;have s3:=sz.trans N.1;obtain⟨dz,r,R7⟩:=v3.get<|G5 M<|Z1<|s3 _ _ v2;rw[ZG]at r
    cases hv1:Z[j]? with
    |none=>rw[hv1]at r;cases r
    |some v=>
     rw[hv1]at r;cases r;refine⟨sl 2,λt ht=>hT _ _ ?_⟩;have st:=Ye ht<|.tup [x,x2];exists N.1.trans st,by rw[ZJ,N.2.1];rfl,(ZE.mp hv1).1;rw[take_snoc hv1,ZI,ZI,<-yP];refine Z5 (N.2.2.2.mono st)<|Z3 ?_;unfold W.dat Has;exact⟨t,_,Y,YZ,Z2 ((R8.mono s3).mono st)<|Z2 ((R7.mono s3).mono st) Z4⟩
   .intro ws H3 N
    have R6:M.length=Z.length:=J5;refine hR _ _ ⟨z.1.trans N.1,by rw[N.2.1,R6,vg],(ZE.mp hu1).1,?_⟩;have y4:=N.2.2.2;have et:Z.take M.length=Z:=Ze (by omega);rw[et]at y4;rw[Fa _ hu1,ZI];exact y4
 .intro L H' p3 z hp3
  have s3:=Ye hp3<|.lst L;have h3:upd H' p3 (.lst L) p3=some (.lst L):=YZ;have z4:=z.2.2.2;rw[Ze (by omega)]at z4;have z5:=z4.mono s3;generalize upd H' p3 (.lst L)=H3 at s3 h3 z5 |-;have J2:=z.1.trans s3;have lz:L.length=us.length*Z.length:=by rw[z.2.1,G1]
  refine⟨p2,p3,[V.non],L,Y,Y,J2 _ _ h2,h3,Zf (Yi (by rw[lz];simp;omega)),λp4 R3=>?_⟩;have s4:=Ye R3<|.lst<|[V.non]++ L;have h4:upd H3 p4 (.lst<|[V.non]++ L) p4=some (.lst<|[V.non]++ L):=YZ;have z6:=z5.mono s4;generalize upd H3 p4 (.lst<|[V.non]++ L)=H4 at s4 h4 z6 |-;have J4:=(U.trans J2).trans s4;have J1:=kd.mono J4;have hw:HasL H4 ([V.non]++ L) ((W.non::us.flatMap λu=>Z.map λv=>W.pair u v).map W.dat):=Z2 EY z6;exists p4,_,Y,.inl<|Z1 h4,_,rfl;refine Y0 (by simp;omega) ?_;refine⟨C,_,_,_,J1.ins,T.cl,T.pk,Ss _,sl 2,λp5 R1=>?_⟩;refine up_in R1 _ λH5 s5 h5=>?_;have G3:=J1.mono s5;refine⟨_,UH.t (k:=[Sum.inr e,Sum.inr g]) G3.pk h5<|Yi<|by omega,?_⟩;have p:=G3.put_pk<|putK S.pk [Sum.inr e,Sum.inr g]<|.str y;have f6:KFr J H (upd H5 J.pk<|.dT<|putK S.pk [Sum.inr e,Sum.inr g]<|.str y):=KFr.put (Same.kfr<|J4.trans s5) (by simp[KA6.ds]) _;have t6:TL H4 (upd H5 J.pk<|.dT<|putK S.pk [Sum.inr e,Sum.inr g]<|.str y):=(KFr.put (Same.kfr s5) (by simp[KA6.ds]) _:KFr J H4 _).tl J1;generalize upd H5 J.pk (.dT<|putK S.pk [Sum.inr e,Sum.inr g]<|.str y)=H6 at p f6 t6 |-;refine⟨C,_,_,_,p.ins,T.cl,T.wo,LX _,_,UH.k (k:=Sum.inr y) p.wo<|Yi (by show S.wo.length<=1000;omega),?_⟩;have G:=p.put_wo<|putK S.wo (Sum.inr y)<|.ref p4;have f7:=f6.put (x:=J.wo) (by simp[KA6.ds])<|.dK<|putK S.wo (Sum.inr y)<|.ref p4;have t7:=t6.trans<|(KFr.put (KFr.refl J H6) (x:=J.wo) (by simp[KA6.ds])<|.dK<|putK S.wo (Sum.inr y)<|.ref p4).tl p;generalize upd H6 J.wo (.dK<|putK S.wo (Sum.inr y)<|.ref p4)=H7 at G f7 t7 |-;refine⟨C,_,_,_,G.ins,T.cl,T.he,PY _,_,by rw[<-Z9.he];exact V2.k (k:=Sum.inr e) G.he,?_⟩;refine⟨C,_,_,_,G.ins,T.cl,T.he,PY _,_,by rw[<-Z8.he];exact V2.k (k:=Sum.inr g) G.he,?_⟩;refine⟨C,_,_,_,G.ins,T.cl,T.he,PY _,_,UH.k (k:=Sum.inr y) G.he<|Yi (by show S.he.length<=1000;omega),?_⟩;have eh:(1+(he:Int)+(hg:Int))=((1+he+hg:Nat):Int):=by push_cast;rfl
  dsimp only[rI0,rI,U1];rw[eh];have X:=G.put_he<|putK S.he (Sum.inr y)<|.int ((1+he+hg:Nat):Int);have f8:=f7.put (x:=J.he) (by simp[KA6.ds])<|.dK<|putK S.he (Sum.inr y)<|.int ((1+he+hg:Nat):Int);have t8:=t7.trans<|(KFr.put (KFr.refl J H7) (x:=J.he) (by simp[KA6.ds])<|.dK<|putK S.he (Sum.inr y)<|.int ((1+he+hg:Nat):Int)).tl G;generalize upd H7 J.he (.dK<|putK S.he (Sum.inr y)<|.int ((1+he+hg:Nat):Int))=H8 at X f8 t8 |-;refine⟨C,_,_,_,X.ins,T.cl,T.pd,PX _,_,UH.k (k:=Sum.inr y) X.pd<|Yi (by show S.pd.length<=1000;omega),?_⟩;have N2:=X.put_pd<|putK S.pd (Sum.inr y)<|.int ((1+max pe pg:Nat):Int);have f9:=f8.put (x:=J.pd) (by simp[KA6.ds])<|.dK<|putK S.pd (Sum.inr y)<|.int ((1+max pe pg:Nat):Int);have t9:=t8.trans<|(KFr.put (KFr.refl J H8) (x:=J.pd) (by simp[KA6.ds])<|.dK<|putK S.pd (Sum.inr y)<|.int ((1+max pe pg:Nat):Int)).tl X;exact q _ p4 f9 N2 ⟨_,t9.2 _ _ h4,HasL.tl t9 _ hw⟩
end
end K4
namespace L2
open PySem
def CO(G:KK top c d J)(L:y∈J.map (·.1)):c y<=5\/c y<=top:=by
 obtain⟨s,M⟩:=JJ L;have Z:=G.at M
 cases s with
 |tags B=>obtain⟨T,R,O,_⟩:=Z;exact .inl<|by omega
 |pair a b=>obtain⟨T,R,O,N,_⟩:=Z;exact .inr N
def NH{L:kQ}(e:Z.map (·.1)=L.map (λk=>(Sum.inr k.1:Key)))(h:y∉L.map (·.1)):VD Z (Sum.inr y)=none:=by
 unfold VD
 cases q:Z.find? λJ=>decide (J.1=Sum.inr y)with
 |none=>rfl
 |some J=>
  have m:=zz q;have M:=List.find?_some q;have z:J.1=Sum.inr y:=Zr M;have G:(Sum.inr y:Key)∈Z.map (·.1):=ZU.mpr ⟨J,m,z⟩;rw[e]at G;obtain⟨k,N,O⟩:=ZU.mp G;exact Zp (ZU.mpr ⟨k,N,Sum.inr.inj O⟩) h
def UY{Z:kQ}{s:Shp}(h:z∈(Z++[(y,s)]).map (·.1))(n:z≠y):z∈Z.map (·.1):=by
 rw[ZI,ZV]at h;rcases h with h|h
 .exact h
 .exact Zp (ZO.mp h) n
def KR.snoc(k:KR H S Z d)(t:TL H A)(L:KK 30 c d Z)(P:KK1 30 c d (Z.map (·.1)) y s)(E:y∉Z.map (·.1))(M:S'.sh=putK S.sh (Sum.inr y) v)(hv:Has A v s.dat)(R:S'.wo=putK S.wo (Sum.inr y) (.ref r))(hr:∃D,A r=some (.lst D)/\HasL A D ((wOf Z 3 s).map W.dat))(B:S'.he=putK S.he (Sum.inr y) (.int (hOf Z 3 s:Nat)))(T:S'.pd=putK S.pd (Sum.inr y) (.int (d y:Nat)))(C:∀x:Str,VD S'.tk (Sum.inr x)=if JW x s=true then some (.str y)else VD S.tk (Sum.inr x))(i:S'.tk.length<=S.tk.length+4)(I:∀x,JW x s=true->JT Z x=none)(X:∀a b:Str,VD S'.pk [Sum.inr a,Sum.inr b]=if JH a b s=true then some (.str y)else VD S.pk [Sum.inr a,Sum.inr b])(h:S'.pk.length<=S.pk.length+4)(U:∀a b,JH a b s=true->V4 Z a b=none):
  KR A S' (Z++[(y,s)]) d:=by
 have Q:=k.tl t;have j:=NH k.ke E
 have hw:Y8 (Z++[(y,s)]) 3 y=wOf Z 3 s:=by
  rw[Wc (TJ E)]
  cases s with
  |tags m=>rfl
  |pair a b=>
   obtain⟨O,N,w,u,f,p⟩:=P;have o:=yA (d a)<|d b;have l:=yr (d a)<|d b;show(W.non::_)=(W.non::_);rw[Jw L _ 2 a O,Jw L _ 2 b N,UT L 2 3 a O (by omega)<|by omega,UT L 2 3 b N (by omega) (by omega)]
 have hh:X8 (Z++[(y,s)]) 3 y=hOf Z 3 s:=by
  rw[WX (TJ E)]
  cases s with
  |tags m=>rfl
  |pair a b=>
   obtain⟨O,N,w,u,f,p⟩:=P;have o:=yA (d a)<|d b;have l:=yr (d a)<|d b;show 1+_+_=1+_+_;rw[Up L _ 2 a O,Up L _ 2 b N,Xk L 2 3 a O (by omega)<|by omega,Xk L 2 3 b N (by omega) (by omega)]
 have F:∀{z:Str},z≠y->¬(Sum.inr z:Key)=Sum.inr y:=λn q=>n<|Sum.inr.inj q;obtain⟨b1,b2,b3,b4,b5,b6⟩:=k.ln;exists ?_,λz g G=>?_,λz G=>?_,λz G=>?_,λz G=>?_,λx=>?_,λa b=>?_
 .rw [M,UO v j,ZI,ZI,k.ke];rfl
 .rw [M,UJ]
  by_cases e:z=y
  .subst e
   rw[TJ E]at G;cases G;rw[Zn rfl];exact⟨v,Y,hv⟩
  .rw [Zo (F e)]
   have J:=UY (ZU.mpr ⟨_,Jx G,rfl⟩) e;rw[Wj J]at G;exact Q.sh z g G
 .rw [R,UJ]
  by_cases e:z=y
  .subst e
   rw[Zn rfl,hw];obtain⟨D,g1,g2⟩:=hr;exact⟨r,D,Y,g1,g2⟩
  .rw [Zo (F e)]
   have J:=UY G e;rw[Jw L _ 3 z J];exact Q.wo z J
 .rw [B,UJ]
  by_cases e:z=y
  .subst e
   rw[Zn rfl,hh]
  .rw [Zo (F e)]
   have J:=UY G e;rw[Up L _ 3 z J];exact k.he z J
 .rw [T,UJ]
  by_cases e:z=y
  .subst e
   rw[Zn rfl]
  .rw [Zo (F e)]
   exact k.pd z<|UY G e
 .rw [C x]
  have e:JT (Z++[(y,s)]) x=(JT Z x).or (if JW x s=true then some y else none):=by
   unfold JT;rw[Xp]
   cases Z.find? λk=>JW x k.2 with
   |some k=>rfl
   |none=>
    show Option.map _ (if JW x s=true then some (y,s)else none)=_;cases JW x s <;> rfl
  rw[e]
  cases hx:JW x s with
  |true=>rw[I x hx];rfl
  |false=>
   rw[k.tk x];cases JT Z x <;> rfl
 .rw [X a b]
  have e:V4 (Z++[(y,s)]) a b=(V4 Z a b).or (if JH a b s=true then some y else none):=by
   unfold V4;rw[Xp]
   cases Z.find? λk=>JH a b k.2 with
   |some k=>rfl
   |none=>
    show Option.map _ (if JH a b s=true then some (y,s)else none)=_;cases JH a b s <;> rfl
  rw[e]
  cases hx:JH a b s with
  |true=>rw[U a b hx];rfl
  |false=>
   rw[k.pk a b];cases V4 Z a b <;> rfl
 .rw [ZJ,ze,M,R,B,T]
  have:=V9 S.sh (Sum.inr y) v;have:=V9 S.wo (Sum.inr y)<|.ref r;have:=V9 S.he (Sum.inr y)<|.int (hOf Z 3 s:Nat);have:=V9 S.pd (Sum.inr y)<|.int (d y:Nat);exact⟨by omega,by omega,by omega,by omega,by omega,by omega⟩
end L2
namespace K4
open PySem L2
section
variable{f g C gt gp gn:Addr}
def MH(C:Addr):Sp:=λM H Q _=>∃(A:KA6)(S:KC)(y:Str)(v:V)(s:Shp)(Z:kQ)(c d:kU),M=[.ref A.t,.str y,v]/\KD H C A S/\KR H S Z d/\KK 30 c d Z/\KK1 30 c d (Z.map (·.1)) y s/\y∉Z.map (·.1)/\
 (1<=y.length/\y.length<=8/\∀c∈y.cps.toList,97<=c/\c<97+26)/\(∀G,s=.tags G->Wds 65 G)/\(∀x,JW x s=true->JT Z x=none)/\(∀a b,JH a b s=true->V4 Z a b=none)/\Has H v s.dat/\Z.length<=6/\
 ∀J L,KFr A H J->KD J C A L->KR J L (Z++[(y,s)]) d->Q .non J
def zN(A:KA6):(Gb A).lookup ("take_tags":Str)=none:=rfl
def zO(A:KA6):(Gb A).lookup ("take_pair":Str)=none:=rfl
def OL:Yq ["self","name","shape"] ["self","name","shape"] (Yb Bn):=Y6
def Ke(B:Blt mg)(T:KCl K C)(F:Fun K "take" "Kinds.take" Bn f fd)(GN:Ym P w K mg base CX0 n gn nd' ["text"] (XC 97))(bN:Binds K nd' ["text"] [])(kN:W.keepIn K (.ref gn)=true)(mN:mg "is_name"=some (.ref gn))(GT:Ym P w K mg base CX0 n gt td ["self","name","tags"] (BV C))(bT:Binds K td ["self","name","tags"] [])(mT:V1 K C "take_tags" gt)(GP:Ym P w K mg base CX0 n gp pd' ["self","name","one","other"] (MF C))(bP:Binds K pd' ["self","name","one","other"] [])(mP:V1 K C "take_pair" gp):
  Ym P w K mg base CX0 (n+1) f fd ["self","name","shape"] (MH C):=by
 refine F.oq OL λJ5 A Z8 s H vs Q E hr h=>?_;obtain⟨M,S,y,v,s,U,c,d,rfl,kd,R,o,k1,ny,⟨y1,y8,yc⟩,wt,D,I,hv,k6,q⟩:=h;have hu:=Jz hr;refine⟨_,YW (Y2 (Vx<|Vs<|Xg GN hr rfl mN kN bN .nil VQ (pa1<|pv 1)) (YY Jf) Yr)
  (YW (Y2 (UP<|X5 hu (pv 1)<|VE (pv 0) rfl) (YY Jf) Yr)
  (YW (Y2 (PW.pt<|XH (Yn Vk (Yt Yo rfl B.len Zs (pa1<|pv 2)) YX<|Yu _)<|UW<|Yn Vk (Yf Yl (pv 2) YX) Y3<|Yu _)
   (YY<|VF<|Vd (pv 0) T.cl mT GT hr bT .nil VQ<|pa2 (pv 1)<|Yf Yl (pv 2) YX)
   (YY (Y2 (PW.pt<|XH (Yn Vk (Yt Yo rfl B.len Zs (pa1<|pv 2)) YX<|Yu _)<|UW<|Yn Vk (Yf Yl (pv 2) YX) Y3<|Yu _)
    (YY<|VF<|Vd (pv 0) T.cl mP GP hr bP .nil VQ<|pa3 (pv 1) (Yf Yl (pv 2) YX)<|Yf Yl (pv 2) YX)
    (YY Jf))))
  (YY<|V3 hu (VE (pv 0) rfl) (pv 1) (pv 2) rfl))),?_⟩
 show let a:=_;let b:=_;let c:=_;let d:=_;let e:=Y9 _ c d;let f:=Yg (Y9 _ b e) a;let g:=_;let h:=Yg (Y9 _ g _) f;let i:=_;Yg (Y9 _ i _) h _ _ _
 intros
 refine⟨y,Y,y1,y8,yc,λH1 s1=>⟨_,Y,?_⟩⟩;refine Y0 (by simp) ?_;have J:=kd.mono s1;have X:=R.tl s1.tl;have N:=hv.mono s1;have gn:V2 H1 M.sh (.str y) none:=by rw[<-NH R.ke ny];exact V2.k (k:=Sum.inr y) J.sh
 exists C,_,_,_,J.ins,T.cl,T.sh,N1 _,_,gn,_,Y;refine Y0 (by simp) ?_;obtain⟨b1,b2,b3,b4,b5,b6⟩:=R.ln
 cases s with
 |tags u=>
  obtain⟨p,l,rfl,O,hl⟩:=J0 N;have l2:([V.str "tags",V.ref l]:kK).length=2:=rfl;exists p,_,Y,.inr<|Z0 O,rfl,_,rfl;refine VH (by simp) ?_;exists _,_,Z0 O,Y,Y,_,Y;refine VH (by simp) ?_;obtain⟨t1,t4,_,t0,_⟩:=k1;refine⟨_,_,J.ins,zN _,_,_,Z0 O,Y,M,S,y,l,u,Y,J,hl,t1,t4,wt u Y,λx hx=>?_,by omega,by omega,by omega,by omega,λH2 J4 r f2 Z tv tl t=>?_⟩
  .rw [R.tk x,D x (by unfold JW;exact decide_eq_true hx)];rfl
  .have tl2:=f2.tl J
   refine⟨C,_,_,_,Z.ins,T.cl,T.sh,N1 _,_,UH.k (k:=Sum.inr y) Z.sh<|Yi (by show S.sh.length<=1000;omega),?_⟩;have j:=Z.put_sh<|putK S.sh (Sum.inr y)<|.ref p;have f3:=f2.put (x:=M.sh) (by simp[KA6.ds])<|.dK<|putK S.sh (Sum.inr y)<|.ref p;have G:=tl2.trans<|(KFr.put (KFr.refl M H2) (x:=M.sh) (by simp[KA6.ds])<|.dK<|putK S.sh (Sum.inr y)<|.ref p).tl Z;have L:=(KFr.put (KFr.refl M H2) (x:=M.sh) (by simp[KA6.ds])<|.dK<|putK S.sh (Sum.inr y)<|.ref p).tl Z;refine q _ _ (s1.kfr.trans f3) j<|KR.snoc (v:=.ref p) (r:=r) X G o ⟨t1,t4,by assumption,t0,by assumption⟩ ny rfl (Has.tl G _ N) rfl ⟨_,L.2 _ _ t,?_⟩ rfl (by rw[t0];rfl) (λx=>?_) tl D (λa b=>rfl) (v7 _ _) I
   .show HasL _ (V.non::u.map V.str) ((W.non::u.map W.tag).map W.dat)
    exact Z2 EY<|NP u
   .rw [tv x]
    unfold JW
    by_cases m:x∈u
    .rw [Zn m,Zn (decide_eq_true m)]
    .rw [Zo m,Zo (by simp[m])]
 |pair a b=>
  obtain⟨p,rfl,O⟩:=X9 N;obtain⟨q1,q2,q3,q4,q5,q6⟩:=id k1;have m1:=yA (d a)<|d b;have m2:=yr (d a)<|d b;exists p,_,Y,.inr<|Z0 O,rfl,_,rfl;refine Y0 (by simp) ?_;refine Y0 (by simp) ?_;exists p,_,Y,.inr<|Z0 O,rfl,_,rfl;refine VH (by simp) ?_;exists _,_,Z0 O,Y,Y,_,Y;refine VH (by simp) ?_;obtain⟨la,pa,_⟩:=Ui o 3 a q1 (by omega);obtain⟨lb,pb,_⟩:=Ui o 3 b q2<|by omega
  have pt:∀z,z∈U.map (·.1)->Pt H1 S z (Y8 U 3 z) (X8 U 3 z) (d z):=λz hz=>by
   obtain⟨s',J2⟩:=JJ hz;obtain⟨v',e1,_⟩:=R.sh z s' J2;exact⟨by rw[e1];rfl,X.wo z hz,R.he z hz,R.pd z hz⟩
  have ca:c a<=30:=by rcases CO o q1 with h|h <;> omega
  have cb:c b<=30:=by rcases CO o q2 with h|h <;> omega
  refine⟨_,_,J.ins,zO _,_,_,Z0 O,Y,_,_,Z0 O,Y,M,S,y,a,b,Y8 U 3 a,Y8 U 3 b,X8 U 3 a,X8 U 3 b,d a,d b,Y,J,pt a q1,pt b q2,?_,by omega,?_,by omega,by omega,by omega,by omega,by omega,by omega,λz=>by subst z;exact ny q1,λz=>by subst z;exact ny q2,λH2 r f2 Z t=>?_⟩
  .rw [R.pk a b,I a b (by unfold JH;simp)];rfl
  .rw [la,lb];omega
  .have tl2:=f2.tl J
   refine⟨C,_,_,_,Z.ins,T.cl,T.sh,N1 _,_,UH.k (k:=Sum.inr y) Z.sh<|Yi (by show S.sh.length<=1000;omega),?_⟩;have j:=Z.put_sh<|putK S.sh (Sum.inr y)<|.ref p;have f3:=f2.put (x:=M.sh) (by simp[KA6.ds])<|.dK<|putK S.sh (Sum.inr y)<|.ref p;have L:=(KFr.put (KFr.refl M H2) (x:=M.sh) (by simp[KA6.ds])<|.dK<|putK S.sh (Sum.inr y)<|.ref p).tl Z;have G:=tl2.trans L;obtain⟨xs,J1,Z9⟩:=t;refine q _ _ (s1.kfr.trans f3) j<|KR.snoc (v:=.ref p) (r:=r) X G o k1 ny rfl (Has.tl G _ N) rfl ⟨xs,L.2 _ _ J1,HasL.tl L _ Z9⟩ rfl (by rw[q5]) (λx=>rfl) (v7 _ _) D (λe g=>?_) (by have:=V9 S.pk [Sum.inr a,Sum.inr b]<|.str y;show(putK S.pk [Sum.inr a,Sum.inr b]<|V.str y).length<=_;omega) I;show VD (putK S.pk [Sum.inr a,Sum.inr b]<|V.str y) [Sum.inr e,Sum.inr g]=_;rw[UJ];unfold JH
   by_cases h1:a=e
   .by_cases h2:b=g
    .subst h1 h2;simp
    .have z:¬([Sum.inr e,Sum.inr g]:List Key)=[Sum.inr a,Sum.inr b]:=λw=>by injection w with w1 w2;injection w2 with w2 _;exact h2 (Sum.inr.inj w2).symm
     rw[Zo z,Zo (by simp[h2])]
   .have z:¬([Sum.inr e,Sum.inr g]:List Key)=[Sum.inr a,Sum.inr b]:=λw=>by injection w with w1 _;exact h1 (Sum.inr.inj w1).symm
    rw[Zo z,Zo (by simp[h1])]
end
end K4
namespace L2
open PySem
def JP(L:H x=some (.ins C Z fs))(G:H p=none):
  upd (upd H p o) x (.ins C Z<|VG f (.ref p) fs) x=some (.ins C Z<|VG f (.ref p) fs)/\upd (upd H p o) x (.ins C Z<|VG f (.ref p) fs) p=some o/\p≠x/\∀b u,b≠x->H b=some u->upd (upd H p o) x (.ins C Z<|VG f (.ref p) fs) b=some u:=by
 have J:p≠x:=(Yk L G).symm;exact⟨YZ,(Yc J).trans YZ,J,λb u M h=>by rw[Yc M,Yc (Yk h G)];exact h⟩
def KK.take(h:KK top c d J)(i:Nat):KK top c d (J.take i):=λj y s e=>by
 have Z:j<i:=by
  have:=(ZE.mp e).1;rw[ZL]at this;omega
 rw[ya,Zn Z]at e;have q:=h j y s e;rw[List.take_take,vb (Zf Z)];exact q
def KG.apart(g:KG G){i j:Nat}(M:G[i]?=some (y,.tags J))(L:G[j]?=some (z,.tags Z))(O:x∈J)(N:x∈Z):i=j:=g.ap i j y z J Z x M L O N
def KG.ntk(g:KG Z)(T:Z[i]?=some (y,s))(x:Str)(h:JW x s=true):JT (Z.take i) x=none:=by
 cases s with
 |pair a b=>cases h
 |tags N=>
  have R:x∈N:=Zr h;unfold JT
  cases e:(Z.take i).find? λk=>JW x k.2 with
  |none=>rfl
  |some k=>
   have m:=zz e;have q:=List.find?_some e;obtain⟨z,O⟩:=k
   cases O with
   |pair a b=>cases q
   |tags L=>
    have J:x∈L:=Zr q;obtain⟨j,M,B⟩:=vD.mp m;have G:j<i:=by rw[ZL]at M;omega
    have D:Z[j]?=some (z,.tags L):=by
     have:=ZC M;rw[B,ya,Zn G]at this;exact this
    have:=g.apart T D R J;omega
def KG.npk(g:KG J)(N:J[i]?=some (y,s))(a b:Str)(h:JH a b s=true):V4 (J.take i) a b=none:=by
 have L:∀{Z:Shp},JH a b Z=true->Z=.pair a b:=λ{Z} h=>by
  cases Z with
  |tags D=>cases h
  |pair c e=>
   unfold JH at h;rw[ZX]at h;rw[Zr h.1,Zr h.2]
 unfold V4
 cases e:(J.take i).find? λk=>JH a b k.2 with
 |none=>rfl
 |some k=>
  have m:=zz e;have q:=List.find?_some e;obtain⟨z,Z⟩:=k;have B:=L h;have R:Z=.pair a b:=L q;subst B R;obtain⟨j,M,O⟩:=vD.mp m;have G:j<i:=by rw[ZL]at M;omega
  have T:J[j]?=some (z,.pair a b):=by
   have:=ZC M;rw[O,ya,Zn G]at this;exact this
  have:=g.pr i j y z a b N T;omega
end L2
namespace K4
open PySem L2
section
variable{f g C gt:Addr}
def BW(C:Addr):Sp:=λL H Q _=>∃(x M l:Addr)(G:kK)(Z:kQ)(c d:kU),L=[.ref x,.ref l]/\H x=some (.ins C M [])/\H l=some (.lst G)/\HasL H G (Z.map Vv)/\KK 30 c d Z/\(Z.map (·.1)).Nodup/\KG Z/\0<Z.length/\Z.length<=6/\
 ∀J,(∀b o,b≠x->H b=some o->J b=some o)->KI J C x Z d->Q .non J
def CM(A:KA6):(Gb A).lookup ("take":Str)=none:=rfl
def Bh:Yq ["self","told","name","shape"] ["self","told"] (Yb Ir):=Y6
def Oy(B:Blt mg)(T:KCl K C)(F:Fun K "__init__" "Kinds.__init__" Ir f fd)(hM:mg "MOST_KINDS"=some u)(rM:RelV (.int 6) u)(GT:Ym P w K mg base CX0 n gt td ["self","name","shape"] (MH C))(bT:Binds K td ["self","name","shape"] [])(mT:V1 K C "take" gt):
  Ym P w K mg base CX0 (n+1) f fd ["self","told"] (BW C):=by
 refine F.oq Bh λI3 A R4 s H vs Q E hr h=>?_;obtain⟨x,M,l,xs,ks,c,d,rfl,hx,hl,J2,kk,nd,kg,k0,k6,q⟩:=h;refine⟨_,YW (Y2 (Vx<|Tc Ti Ti YX (Yt Yo rfl B.len Zs (pa1<|pv 1))<|JK rfl hM rM) (YY Jf) Yr)
  (YW (Jj (pv 0) JE rfl) (YW (Jj (pv 0) JE rfl) (YW (Jj (pv 0) JE rfl) (YW (Jj (pv 0) JE rfl) (YW (Jj (pv 0) JE rfl) (YW (Jj (pv 0) KL rfl)
  (YY (Vy Zt rfl (VL<|pv 1) (VI (n:=2) rfl (Yj (Yd 2 Bh.nd)<|Yj (Yd 3 Bh.nd) Y7))
   (YY<|VF<|Vd (pv 0) T.cl mT GT hr bT .nil VQ<|pa2 (pv 2)<|pv 3))))))))),?_⟩
 show let a:=_;let b:=J6 _ _ a;let c:=Yg _ b;let d:=Yg _ c;let e:=Yg _ d;let f:=Yg _ e;let g:=Yg _ f;let h:=Yg _ g;let i:=_;Yg (Y9 _ i _) h _ _ _
 intros
 have lx:=J2.length;rw[ZA]at lx;exists l,_,Y,.inl<|Z1 hl,_,rfl;refine VH (by simp;omega) ?_;exists _,Y;refine Y0 (by simp;omega) ?_;intro X Z8;refine⟨x,C,M,_,Y,by rw[Yc (Yk hx Z8)];exact hx,T.cl,T.sh,by decide,?_⟩;obtain⟨x1,a1,n1,r⟩:=JP (f:="shapes") (o:=.dK []) hx Z8;generalize upd (upd H X<|.dK []) x (.ins C M<|VG "shapes" (.ref X) [])=H1 at x1 a1 r |-;intro p2 N;refine⟨x,C,M,_,Y,by rw[Yc (Yk x1 N)];exact x1,T.cl,T.wo,(by show 1<1000;decide),?_⟩;obtain⟨x2,a2,n2,p⟩:=JP (f:="worths") (o:=.dK []) x1 N;generalize upd (upd H1 p2<|.dK []) x (.ins C M<|VG "worths" (.ref p2)<|VG "shapes" (.ref X) [])=H2 at x2 a2 p |-;intro p3 L;refine⟨x,C,M,_,Y,by rw[Yc (Yk x2 L)];exact x2,T.cl,T.he,(by show 2<1000;decide),?_⟩;obtain⟨x3,a3,n3,k⟩:=JP (f:="heights") (o:=.dK []) x2 L;generalize upd (upd H2 p3<|.dK []) x (.ins C M<|VG "heights" (.ref p3)<|VG "worths" (.ref p2)<|VG "shapes" (.ref X) [])=H3 at x3 a3 k |-;intro p4 G;refine⟨x,C,M,_,Y,by rw[Yc (Yk x3 G)];exact x3,T.cl,T.pd,(by show 3<1000;decide),?_⟩;obtain⟨x4,a4,n4,m⟩:=JP (f:="pairs_deep") (o:=.dK []) x3 G;generalize upd (upd H3 p4<|.dK []) x (.ins C M<|VG "pairs_deep" (.ref p4)<|VG "heights" (.ref p3)<|VG "worths" (.ref p2)<|VG "shapes" (.ref X) [])=H4 at x4 a4 m |-;intro p5 J;refine⟨x,C,M,_,Y,by rw[Yc (Yk x4 J)];exact x4,T.cl,T.tk,(by show 4<1000;decide),?_⟩;obtain⟨x5,a5,n5,t⟩:=JP (f:="tag_kinds") (o:=.dK []) x4 J;generalize upd (upd H4 p5<|.dK []) x (.ins C M<|VG "tag_kinds" (.ref p5)<|VG "pairs_deep" (.ref p4)<|VG "heights" (.ref p3)<|VG "worths" (.ref p2)<|VG "shapes" (.ref X) [])=H5 at x5 a5 t |-;intro p6 Z;refine⟨x,C,M,_,Y,by rw[Yc (Yk x5 Z)];exact x5,T.cl,T.pk,(by show 5<1000;decide),?_⟩;obtain⟨x6,a6,n6,j⟩:=JP (f:="pair_kinds") (o:=.dT []) x5 Z;generalize upd (upd H5 p6<|.dT []) x (.ins C M<|VG "pair_kinds" (.ref p6)<|VG "tag_kinds" (.ref p5)<|VG "pairs_deep" (.ref p4)<|VG "heights" (.ref p3)<|VG "worths" (.ref p2)<|VG "shapes" (.ref X) [])=H6 at x6 a6 j |-
 let D:KA6:=⟨x,M,X,p2,p3,p4,p5,p6⟩
 have frame:∀b o,b≠x->H b=some o->H6 b=some o:=λb o R h=>j b o R<|t b o R<|m b o R<|k b o R<|p b o R<|r b o R h;have R1:=p _ _ n1 a1;have N2:=k _ _ n1 R1;have M2:=m _ _ n1 N2;have L1:=t _ _ n1 M2;have I1:=j _ _ n1 L1;have G5:=k _ _ n2 a2;have G4:=m _ _ n2 G5;have G3:=t _ _ n2 G4;have I0:=j _ _ n2 G3;have G2:=m _ _ n3 a3;have G1:=t _ _ n3 G2;have F9:=j _ _ n3 G1;have J5:=t _ _ n4 a4;have F8:=j _ _ n4 J5;have F7:=j _ _ n5 a5
 have R6:D.ds.Nodup:=by
  have F6:=Yk a1 N;have F5:=Yk R1 L;have F4:=Yk N2 G;have F3:=Yk M2 J;have F2:=Yk L1 Z;have F1:=Yk a2 L;have D3:=Yk G5 G;have D0:=Yk G4 J;have T9:=Yk G3 Z;have T8:=Yk a3 G;have T7:=Yk G2 J;have T6:=Yk G1 Z;have T5:=Yk a4 J;have T4:=Yk J5 Z;have T3:=Yk a5 Z;simp[KA6.ds,D,F6,F5,F4,F3,F2,F1,D3,D0,T9,T8,T7,T6,T5,T4,T3]
 have kd:KD H6 C D ⟨[],[],[],[],[],[]⟩:=⟨x6,I1,I0,F9,F8,F7,a6,R6⟩
 have R5:∀b,b∈D.ds->H b=none:=λb R=>by
  cases e:H b with
  |none=>rfl
  |some o=>
   simp only[KA6.ds,D,Zb,yn,or_false]at R;rcases R with z|z|z|z|z|z
   .subst z;rw[Z8]at e;cases e
   .subst z;rw[r _ _ n2 e]at N;cases N
   .subst z;rw[p _ _ n3 (r _ _ n3 e)]at L;cases L
   .subst z;rw[k _ _ n4 (p _ _ n4<|r _ _ n4 e)]at G;cases G
   .subst z;rw[m _ _ n5 (k _ _ n5<|p _ _ n5<|r _ _ n5 e)]at J;cases J
   .subst z;rw[t _ _ n6 (m _ _ n6<|k _ _ n6<|p _ _ n6<|r _ _ n6 e)]at Z;cases Z
 have R7:l≠x:=V8 hl hx (by intro z;cases z);have J4:=frame _ _ R7 hl;have Z9:TL H H6:=⟨λb ys h=>frame _ _ (V8 h hx (by intro z;cases z)) h,λb ys h=>frame _ _ (V8 h hx (by intro z;cases z)) h⟩;have T0:=HasL.tl Z9 _ J2;exists ⟨_,Z1 J4⟩
 let I:kL:=λi U H'=>∃S z1 z2,KFr D H6 H'/\KD H' C D S/\KR H' S (ks.take i) d/\U=[some (.ref x),some<|.ref l,z1,z2]
 refine UZ (xs:=xs) I ⟨_,_,_,KFr.refl _ _,kd,?_,Y⟩ ?_ ?_ ?_
 .rw [vk]
  exact⟨Y,λy s e=>by simp[VX]at e,λy hy=>by simp at hy,λy hy=>by simp at hy,λy hy=>by simp at hy,λy=>Y,λa b=>Y,by decide⟩
 .rintro i U H' _ ⟨S,z1,z2,fr,kd',kr',rfl⟩
  exact Z1<|(fr.tl kd).2 _ _ J4
 .rintro BB RR i v U H' hv ⟨S,z1,z2,fr,kd',kr',rfl⟩
  have I2:=(ZE.mp hv).1;obtain⟨dv,O,T2⟩:=T0.get hv;rw[ZG]at O
  cases hk:ks[i]? with
  |none=>rw[hk]at O;cases O
  |some ys=>
   rw[hk]at O;cases O;obtain⟨y,sh⟩:=ys;have R3:=fr.tl kd;obtain⟨a,v2,rfl,ha,T1⟩:=Vw<|Has.tl R3 _ T2;have my:y∈ks.map (·.1):=ZU.mpr ⟨_,ZH hk,rfl⟩
   have ny:y∉(ks.take i).map (·.1):=λhm=>by
    have q':((ks.take i++[(y,sh)]).map (·.1)).Nodup:=by rw[<-take_snoc hk];exact nd.sublist<|(yp _ _).map _
    rw[ZI]at q';exact(yC.mp q').2.2 y hm y (by simp) rfl
   exists _,Z0 ha,Y;refine⟨_,_,kd'.ins,CM D,D,S,y,v2,sh,ks.take i,c,d,Y,kd',kr',kk.take i,kk i y sh hk,ny,⟨(kg.nm.len y my).1,(kg.nm.len y my).2,kg.nm.abc y my⟩,λts e=>?_,kg.ntk hk,kg.npk hk,T1,by rw[ZL];omega,λH2 S2 f2 R8 J1=>?_⟩
   .subst e
    exact kg.tags<|ZH hk
   .rw [<-take_snoc hk]at J1
    exact⟨S2,_,_,fr.trans f2,R8,J1,Y⟩
 .rintro U H' ⟨S,z1,z2,fr,kd',kr',rfl⟩
  rw[Ze (by omega)]at kr';refine q H' (λb o R h=>fr b o (λhm=>?_)<|frame b o R h) ⟨D,S,rfl,kd',kr'⟩;rw[R5 b hm]at h;cases h
end
end K4
namespace L2
open PySem
def RD{α:Type}{p:α->Bool}{l:List α}{x:α}(h:(l.take i).find? p=none)(e:l[i]?=some x)(Z:p x=true):l.find? p=some x:=by
 have J:=(ZE.mp e).1;have G:l.drop i=x::l.drop (i+1):=by rw[List.drop_eq_getElem_cons J,(ZE.mp e).2]
 rw[<-vw i l,jD,h,G,zo,Z]
 rfl
def Pr(h:VX Z y=some s):∃i:Nat,Z[i]?=some (y,s):=zi.mp<|Jx h
def BR(g:KG Z)(h:VX Z y=some (.tags J))(m:t∈J):JT Z t=some y:=by
 obtain⟨i,L⟩:=Pr h;have G:JW t (.tags J)=true:=by unfold JW;exact decide_eq_true m
 have n:=g.ntk L t G;unfold JT at n |-
 rw[RD (by cases e:(Z.take i).find? λk=>JW t k.2 with
  |none=>rfl
  |some k=>rw[e]at n;cases n) L G]
 rfl
def Nd(g:KG Z)(h:VX Z y=some (.pair a b)):V4 Z a b=some y:=by
 obtain⟨i,G⟩:=Pr h;have J:JH a b (.pair a b)=true:=by unfold JH;simp
 have n:=g.npk G a b J;unfold V4 at n |-
 rw[RD (by cases e:(Z.take i).find? λk=>JH a b k.2 with
  |none=>rfl
  |some k=>rw[e]at n;cases n) G J]
 rfl
def LI(h:Has H v (.tup [.str b,d])):∃a u,v=.ref a/\H a=some (.tup [.str b,u])/\Has H u d:=by
 obtain⟨t,R,rfl,L,M⟩:=Y5 h;obtain⟨T,D,rfl,O,J⟩:=Yh M;obtain⟨G,B,rfl,N,Z⟩:=Yh J;obtain rfl:=VS Z;obtain rfl:=has_str O;exact⟨t,G,Y,L,N⟩
def Ym.sub{K:W.Frag}(F:Ym P w K N base CX k f O M L)(h:∀Z H Q E,sp' Z H Q E->L Z H Q E):Ym P w K N base CX k f O M sp':=
 ⟨λZ H Q E q=>F.len Z H Q E<|h Z H Q E q,λA J s H args G Z Q E a b c d q=>F.run A J s H args G Z Q E a b c d<|h Z H Q E q⟩
def Fo:List (Option Str)->Option (ky)
 |[]=>some []
 |none::_=>none
 |some x::r=>(Fo r).map (x:: ·)
theorem BH:∀Z:ky,Fo (Z.map some)=some Z
 |[]=>rfl
 |z::Z=>by show(Fo<|Z.map some).map (z:: ·)=_;rw[BH Z];rfl
theorem Rr:∀{l:List (Option Str)},none∈l->Fo l=none
 |none::l,_=>rfl
 |some y::l,h=>by
  show(Fo l).map (y:: ·)=none;rw[Rr ((Zb.mp h).resolve_left λe=>nomatch e)];rfl
theorem Eo:∀{l:List (Option Str)},none∉l->∃Z,l=List.map some Z
 |[],_=>⟨[],rfl⟩
 |none::_,h=>Zp ZY h
 |some y::l,h=>let⟨Z,e⟩:=Eo (l:=l) λm=>h<|ZK _ m;⟨y::Z,by rw[e];rfl⟩
def OA:V->Option Str
 |.str y=>some y
 |_=>none
open Classical in
noncomputable def own (ks:kQ) (hd:Hds) (kv:kJ):Bd->List Str->Option Str
 |.tag t,_=>JT ks t
 |.name x,_=>(VD kv<|Sum.inr x).bind OA
 |.pair _ _,zs=>match zs with|[a,b]=>V4 ks a b|_=>none
 |.one _,zs=>match zs with|[z]=>(match VX ks z with|some (.pair a _)=>some a|_=>none)|_=>none
 |.other _,zs=>match zs with|[z]=>(match VX ks z with|some (.pair _ b)=>some b|_=>none)|_=>none
 |.choose _ ts _,zs=>match zs with|z::y::r=>if VX ks z=some (.tags ts)/\∀u∈r,u=y then some y else none|_=>none
 |.ask f _,zs=>match hd f with|some (ps,k)=>if ps.map (·.2)=zs then some k else none|none=>none
 |.letb _ z _ _,zs=>match zs with|[a,y]=>if a=z then some y else none|_=>none
def UA(ks:kQ)(kv:kJ):Bd->Prop
 |.letb x z _ _=>(VD kv<|Sum.inr x).isSome=true\/z∉ks.map (·.1)
 |_=>False
open Classical in
noncomputable def kdn (ks:kQ) (hd:Hds):Nat->List (Key×V)->Bd->Option Str
 |0,_,_=>none
 |n+1,kv,b=>if UA ks kv b then none else(Fo<|b.parts.map<|kdn ks hd n<|wth kv b).bind (own ks hd kv b)
def Gu(h:UA J Z b):kdn J G (n+1) Z b=none:=by unfold kdn;exact Zn h
def Ts(h:none∈b.parts.map (kdn J G n<|wth Z b)):kdn J G (n+1) Z b=none:=by
 unfold kdn;split
 .rfl
 .rw [Rr h];rfl
def Mq(h:¬UA J Z b)(e:b.parts.map (kdn J G n<|wth Z b)=L.map some):kdn J G (n+1) Z b=own J G Z b L:=by unfold kdn;rw[Zo h,e,BH];rfl
def NK(ns:ky)(kv:kJ):Prop:=∀q∈kv,∃(x k:Str),q=(Sum.inr x,V.str k)/\k∈ns
def HK(ns:ky)(hd:Hds):Prop:=∀f Z k,hd f=some (Z,k)->k∈ns
def NK.wth(h:NK (J.map (·.1)) Z)(G:¬UA J Z b):NK (J.map (·.1)) (wth Z b):=by
 cases b with
 |letb x z e g=>
  intro q L;rcases Iz L with m|rfl
  .exact h q m
  .exact ⟨x,z,rfl,Classical.not_not.mp λm=>G<|.inr m⟩
 |_=>exact h
def Nz{Z:kQ}{p:Str×Shp->Bool}(h:(Z.find? p).map (·.1)=some y):y∈Z.map (·.1):=by
 obtain⟨k,J,rfl⟩:=Zh.mp h;exact ZU.mpr ⟨k,zz J,Y⟩
def NK.at(h:NK Z J)(e:VD J (Sum.inr x)=some v):∃k,v=.str k/\k∈Z:=by
 obtain⟨q,m,_,rfl⟩:=Fw e;obtain⟨_,k,rfl,G⟩:=h q m;exact⟨k,Y,G⟩
def Oe(G:KK 30 c d Z)(N:NK (Z.map (·.1)) J)(R:HK (Z.map (·.1)) T)(L:∀z∈M,z∈Z.map (·.1))(h:own Z T J b M=some y):y∈Z.map (·.1):=by
 cases b with
 |tag t=>exact Nz h
 |name x=>
  obtain⟨v,O,e⟩:=Option.bind_eq_some_iff.mp (show(VD J<|Sum.inr x).bind OA=some y from h);obtain⟨k,rfl,m⟩:=N.at O;cases e;exact m
 |pair a b=>
  unfold own at h;dsimp only at h;split at h
  .exact Nz h
  .cases h
 |one e=>
  unfold own at h;dsimp only at h;split at h
  .split at h
   .rename_i hs;cases h;exact(G.at hs).1
   .cases h
  .cases h
 |other e=>
  unfold own at h;dsimp only at h;split at h
  .split at h
   .rename_i hs;cases h;exact(G.at hs).2.1
   .cases h
  .cases h
 |choose e B D=>
  unfold own at h;dsimp only at h;split at h
  .split at h
   .cases h;exact L _<|by simp
   .cases h
  .cases h
 |ask f E=>
  unfold own at h;dsimp only at h;split at h
  .split at h
   .rename_i hf _;cases h;exact R _ _ _ hf
   .cases h
  .cases h
 |letb x z e g=>
  unfold own at h;dsimp only at h;split at h
  .split at h
   .cases h;exact L _<|by simp
   .cases h
  .cases h
theorem EQ(L:KK 30 c d Z)(M:HK (Z.map (·.1)) G):∀(n:Nat)(J:kJ)(b:Bd)(y:Str),NK (Z.map (·.1)) J->kdn Z G n J b=some y->y∈Z.map (·.1)
 |0,_,_,_,_,h=>nomatch h
 |n+1,J,b,y,nk,h=>by
  by_cases nb:UA Z J b
  .rw [Gu nb]at h;cases h
  by_cases hn:none∈b.parts.map (kdn Z G n<|wth J b)
  .rw [Ts hn]at h;cases h
  obtain⟨R,N⟩:=Eo hn;rw[Mq nb N]at h;refine Oe L nk M (λz O=>?_) h;have m:some z∈b.parts.map (kdn Z G n<|wth J b):=by rw[N];exact ZU.mpr ⟨z,O,Y⟩
  obtain⟨p,_,e⟩:=ZU.mp m;exact EQ L M n _ p z (nk.wth nb) e
def Qz(N:KG L)(F:∀e G J,b=.choose e G J->1<=J.length)(h:Kr L D M y b R):own L D M b R=some y:=by
 cases b with
 |tag t=>obtain⟨_,G,Z,T⟩:=h;exact BR N Z T
 |name x=>obtain⟨_,Z⟩:=h;show(VD M<|Sum.inr x).bind OA=_;rw[Z];rfl
 |pair a b=>obtain⟨U,O,rfl,Z⟩:=h;exact Nd N Z
 |one e=>obtain⟨z,O,rfl,Z⟩:=h;show(match VX L z with|some (.pair a _)=>some a|_=>none)=_;rw[Z]
 |other e=>obtain⟨z,O,rfl,Z⟩:=h;show(match VX L z with|some (.pair _ b)=>some b|_=>none)=_;rw[Z]
 |choose e G J=>
  obtain⟨z,rfl,Z,I⟩:=h;have:=F e G J rfl;obtain⟨m,E⟩:∃m,J.length=m+1:=⟨J.length-1,by omega⟩;rw[E,yi];exact Zn ⟨Z,λu B=>List.eq_of_mem_replicate B⟩
 |ask f S=>
  obtain⟨A,Z,rfl⟩:=h;unfold own;dsimp only;rw[Z];exact Zn Y
 |letb x z e g=>obtain⟨rfl,_,_⟩:=h;exact Zn Y
theorem Kd.kdn(T:KG G)(O:∀z L,VX G z=some (.tags L)->1<=L.length):∀(n:Nat)(J:kJ)(b:Bd)(y:Str),Kd G D J y b->b.dep<n->L2.kdn G D n J b=some y
 |0,_,_,_,_,h=>nomatch h
 |n+1,J,b,y,h,hn=>by
  obtain⟨Z,M,R,A⟩:=h.inv
  have E:¬UA G J b:=by
   cases b with
   |letb x z e g=>obtain⟨_,N,I⟩:=M;exact λm=>m.elim (λm=>by rw[N]at m;cases m) λm=>m I
   |_=>exact id
  have e:b.parts.map (L2.kdn G D n<|L2.wth J b)=Z.map some:=by
   refine yE λi=>?_;rw[ZG,ZG]
   cases hp:b.parts[i]? with
   |none=>
    have:Z[i]?=none:=zg.mpr (by rw[R];exact zg.mp hp);rw[this];rfl
   |some p=>
    have S:i<Z.length:=by rw[R];exact(ZE.mp hp).1
    have B:Z[i]?=some Z[i]:=ZC S;have:=Bd.dep_mem<|ZH hp;rw[B];exact congrArg some<|Kd.kdn T O n _ p _ (A i p _ hp B)<|by omega
  rw[Mq E e];refine Qz T (λC L X U=>?_) M;subst U;obtain⟨z,_,N,F⟩:=M;rw[F];exact O _ _ N
def wrs(f:Bd->List (kE)):Nat->List Bd->List (kE)
 |_,[]=>[]
 |k,c::cs=>(f c).map (((k:Nat):Int):: ·)++ wrs f (k+1) cs
open Classical in
noncomputable def wr (ks:kQ) (hd:Hds):Nat->List (Key×V)->Bd->List (kE)
 |0,_,_=>[]
 |n+1,kv,b=>if UA ks kv b then[[]]else if none∈b.parts.map (kdn ks hd n<|wth kv b)then wrs (wr ks hd n<|wth kv b) 0 b.parts else if kdn ks hd (n+1) kv b=none then[[]]else[]
theorem Ru{f:Bd->List (kE)}:∀(k:Nat)(Z ys:List Bd),wrs f k (Z++ ys)=wrs f k Z++ wrs f (k+Z.length) ys
 |k,[],ys=>by simp[wrs]
 |k,x::Z,ys=>by
  have e:k+1+Z.length=k+(Z.length+1):=by omega
  simp[wrs,Ru (k+1) Z ys,e]
def Fs{f:Bd->List (kE)}{Z:List Bd}(h:Z[i]?=some c):wrs f 0 (Z.take<|i+1)=wrs f 0 (Z.take i)++ (f c).map (((i:Nat):Int):: ·):=by
 have J:=(ZE.mp h).1;rw[take_snoc h,Ru];simp[wrs,ZL,vb (Zf J)]
theorem Rt{f:Bd->List (kE)}:∀(k:Nat)(Z:List Bd),wrs f k Z=[]↔∀c∈Z,f c=[]
 |k,[]=>by simp[wrs]
 |k,x::Z=>by simp[wrs,Rt (k+1) Z]
theorem Rv:∀(n:Nat)(Z:kJ)(b:Bd),b.dep<n->(wr J G n Z b=[]↔kdn J G n Z b≠none)
 |0,_,_,h=>Zp h<|Zu _
 |n+1,Z,b,h=>by
  unfold wr
  by_cases c1:UA J Z b
  .rw [Zn c1,Gu c1];simp
  .rw [Zo c1]
   by_cases c2:none∈b.parts.map (kdn J G n<|wth Z b)
   .rw [Zn c2,Ts c2]
    refine⟨λe=>?_,λe=>Zp Y e⟩;obtain⟨c,L,M⟩:=ZU.mp c2;have N:=Bd.dep_mem L;exact Zp M<|(Rv n (wth Z b) c<|by omega).mp<|(Rt 0 _).mp e c L
   .rw [Zo c2]
    by_cases c3:kdn J G (n+1) Z b=none
    .rw [Zn c3];simp[c3]
    .rw [Zo c3];simp[c3]
def L3(h:¬UA J Z b)(e:none∈b.parts.map (kdn J G n<|wth Z b)):wr J G (n+1) Z b=wrs (wr J G n<|wth Z b) 0 b.parts:=by
 unfold wr;rw[Zo h,Zn e]
def Fu(h:UA J Z b):[[]]=wr J G (n+1) Z b:=by unfold wr;rw[Zn h]
def QH(h:¬UA J Z b)(e:none∉b.parts.map (kdn J G n<|wth Z b))(k:kdn J G (n+1) Z b=none):[[]]=wr J G (n+1) Z b:=by unfold wr;rw[Zo h,Zo e,Zn k]
def Ft{G:List Bd}(h:∀c∈G,c.dep<n):wrs (wr L M n J) k G=[]↔none∉G.map (kdn L M n J):=by
 rw[Rt]
 constructor
 .intro z m
  obtain⟨c,Z,e⟩:=ZU.mp m;exact(Rv n J c<|h c Z).mp (z c Z) e
 .intro z c Z
  exact(Rv n J c<|h c Z).mpr λe=>z<|ZU.mpr ⟨c,Z,e⟩
def Ew{f:Bd->List (kE)}{Z:List Bd}(h:Z[i]?=some c)(e:wrs f 0 (Z.take i)=[])(J:f c=w::r):∃t,wrs f 0 Z=(((i:Nat):Int)::w)::t:=by
 exists r.map (((i:Nat):Int):: ·)++ wrs f (0+(Z.take<|i+1).length) (Z.drop<|i+1)
 conv=>lhs;rw[<-vw (i+1) Z]
 rw[Ru,Fs h,e,J];simp
end L2
namespace L2
open PySem PySem.Spec PyProof.Rows
section
variable{X:Cx}{CX:CXT}{k:Nat}{E:XK}{ta ti:TE}{t:TA}
def QQ(X:Cx)(CX:CXT)(k:Nat)(E:XK)(ta:TE)(t:TA):TE:=λU H Q=>ta U H λv L=>∃(f:Addr)(G:FuncData)(J:ky)(Z:Sp),v=.ref f/\Ym X.prog X.w X.K X.mg X.base CX k f G J Z/\W.keepIn X.K (.ref f)=true/\Binds X.K G J []/\RT Z [] E t U L Q
def KP(S:PE X (.Name x p) ta)(D:VW k X.A)(B:Je CX X E)(j:PA X (e::J) t)(C:starEach (e::J) X.env=(false,eval e X.env)::starEach J X.env:=by rfl)(G:(backTo pos<|starEach J X.env).any (·.1)=false:=by rfl):
  PE X (.Call (.Name x p) (e::J) [] pos) (QQ X CX k E ta t):=by
 intro Z s U H Q I h;refine yg<|thn (S Z s U H _ I h) λu N ⟨v,z,M,R,f,r,w,c,y,F,A,P,q⟩=>?_;subst y;obtain rfl:u=Value.ref f:=R;refine vz (h₀:=X.base) M.ok.mod.kin A (thn (j pos Z N U z _ M q) λg d ⟨m,l,L,O,T⟩=>⟨L.kIn,?_⟩) C G;exact Ta F D P .nil B L O T
def AG(a:Addr)(m:Key->Option Value)(ti:TE):TE:=λU H Q=>ti U H λv Z=>∃(q:Key)(u:Value)(y:V),v=kV q/\m q=some u/\RelV y u/\Q y Z
def Oc(A:Gl X x)(D:X.mg x=some (.ref a))(S:X.base.MapOf (VC X.prog X.w) a m)(f:X.A.units+1<cLine)(F:PE X i ti)(B:S5 i)(G:(x==("__debug__":Str))=false:=by decide):
  PE X (.Subscript (.Name x p) i pos) (AG a m ti):=by
 intro Z s U H Q I h;refine EA PySem.F.slot_dict_getitem.lookup B<|UE I A D ?_ G;refine thn (F Z s U H _ I h) λd L ⟨v,c,N,O,q,u,y,P,T,J,R⟩=>?_;subst P;have M:L.heap.MapOf (VC X.prog X.w) a m:=let⟨o,j,z,C,r⟩:=S;⟨o,j,z,N.bk _ _ C,r⟩
 have g:L.TypeIs (.ref a) "dict":=M.typeIs;exists g;exact wpAny_getItem_of (WW O) M T ⟨y,c,N.tok _,J,R⟩
end
end L2
namespace L2
open PySem
structure BA where
 t:Addr
 dx:Addr
 so:Addr
 td:Addr
 rd:Addr
 tn:Addr
def Xb(A:BA):List (Str×V):=[("sorts",.ref A.so),("told",.ref A.td),("rows",.ref A.rd),("turns",.ref A.tn)]
def psD(ps:List (Str×Str)):Dat:=.tup<|ps.map λp=>.tup [.str p.1,.str p.2]
def XB(x:Dd):Dat:=.tup [psD x.1.2.1,.str x.1.2.2,x.2.dat]
structure BD(H:Hp)(C CK:Addr)(A:BA)(kv:List (Key×V))(ks:List (Str×Shp))(d:Str->Nat)(ds:List Dd):Prop where
 ins:H A.t=some (.ins C A.dx (Xb A))
 so:KI H CK A.so ks d
 td:H A.td=some (.dK kv)
 ke:kv.map (·.1)=ds.map (λx=>(Sum.inr x.1.1:Key))
 va:HasL H (kv.map (·.2)) (ds.map XB)
 nd:(ds.map λx=>x.1.1).Nodup
def BI(H:Hp)(C CK t:Addr)(ks:kQ)(d:kU)(ds:List Dd):Prop:=∃A Z,A.t=t/\BD H C CK A Z ks d ds
def BI.mono(b:BI H C M t J d G)(e:Same H L):BI L C M t J d G:=by
 obtain⟨A,Z,h,k⟩:=b;exact⟨A,Z,h,e _ _ k.ins,k.so.mono e,e _ _ k.td,k.ke,k.va.mono e,k.nd⟩
structure BCl(K:W.Frag)(C:Addr):Prop where
 cl:Cls K C
 so:V6 K C "sorts"
 td:V6 K C "told"
 rd:V6 K C "rows"
 tn:V6 K C "turns"
def LR(A:BA):(Xb A).lookup ("sorts":Str)=some (V.ref A.so):=rfl
def FY(A:BA):(Xb A).lookup ("told":Str)=some (V.ref A.td):=rfl
def CL(A:BA):(Xb A).lookup ("told_of":Str)=none:=rfl
def BD.at(b:BD H C I A J E d O)(h:x∈O):∃v,V2 H A.td (.str x.1.1) (some v)/\Has H v (XB x):=by
 obtain⟨i,M⟩:=zi.mp h;have Z:(J.map (·.1))[i]?=(O.map λx=>(Sum.inr x.1.1:Key))[i]?:=by rw[b.ke]
 rw[ZG,ZG,M]at Z
 cases ek:J[i]? with
 |none=>rw[ek]at Z;cases Z
 |some q=>
  rw[ek]at Z;have B:q.1=Sum.inr x.1.1:=ZP Z
  have T:(J.map (·.1)).Nodup:=by
   rw[b.ke];have G:=b.nd;unfold List.Nodup at G |-;rw[vm]at G |-;exact G.imp λL z=>L<|Sum.inr.inj z
  obtain⟨F,R,D⟩:=b.va.get (show(J.map (·.2))[i]?=some q.2 by rw[ZG,ek];rfl);rw[ZG,M]at R;cases R;refine⟨q.2,?_,D⟩;have N:=Ry T<|ZH ek;rw[B]at N;rw[<-N];exact V2.k (k:=Sum.inr x.1.1) b.td
def Tv(h:Has H v (XB x)):∃a u w,v=.ref a/\H a=some (.tup [u,.str x.1.2.2,w])/\Has H u (psD x.1.2.1)/\Has H w x.2.dat:=by
 unfold XB at h;obtain⟨t,D,rfl,N,O⟩:=Y5 h;obtain⟨M,I,rfl,B,G⟩:=Yh O;obtain⟨E,A,rfl,T,J⟩:=Yh G;obtain⟨L,F,rfl,R,Z⟩:=Yh J;obtain rfl:=VS Z;obtain rfl:=has_str T;exact⟨t,M,L,Y,N,B,R⟩
end L2
namespace K4
open PySem L2
section
variable{f g C CK:Addr}
def Jg(C CK:Addr):Sp:=λG H Q _=>∃(t:Addr)(J:kQ)(d:kU)(L:List Dd),G=[.ref t]/\BI H C CK t J d L/\∀Z,KI H CK Z J d->Q (.ref Z) H
def Ik:Yq ["self"] ["self"] (Yb Ma):=Y6
def FR(T:BCl K C)(F:Fun K "kinds" "Book.kinds" Ma f J):Ym P w K M base CX0 (n+1) f J ["self"] (Jg C CK):=by
 refine F.oq Ik λG A Z s H L Q E R h=>?_;obtain⟨t,O,d,B,rfl,⟨D,N,rfl,b⟩,q⟩:=h;exists _,YY<|Ys<|VE (pv 0) rfl;exact⟨C,_,_,_,b.ins,T.cl,T.so,LR _,q _ b.so⟩
def XE(C CK:Addr):Sp:=λG H Q _=>∃(t:Addr)(L:kQ)(d:kU)(J:List Dd),G=[.ref t]/\BI H C CK t L d J/\∀l Z,Same H Z->H l=none->Z l=some (.lst<|J.map λx=>V.str x.1.1)->Q (.ref l) Z
def Ij:Yq ["self"] ["self"] (Yb MZ):=Y6
def FP(B:Blt L)(T:BCl K C)(F:Fun K "names" "Book.names" MZ f M):Ym P w K L base CX0 (n+1) f M ["self"] (XE C CK):=by
 refine F.oq Ij λN A Z s H O Q E D h=>?_;obtain⟨t,R,d,I,rfl,⟨S,J,rfl,b⟩,q⟩:=h;exists _,YY<|Ys<|VM (Xa rfl) rfl B.list Vo (pa1<|VE (pv 0) rfl);refine⟨C,_,_,_,b.ins,T.cl,T.td,FY _,_,_,Y,b.td,λl G=>?_⟩;refine q l _ (Ye G _) G ?_;rw[YZ];have e:(J.map λq=>kV q.1)=(J.map (·.1)).map kV:=by rw[zf];rfl
 rw[e,b.ke,zf]
 rfl
def MC(C CK:Addr):Sp:=λJ H Q _=>∃(t:Addr)(G:kQ)(d:kU)(Z:List Dd)(x:Dd),J=[.ref t,.str x.1.1]/\BI H C CK t G d Z/\x∈Z/\∀v,Has H v (XB x)->Q v H
def OP:Yq ["self","F"] ["self","F"] (Yb Bs):=Y6
def On(B:Blt L)(T:BCl K C)(F:Fun K "told_of" "Book.told_of" Bs f R):Ym P w K L base CX0 (n+1) f R ["self","F"] (MC C CK):=by
 refine F.oq OP λD A Z s H I Q E N h=>?_;obtain⟨t,U,d,X,x,rfl,⟨j,S,rfl,b⟩,M,q⟩:=h;have J:=Jz N;obtain⟨v,G,O⟩:=b.at M;refine⟨_,YW (Y2 (PW.pt<|Jq (Vx<|Vs<|Wu rfl B.isi rfl B.str GD (pv 1))<|Jc<|UP<|Xh J (pv 1)<|VE (pv 0) rfl) (YY Jf) Yr)
  (YY<|Ys<|Ja J (VE (pv 0) rfl) (pv 1) λ_ _=>rfl),?_⟩
 show let a:=_;let b:=_;Yg (Y9 _ b _) a _ _ _
 intros
 refine⟨_,_,_,_,Y,.str _,XQ K "str",_,Y,Y0 (by simp) ?_⟩;refine⟨C,_,_,_,b.ins,T.cl,T.td,FY _,_,G,_,Y,Y0 (by simp) ?_⟩;exact⟨C,_,_,_,b.ins,T.cl,T.td,FY _,v,G,q v O⟩
end
end K4
namespace L2
open PySem
def UD(o:Option Str):V:=(o.map V.str).getD .non
def A6{α:Type}{Z:List α}(h:Z.length=1):∃a,Z=[a]:=match Z,h with|[a],_=>⟨a,rfl⟩
def A5{α:Type}{Z:List α}(h:Z.length=2):∃a b,Z=[a,b]:=match Z,h with|[a,b],_=>⟨a,b,rfl⟩
def Bd.word:Bd->Str
 |.tag _=>"tag"
 |.name _=>"name"
 |.pair _ _=>"pair"
 |.one _=>"one"
 |.other _=>"other"
 |.choose _ _ _=>"choose"
 |.ask _ _=>"ask"
 |.letb _ _ _ _=>"let"
def LL{b:Bd}(h:Has H v b.dat):∃a ys,v=.ref a/\H a=some (.tup (.str b.word::ys)):=by
 obtain⟨Z,e⟩:∃Z,b.dat=.tup (.str b.word::Z):=by cases b <;> exact⟨_,by unfold Bd.dat;rfl⟩
 rw[e]at h;obtain⟨t,ys,rfl,G,L⟩:=Y5 h;obtain⟨N,J,rfl,M,_⟩:=Yh L;obtain rfl:=has_str M;exact⟨t,J,Y,G⟩
def EZ(h:Has H v (Bd.letb x k e b).dat):∃a T R,v=.ref a/\H a=some (.tup [.str "let",.str x,.str k,T,R]):=by
 unfold Bd.dat at h;obtain⟨t,I,rfl,B,D⟩:=Y5 h;obtain⟨C,y,rfl,A,M⟩:=Yh D;obtain⟨U,j,rfl,F,L⟩:=Yh M;obtain⟨S,Q,rfl,E,G⟩:=Yh L;obtain⟨O,P,rfl,q,J⟩:=Yh G;obtain⟨N,X,rfl,z,Z⟩:=Yh J;obtain rfl:=VS Z;obtain rfl:=has_str A;obtain rfl:=has_str F;obtain rfl:=has_str E;exact⟨t,O,N,Y,B⟩
end L2
namespace K4
open PySem L2
section
variable{f g C CK:Addr}
def G8(C CK:Addr):Sp:=λJ H Q _=>∃(t:Addr)(G:kQ)(d:kU)(Z:List Dd)(x:Dd),J=[.ref t,.str x.1.1]/\BI H C CK t G d Z/\x∈Z/\∀v,Has H v (psD x.1.2.1)->Q v H
def WJ(C CK:Addr):Sp:=λJ H Q _=>∃(t:Addr)(G:kQ)(d:kU)(Z:List Dd)(x:Dd),J=[.ref t,.str x.1.1]/\BI H C CK t G d Z/\x∈Z/\Q (.str x.1.2.2) H
def Qe:Yq ["self","F"] ["self","F"] (Yb Bu):=Y6
def OK:Yq ["self","F"] ["self","F"] (Yb Bv):=Y6
def Os(T:BCl K C)(F:Fun K "parameters" "Book.parameters" Bu f I)(m:V1 K C "told_of" g)(G:Ym P w K J base CX0 n g D ["self","F"] (MC C CK))(X:Binds K D ["self","F"] []):Ym P w K J base CX0 (n+1) f I ["self","F"] (G8 C CK):=by
 refine F.oq Qe λU A Z s H k Q E R h=>?_;obtain⟨t,L,d,S,x,rfl,b,M,q⟩:=h;obtain⟨y,p,rfl,j⟩:=id b;exists _,YY<|Ys<|Yf Yl (Vd (pv 0) T.cl m G R X .nil VQ<|pa1<|pv 1) YX;refine⟨_,_,j.ins,CL _,y.t,L,d,S,x,Y,b,M,λv N=>?_⟩;obtain⟨a,u,z,rfl,B,O,_⟩:=Tv N;exact⟨_,_,Z0 B,Y,q u O⟩
def Ki(T:BCl K C)(F:Fun K "kind_of" "Book.kind_of" Bv f D)(m:V1 K C "told_of" g)(G:Ym P w K J base CX0 n g B ["self","F"] (MC C CK))(U:Binds K B ["self","F"] []):Ym P w K J base CX0 (n+1) f D ["self","F"] (WJ C CK):=by
 refine F.oq OK λS A Z s H z Q E O h=>?_;obtain⟨t,L,d,I,x,rfl,b,M,q⟩:=h;obtain⟨j,k,rfl,X⟩:=id b;exists _,YY<|Ys<|Yf Yl (Vd (pv 0) T.cl m G O U .nil VQ<|pa1<|pv 1) YX;refine⟨_,_,X.ins,CL _,j.t,L,d,I,x,Y,b,M,λv N=>?_⟩;obtain⟨a,u,y,rfl,R,p,_⟩:=Tv N;exact⟨_,_,Z0 R,Y,q⟩
def WI(C CK:Addr)(p:Bd->Prop):Sp:=λO H Q _=>∃(t a M:Addr)(v:V)(Z:kQ)(c d:kU)(L:List Dd)(G:kJ)(b:Bd)(J:ky),
 O=[.ref t,.ref a,v,.ref M]/\BI H C CK t Z d L/\KK 30 c d Z/\NK (Z.map (·.1)) G/\(∀x∈L,x.1.2.1.length<=3)/\Rd H a (.dK G)/\Has H v b.dat/\b.ok/\p b/\H M=some (.lst<|J.map V.str)/\J.length=b.parts.length/\(∀z∈J,z∈Z.map (·.1))/\∀N,Same H N->Q (UD<|own Z (Y1<|L.map (·.1)) G b J) N
abbrev rps:ky:=["book","around","body","found"]
def Qf:Yq ["book","around","body","found"] ["book","around","body","found"] (Yb Im):=Y6
def ON:Yq ["book","around","body","found"] ["book","around","body","found"] (Yb Bq):=Y6
def OM:Yq ["book","around","body","found"] ["book","around","body","found"] (Yb Bp):=Y6
def Qh:Yq ["book","around","body","found"] ["book","around","body","found"] (Yb Ip):=Y6
def Ou(u:BCl K C)(TK:KCl K CK)(F:Fun K "kind_of_tag_body" "kind_of_tag_body" Im f U)(T:V1 K C "kinds" S)(l:Ym P w K J base CX0 n S y ["self"] (Jg C CK))(k:Binds K y ["self"] [])(R:V1 K CK "kind_of_tag" I)(r:Ym P w K J base CX0 n I j ["self","tag"] (TD CK))(m:Binds K j ["self","tag"] []):Ym P w K J base CX0 (n+1) f U rps (WI C CK λb=>∃t,b=.tag t):=by
 refine F.oq Qf λz A Z s H x Q E N h=>?_;obtain⟨t,a,fl,v,G,c,d,X,kv,b,i,rfl,O,kk,nk,pl,ha,M,ok,⟨tg,rfl⟩,hf,lz,hz,q⟩:=h;obtain⟨o,kt,rfl,p⟩:=id O;exists _,YY<|Ys<|Vd (Vh (pv 0) u.cl T l N k .nil VQ) TK.cl R r N m .nil VQ<|pa1<|Yf Yl (pv 2) YX;unfold Bd.dat at M;obtain⟨bt,rfl,D⟩:=Xl M;refine⟨_,_,p.ins,Y,o.t,G,d,X,Y,O,λso L=>?_⟩;obtain⟨e,SK,rfl,B,kr⟩:=id L;exact⟨_,_,B.ins,Y,_,_,Z0 D,Y,e.t,G,d,tg,Y,L,q H<|Z6 _⟩
def Kh(F:Fun K "kind_of_name_body" "kind_of_name_body" Bq f B):Ym P w K j base CX0 (n+1) f B rps (WI C CK λb=>∃x,b=.name x):=by
 refine F.oq ON λD A G s H S Q E R h=>?_;obtain⟨t,a,r,v,z,c,d,l,J,b,I,rfl,i,m,N,U,M,L,X,⟨x,rfl⟩,u,y,p,q⟩:=h;have O:=Jz R;exists _,YY<|Ys<|WR O (pv 1) (Yf Yl (pv 2) YX) ⟨rfl,rfl,rfl,rfl⟩;unfold Bd.dat at L;obtain⟨o,rfl,T⟩:=Xl L;exists .inl ⟨J,M⟩,_,_,Z0 T,Y,_,.inl ⟨J,Sum.inr x,M,Y,Y⟩;have Z:Q (UD<|(VD J<|Sum.inr x).bind OA) H:=q H<|Z6 _
 cases e:VD J (Sum.inr x)with
 |none=>rw[e]at Z;exact Z
 |some v=>
  obtain⟨k,rfl,_⟩:=N.at e;rw[e]at Z;exact Z
def Kg(l:BCl K C)(TK:KCl K CK)(F:Fun K "kind_of_pair_body" "kind_of_pair_body" Bp f j)(D:V1 K C "kinds" X)(i:Ym P w K J base CX0 n X m ["self"] (Jg C CK))(u:Binds K m ["self"] [])(B:V1 K CK "kind_of_pair" U)(o:Ym P w K J base CX0 n U z ["self","one","other"] (Wh CK))(p:Binds K z ["self","one","other"] []):Ym P w K J base CX0 (n+1) f j rps (WI C CK λb=>∃e g,b=.pair e g):=by
 refine F.oq OM λk A Z s H vs Q E M h=>?_;obtain⟨t,a,fl,v,G,c,d,y,kv,b,zs,rfl,O,kk,nk,pl,ha,hv,ok,⟨e,g,rfl⟩,N,I,hz,q⟩:=h;obtain⟨T,R,rfl⟩:=A5 I;obtain⟨A',kt,rfl,r⟩:=id O;exists _,YY<|Ys<|Vd (Vh (pv 0) l.cl D i M u .nil VQ) TK.cl B o M p .nil VQ<|pa2 (Yf Yw (pv 3) YX)<|Yf Yw (pv 3) YX;refine⟨_,_,r.ins,Y,A'.t,G,d,y,Y,O,λso L=>?_⟩;obtain⟨x,SK,rfl,S,kr⟩:=id L;exact⟨_,_,S.ins,Y,_,_,Z1 N,Y,_,_,Z1 N,Y,x.t,G,d,T,R,Y,L,q⟩
def Ow(F:Fun K "kind_of_let_body" "kind_of_let_body" Ip f T):Ym P w K z base CX0 (n+1) f T rps (WI C CK λb=>∃x k e g,b=.letb x k e g):=by
 refine F.oq Qh λB A J s H I Q E l h=>?_;obtain⟨t,a,i,v,p,c,d,ds,m,b,D,rfl,bi,u,y,X,o,O,j,⟨x,k,e,g,rfl⟩,L,N,r,q⟩:=h;obtain⟨G,M,rfl⟩:=A5 N;refine⟨_,YW (Y2 (Yn GQ (Yf Yw (pv 3) YX) (Yf Yl (pv 2) YX)<|Yu _) (YY<|Ys Vc) Yr)
  (YY<|Ys<|Yf Yw (pv 3) YX),?_⟩
 obtain⟨bt,U,S,rfl,R⟩:=EZ O;have Z:Q (UD<|if G=k then some M else none) H:=q H<|Z6 _;exists _,_,Z1 L,Y,_,_,Z0 R,Y,Y,_,Y
 by_cases c1:G=k
 .rw [Zn c1]at Z
  exact Y0 (by simp[c1]) ⟨_,_,Z1 L,Y,Z⟩
 .rw [Zo c1]at Z
  exact VH (by simpa using c1) Z
def Gi(C CK:Addr):Sp:=λJ H Q _=>∃(t:Addr)(Z:kQ)(d:kU)(L:List Dd)(z:Str)(s:Shp)(i:Nat),J=[.ref t,.str z,.int i]/\BI H C CK t Z d L/\VX Z z=some s/\(∀G,s=.tags G->Q .non H)/\∀a b,s=.pair a b->(i=1/\Q (.str a) H\/i=2/\Q (.str b) H)
def EE:Yq ["book","kind","at","shape"] ["book","kind","at"] (Yb Bo):=Y6
def Kf(TB:BCl K C)(TK:KCl K CK)(F:Fun K "kind_of_part" "kind_of_part" Bo f p)(X:V1 K C "kinds" k)(G1:Ym P w K G base CX0 n k r ["self"] (Jg C CK))(x:Binds K r ["self"] [])(U:V1 K CK "shape_of" m)(G2:Ym P w K G base CX0 n m u ["self","kind"] (Ul CK))(o:Binds K u ["self","kind"] []):Ym P w K G base CX0 (n+1) f p ["book","kind","at"] (Gi C CK):=by
 refine F.oq EE λe A J s H vs Q E O h=>?_;obtain⟨t,L,d,c,z,B,i,rfl,R,y,D,I⟩:=h;obtain⟨A',kt,rfl,b'⟩:=id R;refine⟨_,YW (Yp 3 EE.nd<|Vd (Vh (pv 0) TB.cl X G1 O x .nil VQ) TK.cl U G2 O o .nil VQ<|pa1<|pv 1)
  (YW (Y2 (Yn GQ (Yf Yl (pv 3) YX) Y3<|Yu _) (YY<|Ys Vc) Yr)
  (YY<|Ys<|Yf Yl (pv 3) (pv 2) λ_ _=>rfl)),?_⟩
 refine⟨_,_,b'.ins,Y,A'.t,L,d,c,Y,R,λso M=>?_⟩;obtain⟨AK,SK,rfl,j,kr⟩:=id M;refine⟨_,_,j.ins,Y,AK.t,L,d,z,_,Y,M,y,λv N=>?_⟩
 cases B with
 |tags T=>
  obtain⟨S,l,rfl,Z,hl⟩:=J0 N;exact⟨_,_,Z0 Z,Y,Y,_,Y,VH (by decide +kernel)<|D T rfl⟩
 |pair a b=>
  obtain⟨S,rfl,Z⟩:=X9 N;refine⟨_,_,Z0 Z,Y,Y,_,Y,Y0 (by decide +kernel) ?_⟩;rcases I a b rfl with⟨rfl,q⟩|⟨rfl,q⟩
  .exact ⟨_,_,Z0 Z,rfl,q⟩
  .exact ⟨_,_,Z0 Z,rfl,q⟩
def Qg:Yq ["book","around","body","found"] ["book","around","body","found"] (Yb Io):=Y6
def Ig:Yq ["book","around","body","found"] ["book","around","body","found"] (Yb MV):=Y6
def Ov(F:Fun K "kind_of_one_body" "kind_of_one_body" Io f D)(X:Df P w K N base n "kind_of_part" ["book","kind","at"] (Gi C CK)):Ym P w K N base CX0 (n+1) f D rps (WI C CK λb=>∃e,b=.one e):=by
 refine F.oq Qg λS A J s H y Q E T h=>?_;obtain⟨t,a,x,v,G,c,d,I,r,b,j,rfl,U,l,u,k,i,o,p,⟨e,rfl⟩,B,O,R,q⟩:=h;obtain⟨z,rfl⟩:=A6 O;exists _,YY<|Ys<|Yy X T<|pa3 (pv 0) (Yf Yw (pv 3) YX) YX;obtain⟨M,L⟩:=JJ (R z<|by simp);have Z:Q (UD<|match VX G z with|some (.pair a _)=>some a|_=>none) H:=q H<|Z6 _;rw[L]at Z;exact⟨_,_,Z1 B,Y,t,G,d,I,z,M,1,Y,U,L,λm e=>by rw[e]at Z;exact Z,λa b e=>.inl ⟨Y,by rw[e]at Z;exact Z⟩⟩
def FL(F:Fun K "kind_of_other_body" "kind_of_other_body" MV f D)(X:Df P w K N base n "kind_of_part" ["book","kind","at"] (Gi C CK)):Ym P w K N base CX0 (n+1) f D rps (WI C CK λb=>∃e,b=.other e):=by
 refine F.oq Ig λS A J s H y Q E T h=>?_;obtain⟨t,a,x,v,G,c,d,I,r,b,j,rfl,U,l,u,k,i,o,p,⟨e,rfl⟩,B,O,R,q⟩:=h;obtain⟨z,rfl⟩:=A6 O;exists _,YY<|Ys<|Yy X T<|pa3 (pv 0) (Yf Yw (pv 3) YX) YX;obtain⟨M,L⟩:=JJ (R z<|by simp);have Z:Q (UD<|match VX G z with|some (.pair _ b)=>some b|_=>none) H:=q H<|Z6 _;rw[L]at Z;exact⟨_,_,Z1 B,Y,t,G,d,I,z,M,2,Y,U,L,λm e=>by rw[e]at Z;exact Z,λa b e=>.inr ⟨Y,by rw[e]at Z;exact Z⟩⟩
end
end K4
namespace L2
open PySem
def PN(h:Has H v (Bd.ask fn B).dat):∃a u,v=.ref a/\H a=some (.tup [.str "ask",.str fn,u])/\Has H u (.tup<|Bd.dats B):=by
 unfold Bd.dat at h;obtain⟨t,D,rfl,M,N⟩:=Y5 h;obtain⟨F,S,rfl,T,G⟩:=Yh N;obtain⟨E,I,rfl,R,J⟩:=Yh G;obtain⟨L,A,rfl,O,Z⟩:=Yh J;obtain rfl:=VS Z;obtain rfl:=has_str T;obtain rfl:=has_str R;exact⟨t,L,Y,M,O⟩
def Gw(h:Y1 J fn=some (Z,y)):(fn,Z,y)∈J:=by
 unfold Y1 at h
 cases e:J.find? (λh=>decide<|h.1=fn)with
 |none=>rw[e]at h;cases h
 |some g=>
  rw[e]at h;have m:=zz e;have q:g.1=fn:=by simpa using List.find?_some e
  have G:g.2=(Z,y):=ZP h;obtain⟨M,L⟩:=g;dsimp only at q G;subst q G;exact m
theorem Tf:∀Z J:ky,Dat.pqs (Z.map Dat.str) (J.map Dat.str)=decide (Z=J)
 |[],[]=>by unfold List.map Dat.pqs;rfl
 |[],w::J=>by unfold List.map Dat.pqs;rfl
 |z::Z,[]=>by unfold List.map Dat.pqs;rfl
 |z::Z,w::J=>by
  rw[ZT,ZT];unfold Dat.pqs;rw[Tf Z J,yx];simp[Dat.pq]
def Se{Z:List Dd}(J:(Z.map λx=>x.1.1).Nodup)(h:x∈Z):Y1 (Z.map (·.1)) x.1.1=some x.1.2:=
 XS (h:=x.1) (by rw[zf];exact J) (ZU.mpr ⟨x,h,rfl⟩)
def Sb{Z:List Dd}(h:fn∉Z.map λx=>x.1.1):Y1 (Z.map (·.1)) fn=none:=by
 cases e:Y1 (Z.map (·.1)) fn with
 |none=>rfl
 |some p=>
  obtain⟨x,J,G⟩:=ZU.mp<|Gw e;exact Zp (ZU.mpr ⟨x,J,by rw[G]⟩) h
end L2
namespace K4
open PySem L2
section
def Qj:Yq ["book","around","body","found"] ["book","around","body","found"] (Yb Iq):=Y6
def Kt:List.Nodup [("name":Str),"kind"]:=by decide +kernel
def Ox(TB:BCl K C)(F:Fun K "kind_of_ask_body" "kind_of_ask_body" Iq f fd)(m1:V1 K C "names" g)(G1:Ym P w K mg base CX0 (n+2) g d1 ["self"] (XE C CK))(b1:Binds K d1 ["self"] [])(m2:V1 K C "parameters" g2)(G2:Ym P w K mg base CX0 (n+2) g2 d2 ["self","F"] (G8 C CK))(b2:Binds K d2 ["self","F"] [])(m3:V1 K C "kind_of" g3)(G3:Ym P w K mg base CX0 (n+2) g3 d3 ["self","F"] (WJ C CK))(b3:Binds K d3 ["self","F"] []):
  Ym P w K mg base CX0 (n+2+1) f fd rps (WI C CK λb=>∃p as,b=.ask p as):=by
 refine F.oq Qj λJ5 A i s H O Q E m h=>?_;obtain⟨t,a,fl,v,ks,c,d,I,kv,b,o,rfl,r,kk,nk,pl,ha,hv,ok,⟨p,as,rfl⟩,hf,lz,hz,q⟩:=h;have Z9:=m.mono (show 2<=n+2 by omega);refine⟨_,YW (Y2 (Yn JU (Yf Yl (pv 2) YX) (Vh (pv 0) TB.cl m1 G1 m b1 .nil VQ) Y) (YY<|Ys Vc) Yr)
  (YW (Y2 (Yn (Ue Z9) (Vq ["name","kind"] [] (Js<|Vd (pv 0) TB.cl m2 G2 m b2 .nil VQ<|pa1<|Yf Yl (pv 2) YX) WA (λcl C fp s H=>VI (n:=2) rfl (Yj (Yd 0 Kt rfl (Or.inl rfl) (Or.inr rfl))<|Yj (Yd 1 Kt rfl (Or.inl rfl) (Or.inr rfl)) Y7))
    (λcl C fp s H=>pv 1)) (pv 3)<|Yu _) (YY<|Ys Vc) Yr)
  (YY<|Ys<|Vd (pv 0) TB.cl m3 G3 m b3 .nil VQ<|pa1<|Yf Yl (pv 2) YX)),?_⟩
 show let a:=_;let b:=_;let c:=Yg (Y9 _ b _) a;let d:=_;Yg (Y9 _ d _) c _ _ _
 intros
 obtain⟨bt,ub,rfl,hb,_⟩:=PN hv;obtain⟨A',kt,rfl,e⟩:=id r;have T:∀N,Same H N->Q (UD<|match Y1 (I.map (·.1)) p with|some (L,k)=>if L.map (·.2)=o then some k else none|none=>none) N:=q;refine⟨_,_,Z0 hb,Y,_,_,e.ins,Y,A'.t,ks,d,I,Y,r,λl H1 S hl g=>?_⟩;have el:(I.map λx=>V.str x.1.1)=(I.map λx=>x.1.1).map V.str:=by rw[zf];rfl
 rw[el]at g;exists l,_,Y,.inl<|Z1 g,rfl,JG _,_,rfl;rw[JZ]
 by_cases mf:p∈I.map λx=>x.1.1
 case neg=>
  rw[Sb mf]at T;exact VH (by simp only[if_true,yQ,decide_eq_false_iff_not];exact mf)<|T _ S
 refine Y0 (by simp only[if_true,yQ,decide_eq_false_iff_not,Classical.not_not];exact mf) ?_;obtain⟨x,X,D⟩:=ZU.mp mf;have Z:=Se e.nd X;rw[D]at Z;rw[Z]at T;obtain⟨⟨_,L,y⟩,bx⟩:=x;dsimp only at D T;subst D;have J4:L.length<=3:=pl _ X;have J2:=r.mono S;refine⟨_,_,S _ _ e.ins,Y,_,_,Z0<|S _ _ hb,rfl,A'.t,ks,d,I,_,rfl,J2,X,λv B=>?_⟩;unfold psD at B;dsimp only at B;obtain⟨pa,G,rfl,M,U⟩:=Y5 B;have lp:=U.length;rw[ZA]at lp;exists ⟨_,Z0 M⟩;refine Vu G.length (Yi<|by omega) (λj O N=>Same H1 N/\O.length=j/\O=((L.map (·.2)).take j).map V.str) ⟨Z6 _,rfl,rfl⟩ (λj O N z=>z.2.1) ?_ ?_ ?_ ?_
 .intro j O N hj z
  exact⟨G,G[j],Z0<|z.1 _ _ M,by simp[hj]⟩
 .intro O N z
  exact⟨G,Z0<|z.1 _ _ M,ZF _⟩
 .intro j O N u H'' R hj z yl hR
  obtain⟨rfl,yy⟩:=yl;obtain⟨dd,Z,J1⟩:=U.get<|yy G<|Z0<|z.1 _ _ M;rw[ZG]at Z
  cases hp:L[j]? with
  |none=>rw[hp]at Z;cases Z
  |some pr=>
   rw[hp]at Z;cases Z;obtain⟨t2,rfl,Z8⟩:=Xl J1;exists _,Z0<|z.1 _ _ Z8,rfl;refine hR _ _ ⟨z.1,by rw[ZJ,z.2.1];rfl,?_⟩;rw[z.2.2,show(L.map (·.2)).take (j+1)=(L.map (·.2)).take j++[pr.2]from take_snoc (by rw[ZG,hp];rfl),ZI]
   rfl
 .intro O N l2 z hl2
  obtain⟨z1,_,rfl⟩:=z;rw[Ze (by rw[ZA];omega)];refine up_in hl2 _ λH2 s2 g2=>?_;have J:=(S.trans z1).trans s2;exists .lst<|(L.map (·.2)).map Dat.str,.lst<|o.map Dat.str,ST g2,ST<|J _ _ hf,G7 _,_,rfl;unfold Dat.pq;rw[Tf]
  by_cases cz:L.map (·.2)=o
  .rw [Zn cz]at T
   refine Y0 (by simp[cz]) ?_;exact⟨_,_,J _ _ e.ins,Y,_,_,Z0<|J _ _ hb,rfl,A'.t,ks,d,I,_,rfl,r.mono J,X,T H2 J⟩
  .rw [Zo cz]at T
   exact VH (by simp[cz])<|T H2 J
end
end K4
namespace L2
open PySem PySem.Spec PyProof.Rows
def Fi(S:X.calm=true):Jr X (.builtin "any") (λL H Q=>∃(p:Addr)(Z:List Bool),L=[.ref p]/\SqL X.K H p (Z.map V.bl)/\Q (.bl<|Z.any id) H):=by
 intro N s U H L P Q I r h;obtain⟨p,Z,rfl,D,q⟩:=h;obtain⟨u,rfl,R⟩:=vals1 r;cases R;obtain⟨J,M,G,j⟩:=I.list D;have E:p<s.heap.objs.size:=let⟨o,_,e,_⟩:=G;ZN e
 have B:=M.length;rw[ZA]at B
 have T:((List.range J.toArray.size).any λi=>(Z[i]?).getD false)=Z.any id:=by
  rw[yx,vY,vY]
  constructor
  .rintro ⟨i,_,h⟩
   cases e:Z[i]? with
   |none=>rw[e]at h;cases h
   |some b=>rw[e]at h;exact⟨b,ZH e,h⟩
  .rintro ⟨b,hb,h⟩
   obtain⟨i,O⟩:=zi.mp hb;exact⟨i,by have:=(ZE.mp O).1;simp;omega,by rw[O];exact h⟩
 refine call_any_walk<|yY G.isList ⟨s.heap.objs.size,_,_,J.toArray.size,_,_,λi=>(Z[i]?).getD false,rfl,Walks.list (A:=X.A.in1) (I.ok.hd S) _ p (Zc E) J.toArray,⟨⟨_,ZW _ rfl,rfl,rfl⟩,G.isList.push _⟩,?_,?_⟩
 .intro i v s' Q' E' hP hQ
  obtain⟨b,e,rfl⟩:=GE M i v (by simpa using hP);dsimp only at hQ;rw[e]at hQ;exact zZ hQ
 .intro h' tk hk
  rw[T];refine⟨.bl<|Z.any id,H,I.kept λb o e=>hk b o (λF=>?_)<|ZD _ e,rfl,q⟩;have C:b=s.heap.objs.size:=by simpa using F
  rw[C]at e;exact zX _<|ZN e
end L2
namespace L2
open PySem
def Dl(h:Has H v (Bd.choose e N F).dat):∃a u l Z,v=.ref a/\H a=some (.tup [.str "choose",u,.ref l])/\H l=some (.tup Z)/\HasL H Z (Bd.brs F N):=by
 unfold Bd.dat at h;obtain⟨t,A,rfl,O,R⟩:=Y5 h;obtain⟨S,X,rfl,E,L⟩:=Yh R;obtain⟨M,C,rfl,P,G⟩:=Yh L;obtain⟨I,U,rfl,D,J⟩:=Yh G;obtain rfl:=VS J;obtain rfl:=has_str E;obtain⟨l,Z,rfl,B,T⟩:=Y5 D;exact⟨t,M,l,Z,Y,O,B,T⟩
theorem brs_len:∀{bs:List Bd}{ts:ky},bs.length=ts.length->(Bd.brs bs ts).length=ts.length
 |[],[],_=>by simp[Bd.brs]
 |[],_::_,h=>by simp at h
 |_::_,[],h=>by simp at h
 |b::bs,t::ts,h=>by
  unfold Bd.brs;have:=brs_len (bs:=bs) (ts:=ts) (by simpa using h);simp[this]
theorem brs_get:∀{bs:List Bd}{ts:ky}{i:Nat}{d:Dat},(Bd.brs bs ts)[i]?=some d->∃t b,ts[i]?=some t/\d=.tup [.str t,Bd.dat b]
 |[],ts,i,d,h=>by unfold Bd.brs at h;simp at h
 |b::bs,[],i,d,h=>by unfold Bd.brs at h;simp at h
 |b::bs,t::ts,0,d,h=>by
  unfold Bd.brs at h;exact⟨t,b,Y,(ZP h).symm⟩
 |b::bs,t::ts,i+1,d,h=>by
  unfold Bd.brs at h;exact brs_get (bs:=bs) (ts:=ts) h
def zQ{z y:Str}{r:ky}:U4 ((z::y::r).map V.str) (some 2) none=r.map V.str:=by
 have e:HT.sIx ((z::y::r).map V.str).length 0 (some 2)=2:=by
  unfold HT.sIx;simp
  try omega
 unfold U4;rw[e];simp[HT.sIx];exact Ze (by rw[ZA];exact ZF _)
def Of(h:VX J z=some (.tags Z))(g:∀u∈r,u=y):own J L G (.choose e Z M) (z::y::r)=some y:=Zn ⟨h,g⟩
def Mf(h:¬(VX J z=some (.tags Z)/\∀u∈r,u=y)):own J L G (.choose e Z M) (z::y::r)=none:=Zo h
def Lr(y:Str)(r:ky):((r.map λu=>!decide (V.str u=V.str y)).any id=false)↔∀u∈r,u=y:=by
 rw[List.any_eq_false]
 constructor
 .intro h u Z
  have:=h _<|ZU.mpr ⟨u,Z,rfl⟩;simpa using this
 .intro h b hb
  obtain⟨u,Z,rfl⟩:=ZU.mp hb;simp[h u Z]
end L2
namespace K4
open PySem L2
section
def Fn:bootBuiltins "any"=some (.builtin "any"):=by decide +kernel
def Wm:Yq ["book","around","body","found","shape","kind"] ["book","around","body","found"] (Yb TX):=Y6
def Kp:List.Nodup [("tag":Str),"branch"]:=by decide +kernel
def Ax:List.Nodup [("other":Str),"kind"]:=by decide +kernel
def DI(B:Blt X)(ma:X "any"=none)(TB:BCl K C)(TK:KCl K p)(F:Fun K "kind_of_choose_body" "kind_of_choose_body" TX f fd)(m1:V1 K C "kinds" g1)(G1:Ym P w K X base CX0 (n+2) g1 d1 ["self"] (Jg C p))(b1:Binds K d1 ["self"] [])(m2:V1 K p "shape_of" g2)(G2:Ym P w K X base CX0 (n+2) g2 d2 ["self","kind"] (Ul p))(b2:Binds K d2 ["self","kind"] []):Ym P w K X base CX0 (n+2+1) f fd rps (WI C p λb=>∃e L k,b=.choose e L k/\1<=k.length):=by
 refine F.oq Wm λG5 A Z8 s H Z Q E hr h=>?_;obtain⟨t,a,fl,v,ks,c,d,ds,kv,b,zs,rfl,bi,kk,nk,pl,ha,hv,ok,⟨e,L,k,rfl,b0⟩,hf,lz,hz,q⟩:=h;have J2:=hr.mono (show 2<=n+2 by omega);refine⟨_,YW (Yp 4 Wm.nd<|Vd (Vh (pv 0) TB.cl m1 G1 hr b1 .nil VQ) TK.cl m2 G2 hr b2 .nil VQ<|pa1<|Yf Yw (pv 3) YX)
  (YW (Y2 (PW.pt<|Jq (Yn GQ (Yf Yl (pv 4) YX) Y3<|Yu _)<|Jc<|Yn (Ue J2) (VM V0 rfl B.tuple JR (pa1<|Vq ["tag","branch"] [] (Js<|Yf Yl (pv 2) YX) WA (λcl C fp s H=>VI (n:=2) rfl (Yj (Yd 0 Kp rfl (Or.inl rfl) (Or.inr rfl))<|Yj (Yd 1 Kp rfl (Or.inl rfl) (Or.inr rfl)) Y7)) λcl C fp s H=>pv 0)) (Yf Yl (pv 4) YX)<|Yu _) (YY<|Ys Vc) Yr)
  (YW (Yp 5 Wm.nd (hx:=Or.inr rfl)<|Yf Yw (pv 3) YX)
  (YW (Y2 (Vs<|Yt (Fi rfl) rfl ma Fn (pa1<|Vq ["other"] [5] (VL<|JO WK (pv 3) (Jk YX) Jl) (VP (i:=0)<|by decide) (λcl C fp s H=>Yd 0 Ax rfl (Or.inl rfl) (Or.inr rfl)) λcl C fp s H=>UC GQ (pv 0) (pv 1) rfl)) (YY<|Ys Vc) Yr)
  (YY<|Ys<|pv 5)))),?_⟩
 dsimp only[Vg,Cx.nox,Cx.wish];show let a:=_;let b:=_;let c:=Yg (Y9 _ b _) a;let d:=Yg _ c;let e:=_;let f:=Yg (Y9 _ e _) d;Yg _ f _ _ _
 intros
 obtain⟨bt,ub,bl,T,rfl,hb,N,I⟩:=Dl hv;obtain⟨A',kt,rfl,b'⟩:=id bi;unfold Bd.ok at ok;obtain⟨_,lb,l7,_⟩:=ok;have lx:=I.length;rw[brs_len lb]at lx;obtain⟨z,O,rfl⟩:∃z O,zs=z::O:=match zs,lz with|z::O,_=>⟨z,O,rfl⟩
 have lr:O.length=k.length:=Nat.succ.inj lz;obtain⟨y,r,rfl⟩:∃y r,O=y::r:=match O,lr with|[],e=>by rw[<-e]at b0;exact Zp b0 (by decide)|y::r,_=>⟨y,r,rfl⟩
 rw[Zd]at lr;obtain⟨sz,M⟩:=JJ (hz z<|by simp);refine⟨_,_,b'.ins,Y,A'.t,ks,d,ds,Y,bi,λso ki=>?_⟩;obtain⟨AK,SK,rfl,kd,kr⟩:=id ki;refine⟨_,_,kd.ins,Y,_,_,Z1 hf,Ya (j:=0) Y,AK.t,ks,d,z,sz,Y,ki,M,λv S=>?_⟩
 cases sz with
 |pair pa pb=>
  obtain⟨ps,rfl,m⟩:=X9 S;rw[Mf (λz=>by rw[M]at z;cases z.1)]at q;exact⟨_,_,Z0 m,Y,Y,_,Y,VH (by decide +kernel)<|q H<|Z6 _⟩
 |tags us=>
 obtain⟨ps,l,rfl,m,hl⟩:=J0 S;refine⟨_,_,Z0 m,Y,Y,_,Y,Y0 (by decide +kernel) ?_⟩;exists _,_,Z0 hb,Y,⟨_,Z0 N⟩;refine Vu T.length (Yi<|by omega) (λj Z G=>Same H G/\Z.length=j/\Z=(L.take j).map V.str) ⟨Z6 _,rfl,rfl⟩ (λj Z G z=>z.2.1) ?_ ?_ ?_ ?_
 .intro j Z G hj z
  exact⟨T,T[j],Z0<|z.1 _ _ N,by simp[hj]⟩
 .intro Z G z
  exact⟨T,Z0<|z.1 _ _ N,ZF _⟩
 .intro j Z G u H'' R hj z yl hR
  obtain⟨rfl,x⟩:=yl;obtain⟨dd,G3,J5⟩:=I.get<|x T<|Z0<|z.1 _ _ N;obtain⟨tg,bb,ht,rfl⟩:=brs_get G3;obtain⟨t2,G4,rfl,J1,_⟩:=LI J5;exists _,Z0<|z.1 _ _ J1,rfl;refine hR _ _ ⟨z.1,by rw[ZJ,z.2.1];rfl,?_⟩;rw[z.2.2,take_snoc ht,ZI]
  rfl
 .intro Z H1 l2 z hl2
  obtain⟨o,_,rfl⟩:=z;rw[Ze (by omega)];refine up_in hl2 (.lst<|L.map V.str) λH2 s2 g2=>?_;refine⟨l2,_,Y,.inl ⟨Z1 g2,λt3 Z9=>?_⟩⟩;refine up_in Z9 (.tup<|L.map V.str) λH3 s3 g3=>?_;have J:=(o.trans s2).trans s3;exists _,_,Z0<|J _ _ m,rfl,.tup<|L.map Dat.str,.tup<|us.map Dat.str,Yx g3<|VT L,Yx (J _ _ hl)<|VT us,?_,_,rfl
  .have:=G7 L
   unfold Dat.dep at this |-;exact this
  unfold Dat.pq;rw[Tf]
  by_cases ct:L=us
  case neg=>
   rw[Mf (λz=>ct (by have o:=M.symm.trans z.1;injection o with z2;injection z2 with z3;exact z3.symm))]at q;exact VH (by simp[ct])<|q H3 J
  subst ct;refine Y0 (by simp) ?_;have U:=J _ _ hf;exists _,.str y,Z1 U,Ya (j:=1) Y;refine⟨2,Y,fl,_,Y,Z1 U,λl4 J4=>?_⟩;rw[zQ];refine up_in J4 (.lst<|r.map V.str) λH4 s4 g=>?_;exists ⟨_,Z1 g⟩;refine Vu r.length (Yi<|by omega) (λj Z G=>Same H4 G/\Z=((r.take j).map λu=>!decide (V.str u=V.str y)).map V.bl/\Z.length=j) ⟨Z6 _,rfl,rfl⟩ (λj Z G z=>z.2.2) ?_ ?_ ?_ ?_
  .intro j Z G hj z
   exact⟨_,.str r[j],Z1<|z.1 _ _ g,by rw[ZG,ZC hj];rfl⟩
  .intro Z G z
   exact⟨_,Z1<|z.1 _ _ g,by rw[ZA];exact ZF _⟩
  .intro j Z G u H'' R hj z yl hR
   obtain⟨rfl,x⟩:=yl;have e5:=x _<|Z1<|z.1 _ _ g;rw[ZG,ZC hj]at e5;cases ZP e5;refine⟨Y,hR _ _ ⟨z.1,?_,by rw[ZJ,z.2.2];rfl⟩⟩;rw[z.2.1,take_snoc<|ZC hj,ZI,ZI]
   rfl
  .intro Z H5 l6' z hl6
   obtain⟨z5,rfl,_⟩:=z;rw[yJ];refine up_in hl6 (.lst<|(r.map λu=>!decide (V.str u=V.str y)).map V.bl) λH6 s6 g6=>?_;have D:=((J.trans s4).trans z5).trans s6;exists l6',_,Y,Z1 g6,_,Y
   by_cases cu:∀u∈r,u=y
   .rw [Of M cu]at q
    exact Y0 (by rw[(Lr y r).mpr cu];simp)<|q H6 D
   .rw [Mf (λz=>cu z.2)]at q
    refine VH ?_<|q H6 D
    cases ea:(r.map λu=>!decide (V.str u=V.str y)).any id with
    |true=>rfl
    |false=>exact Zp ((Lr y r).mp ea) cu
end
end K4
namespace L2
open PySem
def Nx{g:TG}{O:TS}{D:Ends}(Z:kL)(Q:Z 0 U H)(S:∀i U H,i<=xs.length->Z i U H->Sq K tp H a xs)(A:∀i x U H r,xs[i]?=some x->Z i U H->H r=none->g (.ref r) U (upd H r<|.tup [.int ((i:Nat):Int),x]) fun σ2 M=>O {D with nx:=Z<|i+1,ct:=Z<|i+1,bk:=D.nx} σ2 M)(P:∀U H,Z xs.length U H->D.nx U H):
  ∃W:Nat->Nat->St->Hp->Prop,(∃m,W 0 m U H)/\∀i m U H,W i m U H->
   ((Ite K tp a).stop i H/\D.nx U H)\/((Ite K tp a).go i H/\∃N:kM,(∀L J,N L J->∃R,R<m/\W (i+1) R L J)/\∀x J,(Ite K tp a).yld i H x J->g x U J fun σ2 M=>O {D with nx:=N,ct:=N,bk:=D.nx} σ2 M):=by
 refine⟨λi m U H=>m=xs.length-i/\i<=xs.length/\Z i U H,⟨xs.length,by simp,Za _,Q⟩,λi m U H z=>?_⟩;obtain⟨rfl,C,p⟩:=z;have q:=S i U H C p;rcases jx i xs.length with G|X
 .refine .inr ⟨⟨xs,xs[i],q,ZC G⟩,Z<|i+1,λL J B=>⟨xs.length-(i+1),by omega,rfl,G,B⟩,λx J y=>?_⟩
  obtain⟨r,T,rfl,I,rfl,F⟩:=y;exact A i T U H r (F xs q) p I
 .have e:i=xs.length:=by omega
  exact .inl ⟨⟨xs,q,by omega⟩,by subst e;exact P U H p⟩
def Gx{g:TG}{L:TS}{D:Ends}(Z:kL)(C:Z 0 U H)(I:∀i U H,i<=xs.length->Z i U H->Sq K tp H a xs)(F:∀(B:kM)(R:VK) i x U H r,xs[i]?=some x->Z i U H->H r=none->g (.ref r) U (upd H r<|.tup [.int ((i:Nat):Int),x]) fun σ2 G=>L {nx:=Z<|i+1,rt:=R,bk:=B,ct:=Z (i+1)} σ2 G)(S:∀U H,Z xs.length U H->D.nx U H):
  ∃W:Nat->Nat->St->Hp->Prop,(∃m,W 0 m U H)/\∀i m U H,W i m U H->
   ((Ite K tp a).stop i H/\D.nx U H)\/((Ite K tp a).go i H/\∃N:kM,(∀O J,N O J->∃M,M<m/\W (i+1) M O J)/\∀x J,(Ite K tp a).yld i H x J->g x U J fun σ2 G=>L {D with nx:=N,ct:=N,bk:=D.nx} σ2 G):=
 Nx Z C I (λi x U H r E p A=>F _ _ i x U H r E p A) S
def Rd.same(r:Rd H a u)(e:Same H Z):Rd Z a u:=r.imp (λh=>e _ _ h) λ⟨o,h⟩=>⟨o,e _ _ h⟩
def L0(Z:kJ)(b:Bd):(wth Z b).length<=Z.length+1:=by
 cases b with
 |letb x z e g=>exact Na Z _ _
 |_=>exact yS _
def Wv{o:Option Str}(h:o=none):UD o=.non:=by rw[h];rfl
end L2
namespace K4
open PySem L2
section
variable{f g C CK:Addr}
def RW(C CK:Addr)(n:Nat):Sp:=λM H Q _=>∃(t a:Addr)(v:V)(Z:kQ)(c d:kU)(G:List Dd)(J:kJ)(b:Bd),
 M=[.ref t,.ref a,v]/\BI H C CK t Z d G/\KK 30 c d Z/\HK (Z.map (·.1)) (Y1<|G.map (·.1))/\NK (Z.map (·.1)) J/\(∀x∈G,x.1.2.1.length<=3)/\Rd H a (.dK J)/\J.length+b.dep<=500/\Has H v b.dat/\b.ok/\b.dep<n/\n<=500/\
 ∀r p L,Same H L->L r=some (.tup [UD (kdn Z (Y1<|G.map (·.1)) n J b),p])->(kdn Z (Y1<|G.map (·.1)) n J b=none->∃l w r,p=.ref l/\L l=some (.tup<|List.map V.int w)/\w.length<=n/\wr Z (Y1<|G.map (·.1)) n J b=w::r)->Q (.ref r) L
def RN:Yq ["book","around","body","within","found","number","part","kind","place","rule"] ["book","around","body"] (Yb sKP):=Y6
def OH(h:U[i]?=some (some v))(k:u D (U.set j<|some v) H):Yg (BS (Xt i)<|Vi j) u D U H:=by
 show E1 U[i]? _;rw[h];exact k
def Ah(B:Blt mg)(me:mg "enumerate"=none)(TB:BCl K C)(TC:KCl K CK)(F:Fun K "kind_or_place" "kind_or_place" sKP f fd)(G:Ym P w K mg base CX0 (L+3) f fd ["book","around","body"] (RW C CK n))(bG:Binds K fd ["book","around","body"] [])(mG:mg "kind_or_place"=some (.ref f))(m1:V1 K C "kinds" g1)(G1:Ym P w K mg base CX0 (L+3) g1 d1 ["self"] (Jg C CK))(b1:Binds K d1 ["self"] [])(m2:V1 K CK "names" g2)(G2:Ym P w K mg base CX0 (L+3) g2 d2 ["self"] (Uu CK))(b2:Binds K d2 ["self"] [])(DP:Df P w K mg base (L+3) "parts" ["body"] Gh)(mU:mg "RULES"=some (.ref aR))(hM:base.MapOf (VC P w) aR mR)(hR:∀b:Bd,(∀e ts bs,b=.choose e ts bs->1<=bs.length)->∃(g:Addr)(gd:FuncData)(p:Bd->Prop),mR (Sum.inr b.word)=some (.ref g)/\Ym P w K mg base CX0 (L+3) g gd rps (WI C CK p)/\p b/\W.keepIn K (.ref g)=true/\Binds K gd rps []):
  Ym P w K mg base CX0 (L+3+1) f fd ["book","around","body"] (RW C CK<|n+1):=by
 refine F.oq RN λT9 A R5 s H vs Q E hr h=>?_;obtain⟨t,a,v,J,c,d,T,M,b,rfl,bi,kk,hk,nk,pl,ha,kl,hv,ok,dn,n5,q⟩:=h;have hu:=Jz hr;have DG:Df P w K mg base (L+3) "kind_or_place" ["book","around","body"] (RW C CK n):=⟨f,fd,mG,F.kp,bG,G⟩;refine⟨_,YW (Yp 3 RN.nd<|pv 1)
  (YW (Y2 (Yn Vk (Yf Yl (pv 2) YX) Y3<|Yu _)
   (YW (Y2 (PW.pt<|Jq (UP<|X5 hu (Yf Yl (pv 2) YX)<|pv 1)<|Jc<|Yn JU (Yf Yl (pv 2) YX) (Vh (Vh (pv 0) TB.cl m1 G1 hr b1 .nil VQ) TC.cl m2 G2 hr b2 .nil VQ) rfl) (YY<|Ys<|Yv<|pa2 Vc<|Yv VR) Yr)
   (YW (Yp 3 RN.nd<|VM Dt rfl B.dict WB (pa1<|pv 1))
   (YY<|V3 hu (pv 3) (Yf Yl (pv 2) YX) (Yf Yl (pv 2) YX) rfl))) Yr)
  (YW (Yp 4 RN.nd<|Vf VR)
  (YW (Vy Zt rfl (WP rfl me (pa1<|Yy DP hr<|pa1<|pv 2)) (VI (n:=2) rfl (Yj (Yd 5 RN.nd)<|Yj (Yd 6 RN.nd) Y7))
   (YW (Vz (Yy DG hr<|pa3 (pv 0) (pv 3)<|pv 6)<|VI (n:=2) rfl (Yj (Yd 7 RN.nd)<|Yj (Yd 8 RN.nd) Y7))
   (YW (Y2 (Yn Tj (pv 7) Vc<|Yu _) (YY<|Ys<|Yv<|pa2 Vc<|Y4 WU (Yv<|pa1<|pv 5)<|pv 8) Yr)
   (YY<|VF<|Jm Zx Zy Zz VY (pv 4)<|pa1<|pv 7))))
  (YW (Yp 9 RN.nd<|Oc rfl mU hM hu (Yf Yl (pv 2) YX) (λ_ _=>rfl))
  (YW (Yp 7 RN.nd<|KP (pv 9) hr VQ<|pa4 (pv 0) (pv 1) (pv 2)<|pv 4)
  (YW (Y2 (Yn Tj (pv 7) Vc<|Yu _) (YY<|Ys<|Yv<|pa2 Vc<|Yv VR) Yr)
  (YY<|Ys<|Yv<|pa2 (pv 7) Vc))))))),?_⟩
 dsimp only[Vg,Cx.nox,Cx.wish];show let a:=_;let b:=_;let c:=Yg (Y9 _ b _) a;let d:=Yg _ c;let e:=Yg _ d;let f:=_;let g:=_;let h:=Yg (Y9 _ g _) f;let i:=Yg _ h;let j:=Yg (J6 _ _ i) e;let k:=Yg _ j;let l:=_;let m:=Yg _ l;let n:=_;let o:=Yg (Y9 _ n _) m;let p:=Yg (Y9 _ o _) k;Yg _ p _ _ _
 intros
 obtain⟨bt,ys,rfl,hb⟩:=LL hv;have T8:=Bd.few ok
 have G3:kdn J (Y1<|T.map (·.1)) (n+1) M b=none->[[]]=wr J (Y1<|T.map (·.1)) (n+1) M b->∀R,Same H R->∀O r0,R O=none->(upd R O<|.tup []) r0=none->Q (.ref r0) (upd (upd R O<|.tup []) r0<|.tup [.non,.ref O]):=λe R7 R D O r0 h0 h1=>by
  have s2:=Ye h0<|.tup [];have g2:upd R O (.tup []) O=some (.tup []):=YZ;refine q r0 (.ref O) _ ((D.trans s2).trans<|Ye h1 _) (by rw[Wv e];exact YZ) λ_=>⟨O,[],[],rfl,(Ye h1 _) _ _ g2,Za _,R7.symm⟩
 refine OH Y ?_;refine Ve (λU' R=>∃wa,Same H R/\ ¬UA J M b/\Rd R wa (.dK<|wth M b)/\U'=[some (.ref t),some<|.ref a,some<|.ref bt,some<|.ref wa,none,none,none,none,none,none]) ?_ ?_
 .rintro U' R ⟨wa,D,nb,hw,rfl⟩
  have L1:=nk.wth nb;refine⟨sl 0,λfl R1=>?_⟩;refine up_in R1 _ λH2 s2 g2=>?_;refine⟨.ref bt,b,Y,(hv.mono D).mono s2,ok,λu H3 s3 R8=>?_⟩;obtain⟨pa,xs,rfl,N2,M2⟩:=Y5 R8;have lx:=M2.length;rw[Z7,ZA]at lx;exists pa,true,xs,Y,Z0 N2
  let I:kL:=λi U Hi=>Same R Hi/\Hi pa=some (.tup xs)/\HasL Hi xs (Bd.dats b.parts)/\(∃zs:ky,(b.parts.take i).map (kdn J (Y1<|T.map (·.1)) n<|wth M b)=zs.map some/\Hi fl=some (.lst<|zs.map V.str))/\∃z5 z6 z7 z8,U=[some (.ref t),some<|.ref a,some<|.ref bt,some<|.ref wa,some<|.ref fl,z5,z6,z7,z8,none]
  refine Nx (tp:=true) (xs:=xs) I ⟨s2.trans s3,N2,M2,⟨[],Y,s3 _ _ g2⟩,_,_,_,_,Y⟩ (λi U Hi _ z=>Z0 z.2.1) ?_ ?_
  .rintro i x U Hi r hx ⟨si,hai,hxi,⟨zs,ez,hfi⟩,z5,z6,z7,z8,rfl⟩ hr'
   refine up_in hr' _ λHR sR gR=>?_;obtain⟨dd,Z8,T3⟩:=hxi.get hx;rw[Z7,ZG]at Z8
   cases hc:b.parts[i]? with
   |none=>rw[hc]at Z8;cases Z8
   |some c'=>
    rw[hc]at Z8;cases Z8;have J1:=ZH hc;have dc:=Bd.dep_mem J1;have il:=(ZE.mp hc).1;have wl:=L0 M b;have J2:=(D.trans si).trans sR
    have lz:zs.length<=i:=by
     have:=congrArg List.length ez;rw[ZA,ZA,ZL]at this;omega
    exists _,Z0 gR,Y;refine⟨t,wa,x,J,c,d,T,wth M b,c',Y,bi.mono J2,kk,hk,L1,pl,hw.same<|si.trans sR,by omega,T3.mono sR,Bd.ok_parts ok c' J1,by omega,by omega,λr2 p2 H4 s4 h4 hp=>?_⟩;exists _,Z0 h4,Y
    cases ek:kdn J (Y1<|T.map (·.1)) n (wth M b) c' with
    |none=>
     have en:kdn J (Y1<|T.map (·.1)) (n+1) M b=none:=Ts<|ZU.mpr ⟨c',J1,ek⟩;obtain⟨l2,ws,wt,rfl,Z9,lw,ew⟩:=hp ek;have pn:none∈b.parts.map (kdn J (Y1<|T.map (·.1)) n<|wth M b):=ZU.mpr ⟨c',J1,ek⟩;obtain⟨G4,T5⟩:=Ew (f:=wr J (Y1<|T.map (·.1)) n<|wth M b) hc ((Ft λe he=>by have:=Bd.dep_mem<|Zi he;omega).mpr (by rw[ez];simp)) ew;have R4:=(L3 nb pn).trans T5;refine⟨Y,_,Y,VH (by simp[UD]) ?_⟩;refine⟨sl 1,λt1 T1=>?_⟩;refine up_in T1 _ λH5 s5 g5=>?_;refine⟨t1,l2,_,_,Y,Y,Z0 g5,Z0<|s5 _ _ Z9,by simp,Zf<|Yi (by show 1+(ws.map V.int).length<=1000;rw[ZA];omega),λe0=>?_,λe0 t2 T0=>?_⟩
     .refine ⟨sl 2,λS Z=>?_⟩
      exact q S _ _ (((J2.trans s4).trans s5).trans<|Ye Z _) (by rw[Wv en];exact YZ) λ_=>⟨t1,[((i:Nat):Int)],G4,rfl,(Ye Z _) _ _ g5,by show 1<=n+1;omega,by rw[R4];cases ws with|nil=>rfl|cons _ _=>cases e0⟩
     .refine up_in T0 _ λH6 s6 g6=>?_
      refine⟨sl 2,λS Z=>?_⟩;exact q S _ _ ((((J2.trans s4).trans s5).trans s6).trans<|Ye Z _) (by rw[Wv en];exact YZ) λ_=>⟨t2,((i:Nat):Int)::ws,G4,rfl,(Ye Z _) _ _ g6,by rw[Zd];omega,R4⟩
    |some zk=>
     refine⟨Y,_,Y,Y0 (by simp[UD]) ?_⟩;have J4:=s4 _ _<|sR _ _ hfi;refine⟨.inl ⟨Y,_,Z1 J4⟩,fl,_,_,Y,Y,J4,Yi (by rw[ZA];omega),?_⟩;have T2:=s4 _ _<|sR _ _ hai;have tk:TK H4 (upd H4 fl<|.lst<|zs.map V.str++[UD (some zk)]):=λb us h=>by rw[Yc (λe=>by rw[e,J4]at h;cases h)];exact h
     refine⟨((si.trans sR).trans s4).putN R1,tk _ _ T2,JM tk _ (Bd.sts _)<|(hxi.mono sR).mono s4,⟨zs++[zk],?_,?_⟩,_,_,_,_,rfl⟩
     .rw [take_snoc hc,ZI,ZI,ez]
      show _++[kdn _ _ _ _ _]=_;rw[ek];rfl
     .rw [YZ,ZI];rfl
  .rintro U Hi ⟨si,hai,hxi,⟨zs,ez,hfi⟩,z5,z6,z7,z8,rfl⟩
   rw[Ze (by omega)]at ez;have sH:=D.trans si;have a0:atI (V.str b.word::ys) 0=some (.str b.word):=Ya (j:=0) rfl
   obtain⟨gr,T4,pr,r1,r2,r3,r4,r5⟩:=hR b (λe' T6 D3 eb=>by
    subst eb;unfold Bd.ok at ok;rw[ok.2.1];exact ok.2.2.1.1)
   have lz:zs.length=b.parts.length:=by
    have:=congrArg List.length ez;rw[ZA,ZA]at this;exact this.symm
   have mz:∀z∈zs,z∈J.map (·.1):=λz hz=>by
    have m:some z∈b.parts.map (kdn J (Y1<|T.map (·.1)) n<|wth M b):=by rw[ez];exact ZU.mpr ⟨z,hz,Y⟩
    obtain⟨p,_,e⟩:=ZU.mp m;exact EQ kk hk n _ p z L1 e
   have eo:=Mq nb ez;exists _,_,Z0<|sH _ _ hb,a0,Sum.inr b.word,_,.ref gr,rfl,r1,rfl;refine⟨gr,T4,rps,WI C CK pr,Y,r2,r4,r5,t,a,fl,.ref bt,J,c,d,T,M,b,zs,Y,bi.mono sH,kk,nk,pl,ha.same sH,hv.mono sH,ok,r3,hfi,lz,mz,λH5 s5=>?_⟩;rw[<-eo];have G5:=sH.trans s5
   cases ek:kdn J (Y1<|T.map (·.1)) (n+1) M b with
   |none=>exact⟨Y,_,Y,VH (by simp[UD]) ⟨sl 0,λO X=>⟨sl 2,λS Z=>G3 ek (QH nb (by rw[ez];simp) ek) H5 G5 O S X Z⟩⟩⟩
   |some y=>
    refine⟨Y,_,Y,Y0 (by simp[UD]) ⟨sl 2,λS Z=>?_⟩⟩;exact q S _ _ (G5.trans<|Ye Z _) (by rw[ek];exact YZ) λe=>by rw[ek]at e;cases e
 .intro N key
  have a0:atI (V.str b.word::ys) 0=some (.str b.word):=Ya (j:=0) rfl;exists _,_,Z0 hb,a0,Y,_,Y
  cases b with
  |letb x k e g=>
   obtain⟨D0,u1,u2,e1,J5⟩:=EZ hv;cases e1;obtain⟨A',kt,rfl,b'⟩:=id bi;refine VH (decide_eq_true Y) ?_;exists _,_,Z0 J5,Y,_,.inl ⟨M,Sum.inr x,ha,Y,Y⟩,_,Y
   by_cases kn:(VD M<|Sum.inr x).isSome=true
   .exact VH (by rw[kn]) ⟨sl 0,λO X=>⟨sl 2,λS Z=>G3 (Gu<|.inl kn) (Fu<|.inl kn) H (Z6 _) O S X Z⟩⟩
   refine Y0 (by simpa using kn) ?_;refine⟨_,_,Z0 J5,Y,_,_,b'.ins,Y,A'.t,J,d,T,Y,bi,λso ki=>?_⟩;obtain⟨AK,SK,rfl,R6,T7⟩:=id ki;refine⟨_,_,R6.ins,Y,AK.t,J,d,Y,ki,λl R D hl g1=>?_⟩;have el:(J.map λk=>V.str k.1)=(J.map (·.1)).map V.str:=by rw[zf];rfl
   rw[el]at g1;exists l,_,Y,.inl<|Z1 g1,rfl,JG _,_,rfl;rw[JZ]
   by_cases km:k∈J.map (·.1)
   case neg=>exact VH (by simp only[if_true,yQ,decide_eq_false_iff_not];exact km) ⟨sl 0,λO X=>⟨sl 2,λS Z=>G3 (Gu<|.inr km) (Fu<|.inr km) R D O S X Z⟩⟩
   refine Y0 (by simp only[if_true,yQ,decide_eq_false_iff_not,Classical.not_not];exact km) ?_;refine⟨a,M,Y,ha.same D,λl2 Z9=>?_⟩;refine up_in Z9 _ λH2 s2 g2=>?_;have R3:=s2 _ _<|D _ _ J5;refine⟨_,_,Z0 R3,Y,_,_,Z0 R3,Y,_,UH.k (k:=Sum.inr x) g2<|Yi<|by omega,?_⟩;exact key _ _ ⟨l2,(D.trans s2).putN<|D.free Z9,λz=>z.elim (λz=>kn z) λz=>z km,.inl YZ,rfl⟩
  |_=>exact Y0 (λz=>by have z1:=Zr z;injection z1 with z2;exact Zp z2 (by dsimp only[Bd.word];decide +kernel))<|key _ _ ⟨a,Z6 _,λz=>z,ha,rfl⟩
end
end K4
namespace L2
open PySem
def U7(ks:kQ)(ps:List (Str×Str)):List (List W):=ps.foldl (λrows p=>rows.flatMap λr=>(Y8 ks 3 p.2).map λu=>r++[u]) [[]]
def Wr(r:List W):Dat:=.tup<|r.map W.dat
def Bz(Z:kQ)(J:List (Str×Str))(p:Str×Str):U7 Z (J++[p])=(U7 Z J).flatMap λr=>(Y8 Z 3 p.2).map λu=>r++[u]:=by
 unfold U7;rw[jC]
 rfl
theorem Ri{α β:Type}(f:α->List β)(k:Nat):∀l:List α,(∀a∈l,(f a).length=k)->(l.flatMap f).length=l.length*k
 |[],_=>by simp
 |a::l,h=>by
  rw[vT,ZJ,h a ZY,Ri f k l λb Z=>h b<|ZK _ Z,Zd,vg,Nat.add_comm]
theorem Uv(c:kU):∀(Z:List (Str×Str))(n:Nat),Z.foldl (λr p=>r*c p.2) n=n*V7 c Z
 |[],n=>by unfold V7;simp
 |p::Z,n=>by
  unfold V7;rw[y9,y9,Uv c Z<|n*c p.2,Uv c Z<|1*c p.2,Nat.one_mul,Nat.mul_assoc]
def Tb(h:∀p∈ps,0<c p.2)(i:Nat):V7 c (ps.take i)<=V7 c ps/\0<V7 c ps:=by
 have pos:∀Z:List (Str×Str),(∀p∈Z,0<c p.2)->0<V7 c Z:=λZ=>by
  induction Z with
  |nil=>intro _;exact Nat.one_pos
  |cons q Z ih=>
   intro G;unfold V7;rw[y9,Uv,Nat.one_mul];exact Nat.mul_pos (G q ZY)<|ih λp J=>G p<|ZK _ J
 refine⟨?_,pos ps h⟩
 have e:V7 c ps=V7 c (ps.take i)*V7 c (ps.drop i):=by
  conv=>lhs;rw[<-vw i ps]
  unfold V7;rw[jC,Uv]
  rfl
 rw[e];exact Nat.le_mul_of_pos_right _<|pos _ λp J=>h p<|List.mem_of_mem_drop J
def KK.c0(h:KK 30 c d Z)(J:y∈Z.map (·.1)):(Y8 Z 3 y).length=c y/\0<c y:=by
 have s:=h.small J;obtain⟨a,b,_⟩:=Ui h 3 y J (by omega);exact⟨a,b⟩
def FC(h:KK 30 c d J)(Z:List (Str×Str))(L:∀p∈Z,p.2∈J.map (·.1)):(U7 J Z).length=V7 c Z:=by
 have M:∀(Z:List (Str×Str))(rows:List (List W)),(∀p∈Z,p.2∈J.map (·.1))->(Z.foldl (λrows p=>rows.flatMap λr=>(Y8 J 3 p.2).map λu=>r++[u]) rows).length=Z.foldl (λr p=>r*c p.2) rows.length:=λZ=>by
  induction Z with
  |nil=>intro rows _;rfl
  |cons p Z ih=>
   intro rows G;rw[y9,y9,ih _ λq m=>G q<|ZK _ m,Ri _ (c p.2) rows λa _=>by rw[ZA];exact(h.c0<|G p ZY).1]
 exact M Z [[]] L
def B0(Z:List (Str×Str)):∀r∈U7 ks Z,r.length=Z.length:=by
 have N:∀(Z:List (Str×Str))(n:Nat)(rows:List (List W)),(∀r∈rows,r.length=n)->∀r∈Z.foldl (λrows p=>rows.flatMap λr=>(Y8 ks 3 p.2).map λu=>r++[u]) rows,r.length=n+Z.length:=λZ=>by
  induction Z with
  |nil=>intro n rows h r J;exact h r J
  |cons p Z ih=>
   intro n rows h r J
   have:=ih (n+1) _ (λr J=>by
    obtain⟨G,M,L⟩:=jG.mp J;obtain⟨u,_,rfl⟩:=ZU.mp L;rw[ZJ,h G M];rfl) r J
   rw[this,Zd];omega
 intro r J;have:=N Z 0 [[]] (λr J=>by rw[ZO.mp J];rfl) r J;omega
def Pd(N:Has H x (Wr r))(J:H b=some (.tup [wv]))(O:Has H wv u.dat)(B:r.length<=3)(q:∀v G,Same H G->Has G v (Wr<|r++[u])->Q v G):
  EG K x (.ref b) H Q\/NZ K x (.ref b) H Q:=by
 unfold Wr at N q;obtain⟨a,L,rfl,R,Z⟩:=Y5 N;have M:=Z.length;rw[ZA]at M
 cases r with
 |nil=>
  obtain rfl:=VS Z;exact .inl ⟨a,b,[wv],Y,Y,Z0 R,Z0 J,q _ _ (Z6 _)<|Yx J<|Z3 O⟩
 |cons y r=>
  refine .inr ⟨a,b,L,[wv],Y,Y,Z0 R,Z0 J,(λz=>by subst z;cases M),Zf (Yi (by simp only[ze];omega)),(λz=>nomatch z),λ_ p T=>?_⟩;have s:=Ye T<|.tup<|L++[wv];refine q _ _ s<|Yx YZ ?_;rw[ZI];exact Z5 (Z.mono s)<|Z3<|O.mono s
def B6{J:List (Str×Str)}{i:Nat}(h:HasL H G (J.map λp=>.tup [.str p.1,.str p.2]))(L:G[i]?=some x):∃p t,J[i]?=some p/\x=.ref t/\H t=some (.tup [.str p.1,.str p.2]):=by
 obtain⟨d,Z,N⟩:=h.get L;rw[ZG]at Z
 cases e:J[i]? with
 |none=>rw[e]at Z;cases Z
 |some p=>
  rw[e]at Z;cases Z;obtain⟨t,rfl,M⟩:=Xl N;exact⟨p,t,Y,Y,M⟩
end L2
namespace K4
open PySem L2
section
variable{f g C CK:Addr}
def MK(CK:Addr):Sp:=λM H Q _=>∃(G:Addr)(J:kQ)(d:kU)(Z:List (Str×Str))(v:V),M=[.ref G,v]/\KI H CK G J d/\J.length<=6/\Has H v (psD Z)/\Z.length<=3/\(∀p∈Z,p.2∈J.map (·.1))/\(Z.map (·.1)).Nodup/\(∀p∈Z,WdS p.1)/\
 ∀L,Same H L->Q (.bl true) L
def Gn:Yq ["kinds","parameters","seen","name","kind"] ["kinds","parameters"] (Yb By):=Y6
def Km(B:Blt T)(TC:KCl K CK)(F:Fun K "are_parameters" "are_parameters" By f fd)(hM:T "MOST_PARAMETERS"=some u)(rM:RelV (.int 3) u)(DN:Df P w K T base n "is_name" ["text"] (XC 97))(m2:V1 K CK "names" g)(G2:Ym P w K T base CX0 n g gd ["self"] (Uu CK))(b2:Binds K gd ["self"] []):Ym P w K T base CX0 (n+1) f fd ["kinds","parameters"] (MK CK):=by
 refine F.oq Gn λZ8 A j s H vs Q E m h=>?_;obtain⟨so,y,d,ps,v,rfl,ki,k6,hv,l3,pk,nd,S,q⟩:=h;have hu:=Jz m;unfold psD at hv;obtain⟨pa,xs,rfl,Z,M⟩:=Y5 hv;have lx:=M.length;rw[ZA]at lx;refine⟨_,YW (Y2 (Yn UX (Yt Yo Y B.len Zs (pa1<|pv 1)) (JK rfl hM rM)<|Yu _) (YY Jf) Yr)
  (YW (Yp 2 Gn.nd JE)
  (YW (Vy Zt rfl (Js<|pv 1) (VI (n:=2) rfl (Yj (Yd 3 Gn.nd)<|Yj (Yd 4 Gn.nd) Y7))
   (YW (Y2 (PW.pt<|Jq (Vx<|Vs<|Yy DN m<|pa1<|pv 3)<|Jq (UP<|X5 hu (pv 3)<|pv 2)<|Jc<|Yn JU (pv 4) (Vh (pv 0) TC.cl m2 G2 m b2 .nil VQ) rfl) (YY Jf) Yr)
   (YY<|V3 hu (pv 2) (pv 3) U8 rfl)))
  (YY<|Ys U8))),?_⟩
 dsimp only[Vg,Cx.nox,Cx.wish];show let a:=_;let b:=_;let c:=_;let d:=Yg (Y9 _ c _) b;let e:=Yg (J6 _ _ d) a;let f:=Yg _ e;let g:=_;Yg (Y9 _ g _) f _ _ _
 intros
 refine⟨pa,_,Y,.inr<|Z0 Z,_,rfl,Y0 (by simp;omega) ?_⟩;intro X N;refine up_in N _ λH1 s1 g1=>?_;exists ⟨_,Z0<|s1 _ _ Z⟩
 let I:kL:=λi U J=>Same H J/\∃G z3 z4,J X=some (.dK G)/\G.map (·.1)=(ps.take i).map (λp=>(Sum.inr p.1:Key))/\U=[some (.ref so),some<|.ref pa,some<|.ref X,z3,z4]
 refine RC (xs:=xs) I ⟨s1,[],_,_,g1,Y,Y⟩ (λi U J _ z=>Z0<|z.1 _ _ Z) ?_ ?_
 .rintro BB RR i x U J hx ⟨si,G,z3,z4,hk,ek,rfl⟩
  obtain⟨p,t,D,rfl,ht⟩:=B6 M hx;have O:=ZH D;have i3:=(ZE.mp D).1;obtain⟨w1,w2,w3⟩:=S p O
  have nk:VD G (Sum.inr p.1)=none:=WD (by
   rw[ek];intro z;obtain⟨q1,r,o⟩:=ZU.mp z;exact Ra nd (show(ps.map (·.1))[i]?=some p.1 by rw[ZG,D];rfl) (by rw[<-y6];exact ZU.mpr ⟨q1,r,Sum.inr.inj o⟩))
  exists _,Z0<|si _ _ ht,rfl;refine⟨p.1,Y,w1,w2,w3,λH2 R=>⟨_,Y,Y0 (by simp) ?_⟩⟩;refine⟨_,(show V2 H2 X (.str p.1) none by rw[<-nk];exact V2.k (k:=Sum.inr p.1)<|R _ _ hk),_,Y,Y0 (by simp) ?_⟩;have L:=ki.mono<|si.trans R;obtain⟨AK,SK,o,kd,kr⟩:=id L;refine⟨_,_,by rw[<-o];exact kd.ins,Y,so,y,d,Y,L,λl H3 s3 hl g3=>?_⟩;have el:(y.map λk=>V.str k.1)=(y.map (·.1)).map V.str:=by rw[zf];rfl
  rw[el]at g3;refine⟨l,_,Y,.inl<|Z1 g3,rfl,JG _,_,rfl,Y0 ?_ ?_⟩
  .rw [JZ]
   simp only[if_true,yQ,decide_eq_false_iff_not,Classical.not_not];exact pk p O
  have lk:G.length<=3:=by
   have:=congrArg List.length ek;rw[ZA,ZA,ZL]at this;omega
  refine⟨_,UH.k (k:=Sum.inr p.1) (s3 _ _<|R _ _ hk)<|Yi<|by omega,?_⟩;refine⟨((si.trans R).trans s3).putN N,_,_,_,YZ,?_,Y⟩;rw[UO _ nk,ZI,ek,take_snoc D,ZI]
  rfl
 .rintro U J ⟨si,_⟩
  exact q J si
def X0(CK:Addr):Sp:=λM H Q _=>∃(G:Addr)(J:kQ)(c d:kU)(Z:List (Str×Str))(v:V),M=[.ref G,v]/\KI H CK G J d/\KK 30 c d J/\Has H v (psD Z)/\(∀p∈Z,p.2∈J.map (·.1))/\V7 c Z<=1000/\
 ∀L,Same H L->Q (.int (V7 c Z:Nat)) L
def UN:Yq ["kinds","parameters","count","name","kind"] ["kinds","parameters"] (Yb Wp):=Y6
def Ni(B:Blt S)(TC:KCl K CK)(F:Fun K "row_count" "row_count" Wp f fd)(o:V1 K CK "worths_of" g)(G2:Ym P w K S base CX0 n g gd ["self","kind"] (UK CK))(b2:Binds K gd ["self","kind"] []):Ym P w K S base CX0 (n+1) f fd ["kinds","parameters"] (X0 CK):=by
 refine F.oq UN λZ8 A R s H vs Q E hr h=>?_;obtain⟨T,ks,c,d,ps,v,rfl,ki,j,y,D,top,q⟩:=h;unfold psD at y;obtain⟨r,xs,rfl,G,J⟩:=Y5 y;have lx:=J.length;rw[ZA]at lx;refine⟨_,YW (Yp 2 UN.nd YX)
  (YW (Vy Zt rfl (Js<|pv 1) (VI (n:=2) rfl (Yj (Yd 3 UN.nd)<|Yj (Yd 4 UN.nd) Y7))
   (YY<|KB (i:=2) UN.nd rfl (Or.inl rfl) (Yt Yo rfl B.len Zs (pa1<|Vd (pv 0) TC.cl o G2 hr b2 .nil VQ<|pa1<|pv 4)) PJ))
  (YY<|Ys<|pv 2)),?_⟩
 dsimp only[Vg,Cx.nox,Cx.wish];show let a:=_;let b:=_;let c:=Yg (J6 _ _ b) a;Yg _ c _ _ _
 intros
 refine BG ?_;exists ⟨_,Z0 G⟩
 let I:kL:=λi U L=>Same H L/\∃O N,U=[some (.ref T),some<|.ref r,some<|.int (V7 c (ps.take i):Nat),O,N]
 refine RC (xs:=xs) I ⟨Z6 _,_,_,Y⟩ (λi U L _ z=>Z0<|z.1 _ _ G) ?_ ?_
 .rintro BB RR i x U L hx ⟨si,O,N,rfl⟩
  obtain⟨p,t,M,rfl,ht⟩:=B6 J hx;have m:=D p<|ZH M;exists _,Z0<|si _ _ ht,rfl;have Z:=ki.mono si;obtain⟨AK,SK,e1,kd,kr⟩:=id Z;refine⟨_,Y,_,_,by rw[<-e1];exact kd.ins,Y,T,ks,d,p.2,Y,Z,m,λl k H3 u hl g3 hy=>?_⟩;have X:=hy.length;obtain⟨c1,c2⟩:=j.c0 m;rw[ZA,c1]at X;have le:=(Tb (c:=c) (ps:=ps) (λp M=>(j.c0<|D p M).2) i).1;refine⟨l,_,Y,.inl<|Z1 g3,.inl ⟨by omega,by omega⟩,?_⟩;have e:((V7 c (ps.take i):Nat):Int)*((k.length:Nat):Int)=((V7 c (ps.take<|i+1):Nat):Int):=by rw[take_snoc M,X2,X,Int.natCast_mul]
  exact⟨si.trans u,some<|.str p.1,some<|.str p.2,by rw[<-e];rfl⟩
 .rintro U L ⟨si,O,N,rfl⟩
  rw[Ze (by omega)];exact q L si
def Xz(CK:Addr):Sp:=λN H Q _=>∃(M:Addr)(J:kQ)(c d:kU)(Z:List (Str×Str))(v:V),N=[.ref M,v]/\KI H CK M J d/\KK 30 c d J/\Has H v (psD Z)/\(∀p∈Z,p.2∈J.map (·.1))/\Z.length<=3/\V7 c Z<=1000/\
 ∀l L G,Same H G->H l=none->G l=some (.lst L)->HasL G L ((U7 J Z).map Wr)->Q (.ref l) G
def UM:Yq ["kinds","parameters","rows","name","kind"] ["kinds","parameters"] (Yb Wo):=Y6
def P0:List.Nodup [("row":Str),"worth","kinds","kind"]:=by decide +kernel
def Nh(B:Blt mg)(TC:KCl K CK)(F:Fun K "rows_over" "rows_over" Wo f fd)(m2:V1 K CK "worths_of" g)(G2:Ym P w K mg base CX0 n g gd ["self","kind"] (UK CK))(b2:Binds K gd ["self","kind"] []):Ym P w K mg base CX0 (n+1) f fd ["kinds","parameters"] (Xz CK):=by
 refine F.oq UM λN2 A G3 s H vs Q E hr h=>?_;obtain⟨so,ks,c,d,ps,v,rfl,ki,kk,hv,pk,l3,top,q⟩:=h;unfold psD at hv;obtain⟨pa,xs,rfl,J4,J2⟩:=Y5 hv;have lx:=J2.length;rw[ZA]at lx;refine⟨_,YW (Yp 2 UM.nd<|Vf<|pa1<|Yv VR)
  (YW (Vy Zt rfl (Js<|pv 1) (VI (n:=2) rfl (Yj (Yd 3 UM.nd)<|Yj (Yd 4 UM.nd rfl (Or.inr rfl)) Y7))
   (YY (OW (i0:=2) (wi2:=LD K<|IM CK "worths_of" (UK CK) [] E (Xt 2)<|Vj (Xt 3) Xu) [0,4] UM.nd rfl (Or.inl rfl) (VL<|pv 2)
    (λcl C fp s H=>Yd 0 P0 rfl (Or.inl rfl) (Or.inr rfl)) (λcl C fp s H=>VL<|Vd (pv 2) TC.cl m2 G2 hr b2 .nil VQ<|pa1<|pv 3) (λcl C fp s H=>Yd 1 P0 rfl (Or.inl rfl) (Or.inr rfl))
    (λcl C fp s H=>Y4 (r:=λx y H Q=>EG K x y H Q\/NZ K x y H Q) EM (pv 0)<|Yv<|pa1<|pv 1))))
  (YY<|Ys<|pv 2)),?_⟩
 dsimp only[Vg,Cx.nox,Cx.wish];show let a:=_;let b:=_;let c:=Yg (J6 _ _ b) a;Yg _ c _ _ _
 intros
 refine⟨sl 0,λt0 G4=>⟨sl 1,λl0 S=>?_⟩⟩;have s1:=Ye G4<|.tup [];have g1:upd H t0 (.tup []) t0=some (.tup []):=YZ;generalize upd H t0 (.tup [])=H1 at s1 g1 S |-;refine up_in S _ λH2 s2 g2=>?_;have Z8:=s1.trans s2;exists ⟨_,Z0<|Z8 _ _ J4⟩;refine RC (xs:=xs) (λi U T=>Same H T/\∃l G z3 k,H l=none/\T l=some (.lst G)/\HasL T G ((U7 ks<|ps.take i).map Wr)/\U=[some (.ref so),some<|.ref pa,some<|.ref l,z3,k]) ⟨Z8,l0,_,_,_,s1.free S,g2,Z3<|Yx (s2 _ _ g1) Z4,rfl⟩ (λi U T _ z=>Z0<|z.1 _ _ J4) ?_ ?_
 .rintro BB RR i x U T hx ⟨si,l,G,z3,k,fl,hl,hy,rfl⟩
  obtain⟨p,t,O,rfl,ht⟩:=B6 J2 hx;have hk:=pk p<|ZH O;obtain⟨c1,c2⟩:=kk.c0 hk;have i3:=(ZE.mp O).1;have lR:=FC kk (ps.take i) λp O=>pk p<|Zi O;have rl:=B0 (ks:=ks)<|ps.take i;have le:=(Tb (c:=c) (ps:=ps) (λp O=>(kk.c0<|pk p O).2)<|i+1).1;have eR:U7 ks (ps.take<|i+1)=(U7 ks<|ps.take i).flatMap λr=>(Y8 ks 3 p.2).map λu=>r++[u]:=by rw[take_snoc O,Bz]
  rw[take_snoc O,X2,<-lR,<-c1]at le;rw[eR];have ly:=hy.length;rw[ZA]at ly;rw[ZL]at rl;generalize U7 ks (ps.take i)=R at lR rl le hy ly |-;generalize hus:Y8 ks 3 p.2=us at le |-;exists _,Z0<|si _ _ ht,rfl;exists ⟨G,Z1 hl⟩;refine RH G.length (λJ N m=>Same T m/\N.length=J*us.length/\J<=R.length/\HasL m N (((R.take J).flatMap λr=>us.map λu=>r++[u]).map Wr)) ⟨Z6 _,by simp,Za _,by rw[vk];exact Z4⟩
   (λJ N m z=>Yi (by rw[z.2.1];have:J*us.length<=R.length*us.length:=vE _ z.2.2.1;omega)) ?_ ?_ ?_ ?_
  .intro J N m hi z
   exact⟨G,G[J],Z1<|z.1 _ _ hl,by simp[hi]⟩
  .intro N m z
   exact⟨G,Z1<|z.1 _ _ hl,ZF _⟩
  .intro J N m x H'' RR' hi z yl hR
   obtain⟨rfl,yy⟩:=yl;obtain⟨dx,M,L1⟩:=hy.get<|yy G<|Z1<|z.1 _ _ hl;rw[ZG]at M
   cases hr1:R[J]? with
   |none=>rw[hr1]at M;cases M
   |some r=>
    rw[hr1]at M;cases M;have ri:=rl r<|ZH hr1;have J1:=ki.mono<|si.trans z.1;obtain⟨AK,SK,e1,kd,kr⟩:=id J1;refine⟨_,_,by rw[<-e1];exact kd.ins,Y,so,ks,d,p.2,Y,J1,hk,λlw D H3 e M2 gw hw=>⟨⟨D,Z1 gw⟩,?_⟩⟩;rw[hus]at hw;have Z9:=hw.length;rw[ZA]at Z9;have J5:=(L1.mono z.1).mono e;refine Nt D.length (λj I X=>Same H3 X/\I.length=J*us.length+j/\j<=us.length/\HasL X I (((R.take J).flatMap λr=>us.map λu=>r++[u]).map Wr++ ((us.take j).map λu=>r++[u]).map Wr)) ⟨Z6 _,by rw[z.2.1];rfl,Za _,by rw[vk,yW,yW,yz];exact z.2.2.2.mono e⟩
     (λj I X Z=>Yi (by
      rw[Z.2.1];have:(J+1)*us.length<=R.length*us.length:=vE _ (by omega);rw[vg]at this;have:=Z.2.2.1;omega)) ?_ ?_ ?_ ?_
    .intro j I X hj Z
     exact⟨D,D[j],Z1<|Z.1 _ _ gw,by simp[hj]⟩
    .intro I X Z
     exact⟨D,Z1<|Z.1 _ _ gw,ZF _⟩
    .intro j I X x2 H5 T2 hj Z yl2 hT
     obtain⟨rfl,G1⟩:=yl2;obtain⟨dz,L,G5⟩:=hw.get<|G1 D<|Z1<|Z.1 _ _ gw;rw[ZG]at L
     cases hv1:us[j]? with
     |none=>rw[hv1]at L;cases L
     |some v=>
      rw[hv1]at L;cases L;refine⟨sl 1,λb hb=>?_⟩;have sb:=Ye hb<|.tup [x2];have gb:upd H5 b (.tup [x2]) b=some (.tup [x2]):=YZ;refine Pd ((J5.mono Z.1).mono sb) gb ((G5.mono Z.1).mono sb) (by omega) λv' H6 s6 h6=>hT _ _ ?_;have o:=sb.trans s6;exists Z.1.trans o,by rw[ZJ,Z.2.1];rfl,(ZE.mp hv1).1;rw[take_snoc hv1,ZI,ZI,<-yP];exact Z5 (Z.2.2.2.mono o)<|Z3 h6
    .intro I X Z
     refine hR _ _ ⟨z.1.trans<|e.trans Z.1,by rw[Z.2.1,Z9,vg],(ZE.mp hr1).1,?_⟩;have y4:=Z.2.2.2;rw[show us.take D.length=us from Ze (by omega)]at y4;rw[take_snoc hr1,ji,ZI];simp only[vT,List.flatMap_nil,yz];exact y4
  .intro N m p3 z hp3
   have e:=Ye hp3<|.lst N;have k:=z.2.2.2;rw[Ze (by omega)]at k;exact⟨si.trans<|z.1.trans e,p3,N,_,_,(si.trans z.1).free hp3,YZ,k.mono e,rfl⟩
 .rintro U T ⟨si,l,G,z3,k,fl,hl,hy,rfl⟩
  rw[Ze (by omega)]at hy;exact q l G T si fl hl hy
end
end K4
namespace L2
open PySem
def WS(H:Hp)(x:Addr):Hp:=λb=>if b=x then none else H b
structure BB(Hm H:Hp)(C CK:Addr)(A:BA)(ks:List (Str×Shp))(d:Str->Nat):Prop where
 ins:H A.t=some (.ins C A.dx (Xb A))
 sm:Same Hm H
 so:KI Hm CK A.so ks d
 nd:Hm A.td=none
 nr:Hm A.rd=none
 ne:A.td≠A.rd
 n1:A.t≠A.td
 n2:A.t≠A.rd
def BB.same(b:BB J H C L A Z d)(s:Same H G):BB J G C L A Z d:=⟨s _ _ b.ins,b.sm.trans s,b.so,b.nd,b.nr,b.ne,b.n1,b.n2⟩
def BB.td(b:BB J H C G A Z d)(o:HO):BB J (upd H A.td o) C G A Z d:=⟨by rw[Yc b.n1];exact b.ins,b.sm.putN b.nd,b.so,b.nd,b.nr,b.ne,b.n1,b.n2⟩
def BB.rd(b:BB J H C G A Z d)(o:HO):BB J (upd H A.rd o) C G A Z d:=⟨by rw[Yc b.n2];exact b.ins,b.sm.putN b.nr,b.so,b.nd,b.nr,b.ne,b.n1,b.n2⟩
structure BT(H:Hp)(A:BA)(kv rv:List (Key×V))(ks:List (Str×Shp))(ds:List Dd):Prop where
 td:H A.td=some (.dK kv)
 rd:H A.rd=some (.dK rv)
 ke:kv.map (·.1)=ds.map (λx=>(Sum.inr x.1.1:Key))
 va:HasL H (kv.map (·.2)) (ds.map XB)
 ro:∀x∈ds,∃l xs,VD rv (Sum.inr x.1.1)=some (.ref l)/\H l=some (.lst xs)/\HasL H xs ((U7 ks x.1.2.1).map Wr)
 ln:rv.length<=ds.length
def BT.same(b:BT H A G J L T)(s:Same H B):BT B A G J L T:=
 ⟨s _ _ b.td,s _ _ b.rd,b.ke,b.va.mono s,λx M=>let⟨l,Z,R,O,N⟩:=b.ro x M;⟨l,Z,R,s _ _ O,N.mono s⟩,b.ln⟩
theorem Mu(e:TK H L):∀(u:W){v:V},Has H v u.dat->Has L v u.dat
 |.non,_,h=>by unfold W.dat Has at h |-;exact h
 |.tag _,_,h=>by unfold W.dat Has at h |-;exact h
 |.pair a b,_,h=>by
  obtain⟨p,N,M,rfl,Z,G,J⟩:=LK h;unfold W.dat Has;exact⟨p,_,Y,e _ _ Z,Z2 (Mu e a G)<|Z3<|Mu e b J⟩
theorem Mv{α:Type}{D:α->Dat}(e:∀u {v:V},Has H v (D u)->Has G v (D u)):∀{J:List α}{Z:kK},HasL H Z (J.map D)->HasL G Z (J.map D)
 |[],[],_=>Z4
 |[],_::_,h=>by rw[yW]at h;unfold HasL at h;exact h.elim
 |_::_,[],h=>by rw[ZT]at h;unfold HasL at h;exact h.elim
 |u::J,x::Z,h=>by
  rw[ZT]at h |-;unfold HasL at h;exact Z2 (e u h.1)<|Mv e h.2
def Ea(e:TK H R){Z:List (List W)}(h:HasL H L (Z.map Wr)):HasL R L (Z.map Wr):=Mv (λu v J=>by
 unfold Wr Has at J |-;obtain⟨a,G,O,N,M⟩:=J;exact⟨a,G,O,e _ _ N,Mv (λu {v}=>Mu e u) M⟩) h
def NL(x:Dd):(XB x).st=true:=by
 unfold XB psD;simp[Dat.st,Dat.sts,Gp,Bd.st]
theorem G0:∀Z:List Dd,Dat.sts (Z.map XB)=true
 |[]=>by unfold List.map Dat.sts;rfl
 |x::Z=>by rw[ZT];unfold Dat.sts;rw[G0 Z,NL];rfl
def Xm(h:Has H v (Jp x)):∃a u w,v=.ref a/\H a=some (.tup [.str x.1.1,u,.str x.1.2.2,w])/\Has H u (psD x.1.2.1)/\Has H w x.2.dat:=by
 unfold Jp at h;obtain⟨t,F,rfl,O,R⟩:=Y5 h;obtain⟨I,X,rfl,E,L⟩:=Yh R;obtain⟨N,C,rfl,D,G⟩:=Yh L;obtain⟨A,U,rfl,B,J⟩:=Yh G;obtain⟨M,S,rfl,T,Z⟩:=Yh J;obtain rfl:=VS Z;obtain rfl:=has_str E;obtain rfl:=has_str B;exact⟨t,N,M,Y,O,D,T⟩
def zK(A:BA):(Xb A).lookup ("is_head":Str)=none:=rfl
def zI(A:BA):(Xb A).lookup ("rows":Str)=some (V.ref A.rd):=rfl
def OZ(Z:X.calm=true)(M:PG X (.Name x1 p1) t1)(L:PG X (.Name x2 p2) t2)(G:PG X (.Name x3 p3) t3)(J:PG X (.Name x4 p4) t4):
  PG X (.Tuple [.Name x1 p1,.Name x2 p2,.Name x3 p3,.Name x4 p4] k pos) (PU X.K 4<|U9 t1<|U9 t2<|U9 t3<|U9 t4 Nw):=
 VI (n:=4) Z (Yj M<|Yj L<|Yj G<|Yj J Y7)
def BT.put(b:BT H0 A N M Q S)(P:A.td≠A.rd)(C:x.1.1∉S.map λy=>y.1.1)(R:U=upd H0 A.td (.dK<|putK N (Sum.inr x.1.1) v))(r:Has H0 v (XB x))(s:Same U Hb)(j:Hb l=some (.lst B))(w:HasL Hb B ((U7 Q x.1.2.1).map Wr))(L:H4=upd Hb A.rd (.dK<|putK M (Sum.inr x.1.1)<|.ref l)):
  BT H4 A (putK N (Sum.inr x.1.1) v) (putK M (Sum.inr x.1.1)<|.ref l) Q (S++[x]):=by
 have X:VD N (Sum.inr x.1.1)=none:=WD (by
  rw[b.ke];intro z;obtain⟨t,I,i⟩:=ZU.mp z;exact C<|ZU.mpr ⟨t,I,Sum.inr.inj i⟩)
 have F:U A.td=some (.dK<|putK N (Sum.inr x.1.1) v):=by rw[R];exact YZ
 have Z:Hb A.rd=some (.dK M):=s _ _ (by rw[R,Yc (Zq P)];exact b.rd);have D:TK H0 U:=by rw[R];exact J3 b.td λq z=>nomatch z
 have G:TK Hb H4:=by rw[L];exact J3 Z λq z=>nomatch z
 have E:TK H0 H4:=λb J h=>G _ _<|s _ _<|D _ _ h
 have p:∀b J,H0 b=some (.lst J)->H4 b=some (.lst J):=λc J h=>by
  have k:c≠A.td:=V8 h b.td (by intro z;cases z);have O:Hb c=some (.lst J):=s _ _ (by rw[R,Yc k];exact h);have g:c≠A.rd:=V8 O Z (by intro z;cases z);rw[L,Yc g];exact O
 have d:H4 l=some (.lst B):=by
  rw[L,Yc (V8 j Z (by intro z;cases z))];exact j
 exists by rw[L,Yc P];exact s _ _ F,by rw[L];exact YZ,by rw[UO _ X,ZI,b.ke,ZI];rfl,?_,λy u=>?_
 .rw [UO _ X,ZI,ZI]
  exact Z5 (JM E _ (G0 S) b.va)<|Z3<|XT E _ (NL x) r
 .rw [UJ]
  rcases ZV.mp u with m|m
  .have ny:¬(Sum.inr y.1.1:Key)=Sum.inr x.1.1:=λz=>C<|ZU.mpr ⟨y,m,Sum.inr.inj z⟩
   rw[Zo ny];obtain⟨f,T,o,O,e⟩:=b.ro y m;exact⟨f,T,o,p _ _ O,Ea E e⟩
  .cases ZO.mp m
   rw[Zn rfl];exact⟨l,B,Y,d,Ea G w⟩
 .have:=Na M (Sum.inr x.1.1)<|.ref l
  have:=b.ln;rw[ZJ,ze];omega
end L2
namespace K4
open PySem L2
section
variable{f g C CK:Addr}
def MJ(C CK:Addr):Sp:=λM H Q _=>∃(A:BA)(G:kJ)(J:kQ)(d:kU)(y k:Str)(Z:List (Str×Str))(v:V),M=[.ref A.t,.str y,v,.str k]/\H A.t=some (.ins C A.dx<|Xb A)/\H A.td=some (.dK G)/\KI H CK A.so J d/\J.length<=6/\VD G (Sum.inr y)=none/\WdS y/\
 Has H v (psD Z)/\Z.length<=3/\(∀p∈Z,p.2∈J.map (·.1))/\(Z.map (·.1)).Nodup/\(∀p∈Z,WdS p.1)/\k∈J.map (·.1)/\∀L,Same H L->Q (.bl true) L
def OT:Yq ["self","name","parameters","kind"] ["self","name","parameters","kind"] (Yb Bx):=Y6
def Kl(G:BCl K C)(TC:KCl K CK)(F:Fun K "is_head" "Book.is_head" Bx f fd)(DN:Df P w K T base n "is_name" ["text"] (XC 97))(DA:Df P w K T base n "are_parameters" ["kinds","parameters"] (MK CK))(r:V1 K CK "names" g)(G2:Ym P w K T base CX0 n g gd ["self"] (Uu CK))(b2:Binds K gd ["self"] []):Ym P w K T base CX0 (n+1) f fd ["self","name","parameters","kind"] (MJ C CK):=by
 refine F.oq OT λZ8 A R s H vs Q E N h=>?_;obtain⟨D,kv,L,d,y,k,m,v,rfl,B,ht,I,i,c,⟨j,X,U⟩,a,b,p,u,O,hk,q⟩:=h;have x:=Jz N;refine⟨_,YW (Y2 (PW.pt<|Jq (Vx<|Vs<|Yy DN N<|pa1<|pv 1)<|Jc<|UP<|X5 x (pv 1)<|VE (pv 0) rfl) (YY Jf) Yr)
  (YY<|Ys<|X4 (Yy DA N<|pa2 (VE (pv 0) rfl)<|pv 2)<|X3<|UC Uo (pv 3) (Vh (VE (pv 0) rfl) TC.cl r G2 N b2 .nil VQ) rfl),?_⟩
 dsimp only[Vg,Cx.nox,Cx.wish];refine⟨y,Y,j,X,U,λH1 J=>⟨_,Y,Y0 (by simp) ?_⟩⟩;refine⟨C,_,_,_,J _ _ B,G.cl,G.td,FY _,_,(show V2 H1 D.td (.str y) none by rw[<-c];exact V2.k (k:=Sum.inr y)<|J _ _ ht),_,Y,Y0 (by simp) ?_⟩;refine⟨C,_,_,_,J _ _ B,G.cl,G.so,LR _,D.so,L,d,m,v,Y,I.mono J,i,a.mono J,b,p,u,O,λH2 t=>⟨true,Y,VH Y ?_⟩⟩;have Z:=J.trans t;have M:=I.mono Z;obtain⟨AK,SK,e1,o,kr⟩:=id M;refine⟨C,_,_,_,Z _ _ B,G.cl,G.so,LR _,_,_,by rw[<-e1];exact o.ins,Y,D.so,L,d,Y,M,λl H3 z hl S=>?_⟩;have el:(L.map λk=>V.str k.1)=(L.map (·.1)).map V.str:=by rw[zf];rfl
 rw[el]at S;exists l,_,Y,.inl<|Z1 S,rfl,JG _;rw[JZ];have e:decide (k∈L.map (·.1))=true:=decide_eq_true hk;dsimp only[rI0,rI,U1];rw[e];exact q H3<|Z.trans z
end
section
variable{f g C CK:Addr}
def IY(C CK:Addr):Sp:=λO H Q _=>∃(G:Hp)(A:BA)(N:Addr)(M:kK)(Z:kQ)(c d:kU)(J:List Dd),O=[.ref A.t,.ref N]/\BB G H C CK A Z d/\BT H A [] [] Z []/\KK 30 c d Z/\Z.length<=6/\G N=some (.lst M)/\HasL G M (J.map Jp)/\0<J.length/\J.length<=8/\
 Wds 97 (J.map λx=>x.1.1)/\(∀x∈J,Ge (Z.map (·.1)) c 40 x.1)/\∀L T R,BB G L C CK A Z d->BT L A T R Z J->Q .non L
def WM:Yq ["self","definitions","in_all","number","name","parameters","kind","body","count"] ["self","definitions"] (Yb Bt):=Y6
def Kk(B:Blt T)(me:T "enumerate"=none)(R:BCl K C)(F:Fun K "take_heads" "Book.take_heads" Bt f fd)(h1:T "MOST_DEFINITIONS"=some u1)(r1:RelV (.int 8) u1)(h2:T "MOST_ROWS"=some u2)(r2:RelV (.int 200) u2)(h3:T "MOST_ROWS_IN_ALL"=some u3)(r3:RelV (.int 400) u3)(mH:V1 K C "is_head" g)(GH:Ym P w K T base CX0 n g gd ["self","name","parameters","kind"] (MJ C CK))(bH:Binds K gd ["self","name","parameters","kind"] [])(DC:Df P w K T base n "row_count" ["kinds","parameters"] (X0 CK))(DO:Df P w K T base n "rows_over" ["kinds","parameters"] (Xz CK)):Ym P w K T base CX0 (n+1) f fd ["self","definitions"] (IY C CK):=by
 refine F.oq WM λT1 A G5 s H vs Q E hr h=>?_;obtain⟨Hm,D,dl,zs,o,c,d,ds,rfl,bb,bt,kk,k6,X,Z8,d0,d8,wd,ho,q⟩:=h;have hu:=Jz hr;have lz:=Z8.length;rw[ZA]at lz;refine⟨_,YW (Y2 (Yn Vk (Yt Yo Y B.len Zs (pa1<|pv 1)) YX<|Yu _) (YY Jf) Yr)
  (YW (Yp 2 WM.nd YX)
  (YY (Vy Zt rfl (WP rfl me (pa1<|pv 1)) (VI (n:=2) rfl (Yj (Yd 3 WM.nd)<|Yj (OZ rfl (Yd 4 WM.nd) (Yd 5 WM.nd) (Yd 6 WM.nd) (Yd 7 WM.nd)) Y7))
   (YW (Y2 (PW.pt<|Jq (Yn Py (pv 3) (JK rfl h1 r1)<|Yu _)<|Jc<|Vx<|Vs<|Vd (pv 0) R.cl mH GH hr bH .nil VQ<|pa3 (pv 4) (pv 5)<|pv 6) (YY Jf) Yr)
   (YW (Yp 8 WM.nd<|Yy DC hr<|pa2 (VE (pv 0) rfl)<|pv 5)
   (YW (KB (i:=2) WM.nd rfl (Or.inl rfl) (pv 8) PK)
   (YW (Y2 (PW.pt<|Jq (Yn UX (pv 8) (JK rfl h2 r2)<|Yu _)<|Jc<|Yn UX (pv 2) (JK rfl h3 r3)<|Yu _) (YY Jf) Yr)
   (YW (V3 hu (VE (pv 0) rfl) (pv 4) (Yv<|pa3 (pv 5) (pv 6)<|pv 7) rfl)
   (YY<|V3 hu (VE (pv 0) rfl) (pv 4) (Yy DO hr<|pa2 (VE (pv 0) rfl)<|pv 5) rfl))))))))),?_⟩
 dsimp only[Vg,Cx.nox,Cx.wish];show let a:=_;let b:=Yg _ a;let c:=_;let d:=Yg (Y9 _ c _) b;let e:=Yg _ d;let f:=Yg _ e;let g:=_;let h:=Yg (Y9 _ g _) f;let i:=J6 _ _ h;let j:=Yg _ i;let k:=_;Yg (Y9 _ k _) j _ _ _
 intros
 refine⟨dl,_,Y,.inl<|Z1<|bb.sm _ _ X,rfl,_,rfl,Y0 (λz=>by have z1:=Zr z;injection z1 with z2;omega) ?_⟩;refine BG ?_;exists dl,false,zs,Y,Z1<|bb.sm _ _ X
 let I:kL:=λi U t=>BB Hm t C CK D o d/\∃(M v:kJ)(n:Nat)(z3 z4 z5 z6 z7 z8:kO),BT t D M v o (ds.take i)/\n<=40*i/\U=[some (.ref D.t),some<|.ref dl,some<|.int (n:Nat),z3,z4,z5,z6,z7,z8]
 refine Gx (tp:=false) (xs:=zs) I
  ⟨bb,[],[],0,_,_,_,_,_,_,bt,ZF _,rfl⟩ (λi U t _ z=>Z1<|z.1.sm _ _ X) ?_ ?_
 .rintro BB' RR i x U t r hx ⟨bbi,M,v,n',z3,z4,z5,z6,z7,z8,bti,n40,rfl⟩ hr'
  obtain⟨dd,G,R5⟩:=Z8.get hx;rw[ZG]at G
  cases hc:ds[i]? with
  |none=>rw[hc]at G;cases G
  |some Z=>
   rw[hc]at G;cases G;have i8:=(ZE.mp hc).1;have hm:=ZH hc;obtain⟨p3,pk,hk,G4,G3,T0⟩:=ho Z hm;refine up_in hr' _ λHR sR gR=>?_;have J:=bbi.same sR;have J2:=bti.same sR;obtain⟨ta,u,wv,rfl,R3,Z9,M2⟩:=Xm<|R5.mono J.sm
   have nx:Z.1.1∉(ds.take i).map λy=>y.1.1:=by
    rw[y6];exact Ra wd.nd (show(ds.map λy:Dd=>y.1.1)[i]?=some Z.1.1 by rw[ZG,hc];rfl)
   have nk:VD M (Sum.inr Z.1.1)=none:=WD (by
    rw[bti.ke];intro z;obtain⟨q1,R4,e1⟩:=ZU.mp z;exact nx<|ZU.mpr ⟨q1,R4,Sum.inr.inj e1⟩)
   have lk:M.length<=8:=by
    have:=congrArg List.length bti.ke;rw[ZA,ZA,ZL]at this;omega
   have lr:=bti.ln;rw[ZL]at lr;refine⟨_,Z0 gR,Y,⟨_,Z0 R3,Y,?_⟩⟩;refine⟨_,Y,Y0 (by simp;omega) ?_⟩;refine⟨_,_,J.ins,zK _,D,M,o,d,Z.1.1,Z.1.2.2,Z.1.2.1,u,Y,J.ins,J2.td,J.so.mono J.sm,k6,nk,wd.wdS<|ZU.mpr ⟨Z,hm,rfl⟩,Z9,p3,pk,G4,G3,hk,λH1 s1=>⟨_,rfl,Y0 (by simp) ?_⟩⟩;have O:=J.same s1;have R7:=J2.same s1;have S:=Z9.mono s1;refine⟨C,_,_,_,O.ins,R.cl,R.so,LR _,D.so,o,c,d,Z.1.2.1,u,Y,O.so.mono O.sm,kk,S,pk,by omega,λH2 p=>?_⟩;have R8:=O.same p;have R6:=R7.same p;exists _,Y;refine⟨_,Y,Y0 (by simp;omega) ?_⟩;refine⟨_,Y,Y0 (by simp;omega) ?_⟩;refine⟨sl 3,λtt R1=>?_⟩;refine up_in R1 _ λH3 m g3=>?_;have J5:=R8.same m;have N:=R6.same m;have N2:Has H3 (.ref tt) (XB Z):=Yx g3<|Z2 ((S.mono p).mono m)<|Z2 Yz<|Z3<|((M2.mono s1).mono p).mono m;refine⟨C,_,_,_,J5.ins,R.cl,R.td,FY _,_,UH.k (k:=Sum.inr Z.1.1) N.td<|Yi<|by omega,?_⟩;have L:=J5.td<|.dK<|putK M (Sum.inr Z.1.1)<|.ref tt;obtain⟨H4,e4⟩:∃H4,H4=upd H3 D.td (.dK<|putK M (Sum.inr Z.1.1)<|.ref tt):=⟨_,rfl⟩;have G1:TK H3 H4:=by rw[e4];exact J3 N.td λys z=>nomatch z
   have G2:H4 D.rd=some (.dK v):=by rw[e4,Yc (Zq bb.ne)];exact N.rd
   rw[<-e4]at L;dsimp only[rI0,rI,U1];rw[<-e4];refine⟨C,_,_,_,L.ins,R.cl,R.so,LR _,D.so,o,c,d,Z.1.2.1,u,Y,L.so.mono L.sm,kk,XT G1 _ (by unfold psD;unfold Dat.st;exact Gp _)<|(S.mono p).mono m,pk,p3,by omega,λl xs H5 s5 fl hl L1=>?_⟩;have J4:=L.same s5;refine⟨C,_,_,_,J4.ins,R.cl,R.rd,zI _,_,UH.k (k:=Sum.inr Z.1.1) (s5 _ _ G2)<|Yi<|by omega,?_⟩;have J1:=N.put bb.ne nx e4 N2 s5 hl L1 rfl;rw[<-take_snoc hc]at J1;exact⟨J4.rd _,_,_,n'+V7 c Z.1.2.1,_,_,_,_,_,_,J1,by omega,Y⟩
 .rintro U t ⟨bbi,M,v,n',z3,z4,z5,z6,z7,z8,bti,n40,rfl⟩
  rw[Ze (by omega)]at bti;exact q t M v bbi bti
end
end K4
namespace L2
open PySem
def BD.mono(k:BD H C M A Z J d G)(e:Same H L):BD L C M A Z J d G:=⟨e _ _ k.ins,k.so.mono e,e _ _ k.td,k.ke,k.va.mono e,k.nd⟩
def B8(n:b≠x)(h:H b=some o):WS H x b=some o:=by unfold WS;rw[Zo n];exact h
def KI.out(k:KI H T t M d)(O:H x=some (.ins C R [])):KI (WS H x) T t M d:=by
 obtain⟨A,S,rfl,J,N⟩:=k;have Z:∀{b:Addr}{o:HO},H b=some o->o≠.ins C R []->WS H x b=some o:=λ{b o} h n=>B8 (V8 h O n) h;have L:TL H (WS H x):=⟨λb G h=>Z h (by intro z;cases z),λb G h=>Z h (by intro z;cases z)⟩;refine⟨A,S,Y,⟨Z J.ins λz=>?_,Z J.sh (λz=>by cases z),Z J.wo (λz=>by cases z),Z J.he (λz=>by cases z),Z J.pd (λz=>by cases z),Z J.tk (λz=>by cases z),Z J.pk (λz=>by cases z),J.nd⟩,N.tl L⟩;injection z with _ _ z;unfold Gb at z;cases z
end L2
namespace K4
open PySem L2
section
variable{f g C CK N fI:Addr}
def Jy:Yq ["self","number","name","parameters","kind","body","found","place"] ["self"] (Yb Mb):=Y6
def zJ(A:BA):(Xb A).lookup ("names":Str)=none:=rfl
def OS:Yq ["self","kinds","definitions"] ["self","kinds","definitions"] (Yb Bw):=Y6
def zH(A:BA):(Xb A).lookup ("take_heads":Str)=none:=rfl
def zL(A:BA):(Xb A).lookup ("check_bodies":Str)=none:=rfl
end
end K4
namespace L2
open PySem
def DW(m:Nat)(d:Dat):Prop:=d.dep<=m/\d.wid<=1000
def DW.up(h:DW m d)(l:m<=n):DW n d:=⟨ZZ h.1 l,h.2⟩
theorem Mx:∀{Z:kP},(∀d∈Z,DW m d)->Dat.deps Z<=m/\Dat.wids Z<=1000
 |[],_=>by unfold Dat.deps Dat.wids;exact⟨Za _,Za _⟩
 |d::Z,h=>by
  have q:=Mx λe G=>h e<|ZK _ G;have J:=h d ZY;unfold Dat.deps Dat.wids;exact⟨vP.mpr ⟨J.1,q.1⟩,vP.mpr ⟨J.2,q.2⟩⟩
def Sx(h:∀d∈Z,DW m d)(l:Z.length<=1000):DW (1+m) (.lst Z):=by
 have q:=Mx h;unfold DW Dat.dep Dat.wid;exact⟨by omega,vP.mpr ⟨l,q.2⟩⟩
def Dq(h:∀d∈Z,DW m d)(l:Z.length<=1000):DW (1+m) (.tup Z):=by
 have q:=Mx h;unfold DW Dat.dep Dat.wid;exact⟨by omega,vP.mpr ⟨l,q.2⟩⟩
def Mw(x:Str):DW 0 (.str x):=by unfold DW Dat.dep Dat.wid;exact⟨ZF _,Za _⟩
def Sw(G:DW m d)(J:DW m e):DW (1+m) (.tup [d,e]):=Dq (λx Z=>by
 rcases Zb.mp Z with rfl|Z
 .exact G
 .cases ZO.mp Z
  exact J)<|by simp
end L2
namespace L2
open PySem PySem.Spec PyProof.Rows
section
variable{X:Cx}{CX:CXT}{k:Nat}{f C:Addr}{fd:FuncData}{ps:ky}{sp:Sp}{dvs:kK}{ds:kq}{E:St->XK}{x:Str}{p pos:Pos}{e:Expr}{es:kX}{t:TA}
def IN(C:Addr)(sp:Sp)(dvs:kK)(E:St->XK)(t:TA):TE:=λU H Q=>t U H λG J=>∀x Z,J x=none->J Z=none->Z≠x->sp (.ref x::(G++ dvs)) (upd (upd J Z<|.own x) x<|.ins C Z []) (λv L=>v=.non/\Q (.ref x) L) (E U)
def FB{Z:kh}{U:St}{H:Hp}{s:Shared}{Q:VK}{G:kq}{N:kK}(M:Mk X.K C f)(F:Ym X.prog X.w X.K X.mg X.base CX k f fd ps sp)(S:VW (k+1) X.A)(y:Binds X.K fd ps ds)(j:Vals dvs ds)(A:∀U,U6 CX X U<|E U)(I:Inv X Z U H s)(r:Vals N G)(h:∀x L,H x=none->H L=none->L≠x->sp (.ref x::(N++ dvs)) (upd (upd H L<|.own x) x<|.ins C L []) (λv d=>v=.non/\Q (.ref x) d) (E U)):
  wpAny (model X.prog X.w) X.A (call (.ref C) G) (EP X Z U Q) X.xe s:=by
 have R:=h (s.heap.objs.size+1) s.heap.objs.size (I.hok.fresh<|yS _) (I.hok.fresh<|ZF _)<|Zc<|yV _;have J:=Inv.made (C:=C) I;have O:Vals (V.ref (s.heap.objs.size+1)::(N++ dvs)) (Value.ref (s.heap.objs.size+1)::(G++ ds)):=.cons rfl (r.append j)
 have P:(Value.ref (s.heap.objs.size+1)::G++ ds).length=ps.length:=by
  have q:=O.length;rw[F.len _ _ _ _ R]at q;exact q.symm
 refine wpAny_call<|Nn (f:=f) I.kIn M.makes M.init (beq_iff_eq.mp M.fn)<|vc (F.run _ X.stack _ _ ⟨Value.ref (s.heap.objs.size+1)::G,[]⟩ (Value.ref (s.heap.objs.size+1)::(G++ ds)) _ _ (E U) (S.make C G []) (J.env0.make C G []) (y _ (Value.ref (s.heap.objs.size+1)::G) J.kIn P) O R) λr T z=>?_
 cases r with
 |error e=>exact A U Z _ _ e T J z
 |ok m=>
  cases m with
  |ret u=>
   obtain⟨v,w,c,B,g,D⟩:=J.after z;subst g;exact⟨B,⟨V.ref<|s.heap.objs.size+1,w,c,rfl,D⟩⟩
  |next=>exact False.elim z
  |brk=>exact False.elim z
  |cont=>exact False.elim z
def KH(M:Mk X.K C f)(F:Ym X.prog X.w X.K X.mg X.base CX k f fd ps sp)(O:VW (k+1) X.A)(T:Gl X x)(R:X.mg x=some (.ref C))(A:Binds X.K fd ps ds)(D:Vals dvs ds)(N:∀U,U6 CX X U<|E U)(S:PA X (e::es) t)(G:(x==("__debug__":Str))=false:=by decide)(B:starEach (e::es) X.env=(false,eval e X.env)::starEach es X.env:=by rfl)(J:(backTo pos<|starEach es X.env).any (·.1)=false:=by rfl):
  PE X (.Call (.Name x p) (e::es) [] pos) (IN C sp dvs E t):=by
 intro Z s U H Q I h;refine yg<|UE I T R ?_ G;refine vz (h₀:=X.base) I.ok.mod.kin M.kp (thn (S pos Z s U H _ I h) λj y ⟨P,z,L,r,q⟩=>⟨L.kIn,?_⟩) B J;exact FB M F O A D N L r q
end
def Tg(K:W.Frag)(h:X.K=K)(Z:PE X e ta)(J:attributeBase e f X.env (eval e X.env)=eval e X.env):PE X (.Attribute e f pos) (Po K ta f):=h ▸ Oa Z J
def J9(J:Gl X x)(Z:X.mg x=some (.ref C))(G:(x==("__debug__":Str))=false:=by decide):PE X (.Name x pos) (tC<|.ref C):=JK (v:=.ref C) J Z rfl G
end L2
namespace K4
open PySem L2
end K4
namespace L2
open PySem
end L2
namespace K4
open PySem L2
end K4
namespace L2
open PySem
end L2
namespace K4
open PySem L2
end K4
namespace L2
open PySem
end L2
namespace K4
open PySem L2
end K4
namespace L2
open PySem PySem.Spec PyProof.Rows
end L2
namespace L2
open PySem
def PD{K:W.Frag}(X:K.In h)(L:K.lookup a=some ⟨.type "dict",none,.dict Z n,#[]⟩)(M:W.KeysLit w.params Z.toList):h.MapOf (VC P w) a λk=>findBy JY Z k:=by
 have keys:KeysOf (VC P w) Z:=λd N=>by
  have⟨x,t,J,G⟩:=W.KeysLit.all M d (by simpa using N);refine⟨Sum.inr x,?_,G⟩;show JY (Sum.inr x) d.key=true;rw[J,Rc]
 exact⟨_,Z,n,X a _ L,⟨Y,Y,Y⟩,Y,keys,λk=>Y⟩
def XJ(Z:K.lookup a=some ⟨.type "dict",none,.dict J n,#[]⟩)(e:W.nsIn K a x=some (some v)):findBy JY J (Sum.inr x)=some v:=by
 have q:=W.find_K Z e;exact q
end L2
namespace K4
open PySem L2
section
variable{f g C CK:Addr}
abbrev wps:ky:=["book","around","body"]
def RA(P:Program)(w:World)(K:W.Frag)(mg:Str->Option Value)(base:Heap)(C CK:Addr)(mR:Key->Option Value)(x:Str)(p:Bd->Prop):Prop:=∃g Z,mR (Sum.inr x)=some (.ref g)/\Ym P w K mg base CX0 3 g Z rps (WI C CK p)/\W.keepIn K (.ref g)=true/\Binds K Z rps []
def RA.at(r:RA P w K J base C CK G x p)(L:Nat)(e:b.word=x)(h:p b):∃(g:Addr)(Z:FuncData)(p:Bd->Prop),G (Sum.inr b.word)=some (.ref g)/\Ym P w K J base CX0 (L+3) g Z rps (WI C CK p)/\p b/\W.keepIn K (.ref g)=true/\Binds K Z rps []:=by
 obtain⟨g,Z,R,O,N,M⟩:=r;exact⟨g,Z,p,by rw[e];exact R,O.mono<|by omega,h,N,M⟩
theorem Iv(L:Nat)(S:RA P w K Z base C CK J "tag" λb=>∃t,b=.tag t)(I:RA P w K Z base C CK J "name" λb=>∃x,b=.name x)(A:RA P w K Z base C CK J "pair" λb=>∃e g,b=.pair e g)(F:RA P w K Z base C CK J "one" λb=>∃e,b=.one e)(E:RA P w K Z base C CK J "other" λb=>∃e,b=.other e)(D:RA P w K Z base C CK J "choose" λb=>∃e M G,b=.choose e M G/\1<=G.length)(B:RA P w K Z base C CK J "ask" λb=>∃N O,b=.ask N O)(T:RA P w K Z base C CK J "let" λb=>∃x k e g,b=.letb x k e g):
  ∀b:Bd,(∀e M G,b=.choose e M G->1<=G.length)->∃(g:Addr)(R:FuncData)(p:Bd->Prop),J (Sum.inr b.word)=some (.ref g)/\Ym P w K Z base CX0 (L+3) g R rps (WI C CK p)/\p b/\W.keepIn K (.ref g)=true/\Binds K R rps []
 |.tag t,_=>S.at L rfl ⟨t,rfl⟩
 |.name x,_=>I.at L rfl ⟨x,rfl⟩
 |.pair e g,_=>A.at L rfl ⟨e,g,rfl⟩
 |.one e,_=>F.at L rfl ⟨e,rfl⟩
 |.other e,_=>E.at L rfl ⟨e,rfl⟩
 |.choose e M G,h=>D.at L rfl ⟨e,M,G,rfl,h e M G rfl⟩
 |.ask N O,_=>B.at L rfl ⟨N,O,rfl⟩
 |.letb x k e g,_=>T.at L rfl ⟨x,k,e,g,rfl⟩
theorem P4(B:Blt Z)(J:Z "enumerate"=none)(y:BCl K C)(j:KCl K CK)(F:Fun K "kind_or_place" "kind_or_place" sKP f A)(S:Binds K A wps [])(M:Z "kind_or_place"=some (.ref f))(O:V1 K C "kinds" u)(q:Ym P w K Z base CX0 3 u r ["self"] (Jg C CK))(X:Binds K r ["self"] [])(N:V1 K CK "names" d)(z:Ym P w K Z base CX0 3 d v ["self"] (Uu CK))(U:Binds K v ["self"] [])(t:Df P w K Z base 3 "parts" ["body"] Gh)(G:Z "RULES"=some (.ref l))(T:base.MapOf (VC P w) l k)(R:∀(L:Nat)(b:Bd),(∀e m I,b=.choose e m I->1<=I.length)->∃(g:Addr)(D:FuncData)(p:Bd->Prop),k (Sum.inr b.word)=some (.ref g)/\Ym P w K Z base CX0 (L+3) g D rps (WI C CK p)/\p b/\W.keepIn K (.ref g)=true/\Binds K D rps []):
  ∀n,Ym P w K Z base CX0 (n+3) f A wps<|RW C CK n
 |0=>.none λo H Q E h=>by
  obtain⟨_,_,_,_,_,_,_,_,_,_,_,_,_,_,_,_,_,_,_,c,_⟩:=h;exact Zu _ c
 |n+1=>(Ah (L:=n) B J y j F (P4 B J y j F S M O q X N z U t G T R n) S M O (q.mono<|by omega) X N (z.mono<|by omega) U (t.up<|by omega) G T<|R n).mono<|by omega
end
end K4
namespace L2
open PySem
structure Pen(K:W.Frag)(sa:Addr)(H:Hp)(p:Addr):Prop where
 ex:∃(ns:List Int)(k x:Nat),SqL K H sa (ns.map V.int)/\H p=some (.lst [.ref sa,.int (k:Nat),.int (x:Nat)])/\sa≠p
def SqL.sb{K:W.Frag}(h:SqL K H a Z)(s:SameB p H J)(n:a≠p):SqL K J a Z:=
 h.imp (λh=>h.imp (λh=>s _ _ n h) λ⟨o,h⟩=>⟨o,s _ _ n h⟩) id
def Fun.oi{K:W.Frag}{L:Stmt}(F:Fun K x qual L f D)(S:Yq N T (Yb L))(J:∀(M:Value)(A:Around)(Z:List Env)(s:Shared)(H:Hp)(G:kK)(Q:VK)(E:XK),VW k (A.deeper<|PyProof.Rows.envOfC qual (Yb L) s.heap.objs.size f M)->R G H Q E->
   ∃t,PSs (Vg CX0 P w K B base N qual (Yb L) f M A Z s H E).nox (JV L) t/\t {nx:=λ_ I=>Q .non I,rt:=Q} (start N G) H)(O:∀G H Q E,R G H Q E->G.length=T.length:=by intro G H Q E h;cases h;rfl):Ym P w K B base CX0 (k+1) f D T R:=F.ok S O J
def Pen.same(h:Pen K sa H p)(s:Same H M):Pen K sa M p:=let⟨Z,k,x,L,G,J⟩:=h.ex;⟨Z,k,x,s.seq L,s _ _ G,J⟩
def Pen.put(h:Pen K sa H p)(s:SameB p H J)(N:Pen K sa J p)(e:H a=none)(n:a≠p):Pen K sa (upd J a o) p:=by
 obtain⟨G,_,_,M,_,Z⟩:=h.ex;obtain⟨_,k,x,_,L,_⟩:=N.ex;exact⟨G,k,x,M.sb (s.put e) Z,by rw[Yc (Zq n)];exact L,Z⟩
def Pen.ne(h:Pen K sa H p)(e:H r=none):r≠p:=λz=>by
 obtain⟨J,k,x,L,Z,G⟩:=h.ex;rw[<-z,e]at Z;cases Z
def Pen.tup(h:Pen K sa H p)(e:H r=some (.tup J)):r≠p:=λz=>by
 obtain⟨G,k,x,M,Z,L⟩:=h.ex;rw[<-z,e]at Z;cases Z
def Pen.tk(h:Pen K sa H p)(s:SameB p H Z):TK H Z:=λb J e=>s b _ (h.tup e) e
mutual
def Dat.ni:Dat->Bool
 |.int _=>false
 |.tup ds=>Dat.nis ds
 |.lst ds=>Dat.nis ds
 |_=>true
def Dat.nis:List Dat->Bool
 |[]=>true
 |d::ds=>d.ni && Dat.nis ds
end
theorem EN:∀{Z:kP},(∀d∈Z,d.ni=true)->Dat.nis Z=true
 |[],_=>by unfold Dat.nis;rfl
 |d::Z,h=>by unfold Dat.nis;rw[h d ZY,EN λe J=>h e (ZK _ J)];rfl
def O5{α:Type}{f:α->Dat}(h:∀a,(f a).ni=true)(l:List α):Dat.nis (l.map f)=true:=EN λd Z=>by
 obtain⟨a,_,rfl⟩:=ZU.mp Z;exact h a
mutual
theorem Dat.ni_of:∀{d:Dat},d.st=true->d.ni=true
 |.str _,_=>by unfold Dat.ni;rfl
 |.tup ds,t=>by
  unfold Dat.st at t;unfold Dat.ni;exact Dat.nis_of t
 |.non,_=>by unfold Dat.ni;rfl
 |.bl _,_=>by unfold Dat.ni;rfl
 |.int _,t=>by unfold Dat.st at t;cases t
 |.lst _,t=>by unfold Dat.st at t;cases t
theorem Dat.nis_of:∀{Z:kP},Dat.sts Z=true->Dat.nis Z=true
 |[],_=>by unfold Dat.nis;rfl
 |d::Z,t=>by
  unfold Dat.sts at t;have J:=zx.mp t;unfold Dat.nis;rw[Dat.ni_of J.1,Dat.nis_of J.2];rfl
end
mutual
theorem Vm{K:W.Frag}{H R:Hp}(s:SameB p H R)(J:Pen K sa H p):∀(d:Dat){v:V},d.ni=true->Has H v d->Has R v d
 |.non,_,_,h=>by unfold Has at h |-;exact h
 |.bl _,_,_,h=>by unfold Has at h |-;exact h
 |.int _,_,t,_=>by unfold Dat.ni at t;cases t
 |.str _,_,_,h=>by unfold Has at h |-;exact h
 |.tup ds,_,t,h=>by
  unfold Has at h |-;obtain⟨a,L,M,Z,G⟩:=h;unfold Dat.ni at t;exact⟨a,L,M,s _ _ (J.tup Z) Z,JA s J ds t G⟩
 |.lst ds,_,t,h=>by
  unfold Has at h |-;obtain⟨a,L,M,Z,G⟩:=h;unfold Dat.ni at t;refine⟨a,L,M,s _ _ (λz=>?_) Z,JA s J ds t G⟩;obtain⟨D,k,x,_,e,_⟩:=J.ex;rw[z,e]at Z;cases Z;obtain⟨B,N,T⟩:=G.get (i:=1) rfl;have:B=.int (k:Nat):=Has.inj _ _ T (by unfold Has;rfl);subst this
  match ds,N,t with
  |_::_::_,N,t=>
   cases N;unfold Dat.nis at t;rw[ZX]at t;have O:=t.2;unfold Dat.nis Dat.ni at O;cases O
theorem JA{K:W.Frag}{H M:Hp}(s:SameB p H M)(L:Pen K sa H p):∀(Z:kP){J:kK},Dat.nis Z=true->HasL H J Z->HasL M J Z
 |[],[],_,h=>Z4
 |[],_::_,_,h=>by unfold HasL at h;exact h.elim
 |_::_,[],_,h=>by unfold HasL at h;exact h.elim
 |d::Z,x::J,t,h=>by
  unfold HasL at h;unfold Dat.nis at t;have G:=zx.mp t;exact Z2 (Vm s L d G.1 h.1)<|JA s L Z G.2 h.2
end
def Pen.lst(M:Pen K sa H p)(h:H a=some (.lst L))(g:HasL H L G)(t:Dat.nis G=true):a≠p:=λz=>by
 obtain⟨R,k,x,_,e,_⟩:=M.ex;rw[z,e]at h;cases h;obtain⟨O,Z,N⟩:=g.get (i:=1) rfl;have:O=.int (k:Nat):=Has.inj _ _ N (by unfold Has;rfl);subst this
 match G,Z,t with
 |_::_::_,Z,t=>
  cases Z;unfold Dat.nis at t;rw[ZX]at t;have J:=t.2;unfold Dat.nis Dat.ni at J;cases J
end L2
namespace K4
open PySem L2
section
def Bi:Yq ["_law_cell","_law_at","_law_x"] ["_law_cell","_law_at"] (Yb K7):=Y6
inductive QD(H:Hp)(Q:VK):List V->Prop
 |mk (c:Int) (k:Nat) (q:∀r:Nat,Q (.int (r:Nat)) H):QD H Q [.int c,.int (k:Nat)]
def BY:Sp:=λZ H Q _=>QD H Q Z
def O1(F:Fun K "_law_fill" "_law_fill" K7 f G):Ym P w K X base CX0 (n+1) f G ["_law_cell","_law_at"] BY:=by
 refine F.oi Bi λM A Z s H C Q E t h=>?_;obtain⟨c,k,q⟩:=h
 have J:∀r:Int,0<=r->Q (.int r) H:=λr h=>by
  have:=q r.toNat
  rwa [Int.toNat_of_nonneg h]at this
 refine⟨_,YW (Y2 (Yn Py (pv 0) (Y4 Q1 YX YX)<|Yu _) (YY<|Ys<|pv 0) Yr)
  (YW (Yp 2 Bi.nd<|Y4 Ux (Y4 Vt (Y4 Vt (Y4 Ju (Y4 Ux (pv 0) YX) YX)<|Y4 Ju (pv 1) YX) YX) YX)
  (YW (Yp 2 Bi.nd<|Y4 Ux (Y4 Vt (Y4 Vt (Y4 Ju (pv 2)<|pv 2)<|Y4 Ju YX<|pv 2)<|pv 1) YX)
  (YY<|Ys<|Y4 Vt (Y4 Ju (pv 2) YX)<|Y4 Ux (Y4 Vt (Y4 Ju (pv 2)<|pv 2)<|Y4 Ju YX<|pv 1) YX))),?_⟩
 show let B:=_;let T:=Yg _ B;let R:=Yg _ T;let O:=_;Yg (Y9 _ O _) R _ _ _
 intros
 show let a:=_;let b:=Yg _ a;let c:=Yg _ b;let d:=_;Yg (Y9 _ d _) c _ _ _
 intros
 have L:Cd 10 18:=⟨by decide,by decide,by decide⟩;exists L,_,Y;refine X7 (λN=>J c<|Int.le_trans (by decide)<|Zr N) λ_=>?_;have z:=vG c (show(2147483647:Int)≠0 by decide);have j:=jt c (show(0:Int)<2147483647 by decide);refine⟨(by show(0:Int)<_;decide),.inl ⟨by omega,by omega⟩,.inr ⟨by decide,by decide⟩,(by show(0:Int)<_;decide),?_⟩;generalize hx:(c % 2147483647*48271+(k:Int)*69621+11) % 2147483629=x;have U:0<=x:=by rw[<-hx];exact vG _<|by decide
 have S:x<2147483629:=by rw[<-hx];exact jt _<|by decide
 refine⟨.inl ⟨by omega,by omega⟩,.inl ⟨by decide,by decide⟩,(by show(0:Int)<_;decide),?_⟩;generalize hy:(x*x+48271*x+(k:Int)) % 2147483587=y;have I:0<=y:=by rw[<-hy];exact vG _<|by decide
 have D:y<2147483587:=by rw[<-hy];exact jt _<|by decide
 refine⟨.inl ⟨by omega,by omega⟩,.inl ⟨by omega,by omega⟩,.inl ⟨by decide,by decide⟩,(by show(0:Int)<_;decide),?_⟩;exact J _<|Int.add_nonneg (Int.mul_nonneg (vG _<|by decide)<|by decide)<|vG _<|by decide
def Wl:Yq ["_law_pen","_law_many","_law_at","_law_cell","_law_found"] ["_law_pen","_law_many"] (Yb K3):=Y6
abbrev pnm:ky:=["_law_pen","_law_many"]
inductive Lv(K:W.Frag)(H:Hp)(Q:VK):List V->Prop
 |mk (p sa:Addr) (many:Nat) (pn:Pen K sa H p) (m0:0<many) (m1:many<1000) (q:∀(r:Nat)(H':Hp),r<many->But p H H'->Pen K sa H' p->Q (.int (r:Nat)) H'):Lv K H Q [.ref p,.int (many:Nat)]
def J7(K:W.Frag):Sp:=λZ H Q _=>Lv K H Q Z
def Ot(B:Blt y)(F:Fun K "_law_next" "_law_next" K3 f fd)(DF:Df P w K y base n "_law_fill" ["_law_cell","_law_at"] BY):Ym P w K y base CX0 (n+1) f fd pnm (J7 K):=by
 refine F.oi Wl λZ8 A D s H vs Q E o h=>?_;obtain⟨p,L,many,m,u,m1,q⟩:=h;refine⟨_,YW (Y2 (Yn Th (Yf Yw (pv 0) YX) (pv 1)<|Yu _)
   (YW (Yp 2 Wl.nd<|Yf Yw (pv 0) YX)
   (YW (Yp 3 Wl.nd YX)
   (YW (Y2 (Yn Th (pv 2) (Yt Yo rfl B.len Zs (pa1<|Yf Yw (pv 0) YX))<|Yu _)
    (YY<|Yp 3 Wl.nd<|Yf Yw (Yf Yw (pv 0) YX)<|pv 2)
    (YY (Y2 (Yn UX (Yt Yo rfl B.len Zs (pa1<|Yf Yw (pv 0) YX)) YX<|Yu _)
     (YY<|Yp 3 Wl.nd<|Y4 Vt (Y4 Ux (Yf Yw (Yf Yw (pv 0) YX)<|Y4 Ux (Y4 Ju (pv 2) YX)<|Yt Yo rfl B.len Zs (pa1<|Yf Yw (pv 0) YX)) YX)<|Y4 Ju (pv 2) YX) Yr)))
   (YW (Vz (Y4 Vt (pv 2) YX)<|XI (pv 0) YX set_list)
   (YY<|Vz (Yy DF o<|pa2 (pv 3)<|pv 2)<|XI (pv 0) YX set_list))))) Yr)
  (YW (Yp 4 Wl.nd<|Y4 Ux (Yf Yw (pv 0) YX)<|pv 1)
  (YW (Vz (Y4 WT (Yf Yw (pv 0) YX)<|pv 1)<|XI (pv 0) YX set_list)
  (YY<|Ys<|pv 4))),?_⟩
 dsimp only[Vg,Cx.nox,Cx.wish];show let T0:=_;let T1:=Yg _ T0;let T2:=Yg _ T1;let T3:=_;let T4:=Yg _ T3;let T5:=_;let T6:=_;let T7:=Y9 _ T6 _;let T8:=Yg (Y9 _ T5 T7) T4;let T9:=Yg _ T8;let U:=Yg _ T9;Yg (Y9 _ U _) T2 _ _ _
 intros
 show let a:=_;let b:=Yg _ a;let c:=Yg _ b;let d:=_;let e:=Yg _ d;let f:=_;let g:=_;let h:=Y9 _ g _;let i:=Yg (Y9 _ f h) e;let j:=Yg _ i;let k:=Yg _ j;Yg (Y9 _ k _) c _ _ _
 intros
 obtain⟨Z,k,x,M,J,z⟩:=m.ex;refine Ve (λT G=>But p H G/\∃(k x:Nat)(X C:kO),G p=some (.lst [.ref L,.int (k:Nat),.int (x:Nat)])/\T=[some (.ref p),some<|.int (many:Nat),X,C,none]) ?_ ?_
 .rintro T G ⟨b',l,O,X,C,hp',rfl⟩
  refine⟨_,_,Z1 hp',Y,(by show(0:Int)<_;omega),?_⟩;exists _,_,Z1 hp',Y,⟨(by show(0:Int)<_;omega),(by show(many:Int)<1073741824;omega)⟩,p,_,2,2,Y,Y,hp',Y;have e:((O:Int) % (many:Int))=((O % many:Nat):Int):=by omega
  have e2:((O:Int) / (many:Int))=((O / many:Nat):Int):=by omega
  dsimp only[List.set];rw[e,e2];have t:=b'.trans<|But.upd (p:=p) (H:=G)<|.lst [.ref L,.int (l:Nat),.int ((O / many:Nat):Int)];exact q _ _ (Nat.mod_lt _ u) t ⟨Z,_,_,M.sb t.sb z,YZ,z⟩
 .intro N key
  exists _,_,Z1 J,Y,_,Y;refine X7 (λ_=>?_) λ_=>key _ _ ⟨But.refl _ _,k,x,_,_,J,Y⟩;exists _,_,Z1 J,Y;dsimp only[Vi];refine BG ?_;refine Ve (λT G=>G=H/\∃c:Int,T=[some (.ref p),some<|.int (many:Nat),some<|.int (k:Nat),some<|.int c,none]) ?_ ?_
  .rintro T G ⟨rfl,c,rfl⟩
   exists p,_,1,1,Y,Y,J,Y;have I:upd G p (.lst [.ref L,.int<|(k:Int)+1,.int (x:Nat)]) p=some (.lst [.ref L,.int<|(k:Int)+1,.int (x:Nat)]):=YZ;exact⟨c,k,λr=>⟨p,_,2,2,Y,Y,I,Y,key _ _ ⟨(But.upd _).trans<|But.upd _,k+1,r,_,_,YZ,rfl⟩⟩⟩
  .intro N2 key2
   exists _,_,Z1 J,Y,L,_,Y,.inl M,_,Y;refine X7 (λc=>?_) λc=>?_
   .have S:(k:Int)<((Z.map V.int).length:Nat):=Zr c
    rw[ZA]at S;have R:k<Z.length:=by omega
    exact⟨_,_,Z1 J,Y,_,_,M,Ya (by rw[ZG,ZC R];rfl),key2 _ _ ⟨Y,Z[k],Y⟩⟩
   .refine ⟨_,_,Z1 J,rfl,L,_,rfl,.inl M,_,rfl,?_⟩
    refine X7 (λc=>?_) λc=>key2 _ _ ⟨Y,0,Y⟩;have S:(0:Int)<((Z.map V.int).length:Nat):=Zr c;have v:(Z.map V.int).length=Z.length:=ZA _;have R:k*7 % Z.length<Z.length:=Nat.mod_lt _ (by omega);have e:((k:Int)*7 % (((Z.map V.int).length:Nat):Int))=((k*7 % Z.length:Nat):Int):=by rw[v,Int.natCast_emod,Int.natCast_mul];rfl
    exists _,_,Z1 J,Y,.inr ⟨by decide,by decide⟩,_,_,Z1 J,Y,L,_,Y,.inl M,S;exact⟨_,.int<|Z[k*7 % Z.length]'(R),M,(by rw[e];exact Ya (by rw[ZG,ZC R];rfl)),(by show(0:Int)<_;decide),.inr ⟨by decide,by decide⟩,key2 _ _ ⟨rfl,(Z[k*7 % Z.length]'(R)) % 1000003+(k:Int)*1000003,rfl⟩⟩
end
end K4
namespace L2
open PySem PySem.Builtin PySem.Builtin.Str
theorem RB(Z:List Nat)(a:Nat):∀n,a+n<=Z.length->((List.range n).map (a + ·)).filterMap ((txt Z).cps[·]?)=(Z.drop a).take n
 |0,_=>by simp
 |n+1,h=>by
  have e:(txt Z).cps[a+n]?=some (Z[a+n]'(by omega)):=by
   show Z.toArray[a+n]?=_;rw[List.getElem?_toArray,ZC (by omega)]
  rw[vH,ZI,List.filterMap_append,RB Z a n<|by omega,jB,ve,ZC (show a+n<Z.length by omega)];simp[e]
def QR{j n:Nat}(h:j<=n):strSliceIndices none (some (j:Int)) 1 n=(List.range j).map (0 + ·):=by
 unfold strSliceIndices sliceRange;simp only[show(1:Int) > 0 by decide,if_true,show ¬((j:Int)<0) by omega,if_false];have e:(if(0:Int)<max 0 (min (j:Int) (n:Int))then(max 0 (min (j:Int) (n:Int))-0+1-1) / 1 else 0).toNat=j:=by split <;> omega
 rw[e];refine vL λk _=>by omega
def IS{j n:Nat}(h:j<=n):strSliceIndices (some (j:Int)) none 1 n=(List.range<|n-j).map (j + ·):=by
 unfold strSliceIndices sliceRange;simp only[show(1:Int) > 0 by decide,if_true,show ¬((j:Int)<0) by omega,if_false];have e:(if max 0 (min (j:Int) (n:Int))<(n:Int)then((n:Int)-max 0 (min (j:Int) (n:Int))+1-1) / 1 else 0).toNat=n-j:=by split <;> omega
 rw[e];refine vL λk _=>by omega
def NT{Z:List Nat}{j:Nat}(h:j<=Z.length):Txt.slice (txt Z) none (some (j:Int))=txt (Z.take j):=by
 unfold Txt.slice;rw[Xd,QR h,RB Z 0 j (by omega)]
 split
 .rename_i e
  have:j=Z.length:=by simpa using e
  rw[this,yJ]
 .rfl
def Ba{Z:List Nat}{j:Nat}(h:j<=Z.length):Txt.slice (txt Z) (some (j:Int)) none=txt (Z.drop j):=by
 unfold Txt.slice;rw[Xd,IS h,RB Z j _ (by omega)]
 split
 .rename_i e
  have:j=0:=by
   have J:Z.length-j=Z.length:=by simpa using e
   omega
  rw[this,List.drop_zero]
 .rw [Ze (by rw[yI];omega)];rfl
def atW(way r:Nat):Nat:=if way=0 then 0 else if way=1 then r else r / 2
def Dx(Z r:Nat):atW Z r<=r:=by unfold atW;split <;> (try split) <;> omega
def wd7(o:Nat)(cs:List Nat)(way t k r:Nat):List Nat:=(cs.take r).take (atW way r)++[o+(t+7*k) % 26]++ (cs.take r).drop (atW way r)
def Rx(h:cs.length=7)(Z:r<=7):(wd7 o cs way t k r).length=r+1:=by
 have:=Dx way r;unfold wd7;rw[ZJ,ZJ,ZL,yI,ZL,h,ze];omega
def AJ(Z:k<l)(h:l<26):(i+7*k) % 26≠(i+7*l) % 26:=λe=>by
 have q:=Nat.sub_mod_eq_zero_of_mod_eq e.symm;have f:∀d:Fin 26,d.val≠0->7*d.val % 26≠0:=by decide
 refine f ⟨l-k,by omega⟩ (by show l-k≠0;omega) ?_;show 7*(l-k) % 26=0;rw[Nat.mul_sub,<-Nat.add_sub_add_left i (7*l) (7*k)];exact q
def QI(h:cs.length=7)(L:r<=7)(Z:r'<=7)(J:k<l)(M:l<26):wd7 o cs way t k r≠wd7 o cs way t l r':=λe=>by
 have q:=congrArg List.length e;rw[Rx h L,Rx h Z]at q;have N:r=r':=by omega
 subst N
 have G:((cs.take r).take<|atW way r).length=atW way r:=by
  have:=Dx way r;rw[ZL,ZL,h];omega
 have g:∀x:Nat,((cs.take r).take (atW way r)++[x]++ (cs.take r).drop (atW way r))[atW way r]?=some x:=λx=>by
  rw[yP,zq<|yU G,G];simp
 have z:=congrArg (λx:List Nat=>x[atW way r]?) e;exact AJ (i:=t) J M<|Nat.add_left_cancel<|ZP<|(g _).symm.trans<|z.trans<|g _
def QJ(Z:∀c∈cs,o<=c/\c<o+26):∀c∈wd7 o cs way t k r,o<=c/\c<o+26:=by
 intro c h;unfold wd7 at h;simp only[ZV,ZO]at h;rcases h with(h|h)|h
 .exact Z c (Zi<|Zi h)
 .rw [h];omega
 .exact Z c (Zi<|List.mem_of_mem_drop h)
def NG(o:Nat)(cs:List Nat)(way t:Nat)(rs:List Nat):ky:=(List.range rs.length).map λk=>txt<|wd7 o cs way t k<|rs.getD k 0
def Ez(o:Nat)(G:List Nat)(Z t:Nat)(J:List Nat)(r:Nat):NG o G Z t (J++[r])=NG o G Z t J++[txt (wd7 o G Z t J.length r)]:=by
 unfold NG;rw[ZJ,ze,vH,ZI]
 congr 1
 .refine vL λk L=>?_
  have:=vf.mp L;rw[zj,zj,zn this]
 .simp
def L4(h:cs.length=7)(M:∀r∈rs,r<=7)(T:rs.length<=26)(N:∀c∈cs,o<=c/\c<o+26):Wds o (NG o cs way t rs):=by
 have Z:∀k,rs.getD k 0<=7:=λk=>by
  rw[zj]
  cases e:rs[k]? with
  |none=>exact Za _
  |some r=>exact M r<|ZH e
 refine⟨?_,λy J=>?_,λy J c G=>?_⟩
 .show List.Pairwise _ _
  unfold NG;rw[vm];refine List.Pairwise.imp_of_mem ?_<|List.pairwise_lt_range (n:=rs.length);intro a b R O L e;exact QI h (Z a) (Z b) L (by have:=vf.mp O;omega)<|L5 e
 .obtain ⟨k,_,rfl⟩:=ZU.mp J
  have:=Z k;rw[Xd,Rx h this];omega
 .obtain ⟨k,_,rfl⟩:=ZU.mp J
  exact QJ N c<|by simpa[txt]using G
def Pu{Z:List Nat}(h:Z.length=7):∃a b c d e f g,Z=[a,b,c,d,e,f,g]:=by
 match Z,h with
 |[a,b,c,d,e,f,g],_=>exact⟨a,b,c,d,e,f,g,Y⟩
def A8(h:cs.length=7):Txt.join (Str.ofString "") (cs.map one)=txt cs:=by
 obtain⟨a,b,c,d,e,f,g,rfl⟩:=Pu h
 rfl
end L2
namespace L2
open PySem
def Wx(o:Nat){r:Nat}(h:r<26):atI (alpha o).cps.toList ((r:Nat):Int)=some (o+r):=by
 have:=Ls o (r:Int) (by omega)<|by omega
 rwa [yN]at this
def S1{Z r:Nat}(h:Z<3):atI [V.int 0,.int (r:Nat),.int ((r / 2:Nat):Int)] ((Z:Nat):Int)=some (.int (atW Z r:Nat)):=by
 match Z,h with
 |0,_|1,_|2,_=>rfl
end L2
namespace K4
open PySem L2
section
def WL:Yq ["_law_pen","_law_many","_law_letters","_law_k","_law_base","_law_turn","_law_way","_law_found","_law_part","_law_at","_law_sign"] ["_law_pen","_law_many","_law_letters"] (Yb DZ):=Y6
def SO:List.Nodup [("_law_k":Str),"_law_letters","_law_pen"]:=by decide +kernel
def WQ(K:W.Frag)(sa:Addr)(o:Nat)(p:Addr)(many:Nat)(H:Hp)(Q:VK):Prop:=∀(r:Addr)(J:ky)(Z:Hp),SameB p H Z->Pen K sa Z p->H r=none->Z r=some (.lst<|J.map V.str)->J.length=many->Wds o J->Q (.ref r) Z
inductive Pj(K:W.Frag)(H:Hp)(Q:VK):List V->Prop
 |mk (p sa:Addr) (many o:Nat) (pn:Pen K sa H p) (m26:many<=26) (q:WQ K sa o p many H Q):Pj K H Q [.ref p,.int (many:Nat),.str (alpha o)]
def NS(K:W.Frag):Sp:=λZ H Q _=>Pj K H Q Z
def Q6(B:Blt mg)(F:Fun K "_law_spelt" "_law_spelt" DZ f fd)(DN:Df P w K mg base n "_law_next" pnm (J7 K)):Ym P w K mg base CX0 (n+1) f fd ["_law_pen","_law_many","_law_letters"] (NS K):=by
 refine F.oi WL λJ2 A Z9 s H T Q E hr h=>?_;obtain⟨p,j,many,o,pn,J1,q⟩:=h;refine⟨_,YW (Yp 4 WL.nd (Jm PySem.F.plainAttrs_str PySem.F.slot_str_join PySem.F.type_str_join O9 Y3 (pa1 (Vq ["_law_k"] [2,0] (Jt Y B.range (pa1 YX)) (VP (i:=0)<|by decide)
   (λcl C fp s H=>Yd 0 SO rfl (Or.inl rfl) (Or.inr rfl)) (λcl C fp s H=>Yf (r:=AT) Mr (pv 1) (Yy DN hr<|pa2 (pv 2) YX) λ_ _=>rfl)))))
  (YW (Yp 5 WL.nd<|Yy DN hr<|pa2 (pv 0) YX)
  (YW (Yp 6 WL.nd<|Yy DN hr<|pa2 (pv 0) YX)
  (YW (Yp 7 WL.nd<|Vf VR)
  (YW (Vy Zt rfl (Jt rfl B.range (pa1<|pv 1)) (Yd 3 WL.nd)
   (YW (Yp 8 WL.nd<|JO Bc (pv 4) Jl<|Jk<|Yy DN hr<|pa2 (pv 0) YX)
   (YW (Yp 9 WL.nd<|Yf Yw (Vf<|pa3 YX (Yt U5 rfl B.len Zs (pa1<|pv 8))<|Y4 WT (Yt U5 rfl B.len Zs (pa1<|pv 8)) YX) (pv 6) λ_ _=>rfl)
   (YW (Yp 10 WL.nd<|Yf Mr (pv 2) (Y4 Ux (Y4 Vt (pv 5)<|Y4 Ju YX<|pv 3) YX) λ_ _=>rfl)
   (YY<|VF<|Jm Zx Zy Zz VY (pv 7)<|pa1<|Y4 UQ (Y4 UQ (JO Bc (pv 8) Jl<|Jk<|pv 9)<|pv 10)<|JO Bc (pv 8) (Jk<|pv 9) Jl)))))
  (YY<|Ys<|pv 7))))),?_⟩
 dsimp only[Vg,Cx.nox,Cx.wish];show let T0:=_;let T1:=_;let T2:=Yg _ T1;let T3:=Yg _ T2;let T4:=Yg _ T3;let T5:=Yg (J6 _ _ T4) T0;let T6:=Yg _ T5;let T7:=Yg _ T6;let T8:=Yg _ T7;Yg _ T8 _ _ _
 intros
 show let a:=_;let b:=_;let c:=Yg _ b;let d:=Yg _ c;let e:=Yg _ d;let f:=Yg (J6 _ _ e) a;let g:=Yg _ f;let h:=Yg _ g;let i:=Yg _ h;Yg _ i _ _ _
 intros
 have em:((many:Nat):Int).toNat=many:=yN _;refine⟨Y,7,Y,by decide,by decide,?_⟩;refine Vu 7 (Yi<|by decide) (λi T G=>SameB p H G/\Pen K j G p/\∃Z:List Nat,T=Z.map (λc=>V.str<|one c)/\Z.length=i/\∀c∈Z,o<=c/\c<o+26) ⟨SameB.refl _ _,pn,[],rfl,rfl,λc h=>nomatch h⟩
  (λi T G z=>by obtain⟨_,_,Z,e,l,_⟩:=z;rw[e,ZA,l]) (λi T G hi z=>hi) (λT G z=>ZF _) ?_ ?_
 .intro i T G x H'' R hi z yl hR
  obtain⟨rfl,rfl⟩:=yl;obtain⟨O,N,Z,rfl,zl,zc⟩:=z;refine⟨p,j,26,N,by decide,by decide,λr H3 r1 b s3=>?_⟩;refine⟨alpha o,(r:Nat),o+r,Y,Y,by rw[Rq];decide,Wx o r1,hR _ _ ⟨O.trans b.sb,s3,Z++[o+r],by rw[ZI];rfl,by rw[ZJ,zl];rfl,λc hc=>?_⟩⟩;rcases ZV.mp hc with h|h
  .exact zc c h
  .rw [ZO.mp h];omega
 intro T H1 pl z v;obtain⟨O,N,Z,rfl,k,zc⟩:=z;have e1:Z.map (λc=>V.str<|one c)=(Z.map one).map V.str:=by rw[zf];rfl
 exists _,pl,Z.map one,Y,Y,Z1 (by rw[YZ,e1]),?_
 .obtain ⟨a,b,c,d,e,f,g,rfl⟩:=Pu k
  show(7:Nat)+7*0<=16777216
  decide
 rw[A8 k];have s1:=N.same<|Ye v<|.lst<|Z.map λc=>V.str<|one c;have b1:SameB p H (upd H1 pl<|.lst<|Z.map λc=>V.str<|one c):=O.trans (Ye v _).sb;generalize upd H1 pl (.lst<|Z.map λc=>V.str<|one c)=H2 at s1 b1;refine⟨p,j,26,s1,by decide,by decide,λL H3 t1 b3 s3=>?_⟩;refine⟨p,j,3,s3,by decide,by decide,λJ H4 w1 b4 s4=>?_⟩;refine⟨sl 0,λX M=>?_⟩;have b5:SameB p H H4:=(b1.trans b3.sb).trans b4.sb;have D:X≠p:=s4.ne M;have S:H X=none:=b5.free D M;exists many,Y,by omega,by omega
 let I:kL:=λi U G=>SameB p H G/\Pen K j G p/\∃(y:List Nat)(O N z3 z4:kO),G X=some (.lst<|(NG o Z J L y).map V.str)/\y.length=i/\(∀r∈y,r<=7)/\
  U=[some (.ref p),some<|.int (many:Nat),some<|.str<|alpha o,O,some<|.str<|txt Z,some<|.int (L:Nat),some<|.int (J:Nat),some<|.ref X,N,z3,z4]
 refine LV (n:=((many:Nat):Int).toNat) I ⟨b5.trans (Ye M _).sb,s4.same<|Ye M _,[],_,_,_,_,YZ,rfl,(λr h=>nomatch h),rfl⟩ ?_ ?_
 .rintro BB RR i U G hi ⟨y1,y2,y,O,N,z3,z4,y3,lr,r7,rfl⟩
  rw[em]at hi;have tl:(txt Z).length<=sizeLine:=by rw[Xd,k];decide
  have e0:((L:Int)+7*(0+(i:Int))) % 26=(((L+7*i) % 26:Nat):Int):=by rw[show(L:Int)+7*(0+(i:Int))=((L+7*i:Nat):Int) by omega];rfl
  refine⟨p,j,8,y2,by decide,by decide,λr H5 r8 b6 s6=>⟨_,Y,txt Z,Y,tl,?_⟩⟩;rw[NT (by omega)];have lt:(txt<|Z.take r).length=r:=by rw[Xd,ZL,k];omega
  have ll:(Z.take r).length=r:=by rw[<-Xd];exact lt
  have tr:(txt<|Z.take r).length<=sizeLine:=by rw[lt];exact Zf<|Yi<|by omega
  refine⟨txt<|Z.take r,rfl,tr,txt<|Z.take r,rfl,tr,⟨by decide,by decide⟩,sl 3,λt ht=>?_⟩;refine up_in ht _ λH6 s7 g7=>?_;refine⟨_,.int (atW J r:Nat),Z1 g7,(by rw[lt];exact S1 w1),?_⟩;refine⟨.inl ⟨by decide,by decide⟩,(by show(0:Int)<_;decide),alpha o,_,_,Y,Y,by rw[Rq];decide,(by rw[e0];exact Wx o<|Nat.mod_lt _<|by decide),?_⟩;have sg:(⟨#[o+(L+7*i) % 26]⟩:Str)=txt [o+(L+7*i) % 26]:=rfl;rw[sg];have aw:=Dx J r;have u:=s7 _ _<|b6.sb _ _ D y3;have small:∀m:Nat,m<=100->m<=sizeLine:=λm h=>Zf (Yi<|by omega);have x1:(txt [o+(L+7*i) % 26]).length=1:=rfl;exists .inl ⟨Y,_,Z1 u⟩,_,Y,txt<|Z.take r,rfl,tr,_,_,rfl,rfl,small _ (by have:=Txt.slice_le (txt<|Z.take r) none<|some (atW J r:Int);omega),_,rfl,txt<|Z.take r,rfl,tr,_,_,rfl,rfl,small _ (by have:=Txt.slice_le (txt<|Z.take r) none<|some (atW J r:Int);have:=Txt.slice_le (txt<|Z.take r) (some (atW J r:Int)) none;rw[NR];omega),X,_,_,rfl,rfl,u,?_
  .rw [ZA];unfold NG;rw[ZA,yF];exact Yi<|by omega
  rw[NT (by omega),Ba<|by omega,D6,D6];have Z8:=s6.same s7;refine⟨λb o' n e=>?_,?_,y++[r],_,_,_,_,?_,by rw[ZJ,lr];rfl,λx hx=>?_,Y⟩
  .rw [Yc (Yk e S)];exact s7 _ _<|b6.sb b o' n<|y1 b o' n e
  .exact pn.put ((y1.trans b6.sb).trans s7.sb) Z8 S D
  .rw [YZ,Ez,ZI,lr];rfl
  .rcases ZV.mp hx with h|h
   .exact r7 x h
   .rw [ZO.mp h];omega
 .rintro U G ⟨y1,y2,y,O,N,z3,z4,y3,lr,r7,rfl⟩
  rw[em]at lr;refine q X _ G y1 y2 S y3 (by unfold NG;simp[lr])<|L4 k r7 (by omega) zc
end
end K4
namespace L2
open PySem
def ML(h:n<=10000):n<sizeLine:=jq h<|by decide
structure Itx(J:It)(H:Hp)(xs:List V):Prop where
 go:∀i,i<xs.length->J.go i H
 stop:J.stop xs.length H
 yld:∀i x H',J.yld i H x H'->H'=H/\xs[i]?=some x
def itl(h:SqL K H a Z):Itx (Itl K a) H Z:=⟨λi J=>⟨Z,Z[i],h,ZC J⟩,⟨Z,h,ZF _⟩,λi x G y=>⟨y.1,y.2 Z h⟩⟩
def itt(h:SqT K H a Z):Itx (Itt K a) H Z:=⟨λi J=>⟨Z,Z[i],h,ZC J⟩,⟨Z,h,ZF _⟩,λi x G y=>⟨y.1,y.2 Z h⟩⟩
def getD{α:Type}{J:List α}{D:α->Dat}{H:Hp}{Z:kK}{i:Nat}{x:V}(h:HasL H Z (J.map D))(e:Z[i]?=some x):∃u,J[i]?=some u/\Has H x (D u):=by
 obtain⟨d,G,M⟩:=h.get e;rw[ZG]at G;obtain⟨u,L,rfl⟩:=Zh.mp G;exact⟨u,L,M⟩
def GX{α:Type}{t:α->Bool}{Z:List α}{i:Nat}{u:α}(h:Z[i]?=some u):(Z.take<|i+1).filter t=(Z.take i).filter t++ if t u=true then[u]else[]:=by
 rw[take_snoc h,vQ]
 congr 1
 cases e:t u <;> simp[e]
def JQ{α:Type}{us:List α}{D E:α->Dat}(t:α->Bool)(N:Itx J H O)(F:HasL H O (us.map D))(P:us.length<=10000)(U:∀u x (R:Bool->V->Hp->Prop),u∈us->Has H x (D u)->(∀v,t u=true->Has H v (E u)->R true v H)->(t u=false->R false .non H)->g x s0 H λT X=>tc T X λb A=>if b=true then te T A (R true)else R false .non A)(C:∀Z p G,H p=none->Same H G->G p=some (.lst Z)->HasL G Z ((us.filter t).map E)->Q (.ref p) G):M8 J g tc te s0 Q H:=by
 have B:=F.length;rw[ZA]at B;refine RG O.length (ML<|by omega) (λi Z G=>G=H/\Z.length<=i/\HasL H Z (((us.take i).filter t).map E)) ⟨rfl,ZF _,Z4⟩ (λi Z G z=>z.2.1) ?_ ?_ ?_ ?_
 .rintro i Z G hi ⟨rfl,_⟩
  exact N.go i hi
 .rintro Z G ⟨rfl,_⟩
  exact N.stop
 .rintro i Z G x H'' R hi ⟨rfl,z2,z3⟩ yl rT rF
  obtain⟨rfl,y⟩:=N.yld i x H'' yl;obtain⟨u,M,S⟩:=getD F y;refine U u x R (ZH M) S (λv L I=>rT _ _ ⟨Y,by rw[ZJ];exact Nat.succ_le_succ z2,?_⟩) λL=>rF _ ⟨Y,Nat.le_succ_of_le z2,?_⟩
  .rw [GX M,Zn L,ZI]
   exact Z5 z3<|Z3 I
  .rw [GX M,Zo (by rw[L];exact Zg),yz]
   exact z3
 .rintro Z G p ⟨rfl,z2,z3⟩ hp
  rw[Ze (yU B.symm)]at z3;exact C Z p _ hp (Ye hp _) YZ<|z3.mono<|Ye hp _
def Uq{α:Type}{us:List α}{D E:α->Dat}(L:Itx J H M)(O:HasL H M (us.map D))(C:us.length<=10000)(I:∀u x (R:V->Hp->Prop),u∈us->Has H x (D u)->(∀v,Has H v (E u)->R v H)->g x s0 H λB U=>te B U R)(S:∀Z p G,H p=none->Same H G->G p=some (.lst Z)->HasL G Z (us.map E)->Q (.ref p) G):RI J g te s0 Q H:=by
 have N:=O.length;rw[ZA]at N;refine Vu M.length (ML<|by omega) (λi Z G=>G=H/\Z.length=i/\HasL H Z ((us.take i).map E)) ⟨rfl,rfl,Z4⟩ (λi Z G z=>z.2.1) ?_ ?_ ?_ ?_
 .rintro i Z G hi ⟨rfl,_⟩
  exact L.go i hi
 .rintro Z G ⟨rfl,_⟩
  exact L.stop
 .rintro i Z G x H'' R hi ⟨rfl,z2,z3⟩ yl rT
  obtain⟨rfl,y⟩:=L.yld i x H'' yl;obtain⟨u,T,A⟩:=getD O y;refine I u x R (ZH T) A λv F=>rT _ _ ⟨Y,by rw[ZJ,z2];rfl,?_⟩;rw[take_snoc T,ZI];exact Z5 z3<|Z3 F
 .rintro Z G p ⟨rfl,z2,z3⟩ hp
  rw[Ze (yU N.symm)]at z3;exact S Z p _ hp (Ye hp _) YZ<|z3.mono<|Ye hp _
def Each{α β:Type}(E:α->β->Prop)(us:List α)(bs:List β):Prop:=bs.length=us.length/\∀(i:Nat) u b,us[i]?=some u->bs[i]?=some b->E u b
def Each.nil{α β:Type}{E:α->β->Prop}:Each E [] []:=⟨rfl,λi u b h=>by simp at h⟩
def Each.snoc{α β:Type}{E:α->β->Prop}{G:List α}{L:List β}{i:Nat}{u:α}{b:β}(h:Each E (G.take i) L)(N:G[i]?=some u)(e:E u b):Each E (G.take<|i+1) (L++[b]):=by
 have R:=(ZE.mp N).1;have M:(G.take i).length=i:=by rw[ZL];exact vb<|Zf R
 have O:L.length=i:=h.1.trans M;rw[take_snoc N];refine⟨by rw[ZJ,ZJ,h.1];rfl,λj v c J Z=>?_⟩
 by_cases hj:j<i
 .rw [zn (by omega)]at J Z
  exact h.2 j v c J Z
 .have:j=i:=by
   have:=(ZE.mp Z).1;rw[ZJ,ze]at this;omega
  subst this;rw[zq (by omega)]at J Z;rw[M,jA]at J;rw[O,jA]at Z;cases J;cases Z;exact e
def Each.mem{α β:Type}{E:α->β->Prop}{Z:List α}{L:List β}{b:β}(h:Each E Z L)(M:b∈L):∃u∈Z,E u b:=by
 obtain⟨i,G⟩:=zi.mp M;have J:i<Z.length:=by rw[<-h.1];exact(ZE.mp G).1
 exact⟨Z[i],yX J,h.2 i _ b (ZC J) G⟩
structure Itp(J:It)(p:Addr)(H:Hp)(xs:List V):Prop where
 at_:∀H',SameB p H H'->Itx J H' xs
def zD{H:Hp}(h:H a=some (.lst Z))(n:a≠p):Itp (Itl K a) p H Z:=⟨λJ s=>itl<|Z1<|s _ _ n h⟩
def A9{H:Hp}(h:H a=some (.tup Z))(J:Pen K' sa H p):Itp (Itt K a) p H Z:=⟨λG s=>itt<|Z0<|s _ _ (J.tup h) h⟩
def W8{α β:Type}{us:List α}{D:α->Dat}{F:β->Dat}(E:α->β->Prop)(T:Itp J p H B)(I:Pen K sa H p)(U:HasL H B (us.map D))(j:∀u,(D u).ni=true)(X:∀b,(F b).st=true)(w:us.length<=10000)(m:∀u x O (R:V->Hp->Prop),u∈us->SameB p H O->Pen K sa O p->Has O x (D u)->(∀v b N,SameB p O N->Pen K sa N p->Has N v (F b)->E u b->R v N)->g x s0 O λM f=>te M f R)(k:∀L G q Z,H q=none->SameB p H Z->Pen K sa Z p->Z q=some (.lst L)->HasL Z L (G.map F)->Each E us G->Q (.ref q) Z):RI J g te s0 Q H:=by
 have S:=U.length;rw[ZA]at S
 have d:∀G:List β,Dat.sts (G.map F)=true:=λG=>by
  induction G with
  |nil=>unfold List.map Dat.sts;rfl
  |cons b G ih=>rw[ZT];unfold Dat.sts;rw[X b,ih];rfl
 refine Vu B.length (ML<|by omega) (λi L Z=>SameB p H Z/\Pen K sa Z p/\L.length=i/\∃G,HasL Z L (G.map F)/\Each E (us.take i) G) ⟨SameB.refl _ _,I,rfl,[],Z4,Each.nil⟩ (λi L Z z=>z.2.2.1) ?_ ?_ ?_ ?_
 .rintro i L Z hi ⟨s,_⟩
  exact(T.at_ Z s).go i hi
 .rintro L Z ⟨s,_⟩
  exact(T.at_ Z s).stop
 .rintro i L Z x H'' R hi ⟨s,pn',z2,G,z3,z4⟩ yl rT
  obtain⟨rfl,y⟩:=(T.at_ Z s).yld i x H'' yl;obtain⟨u,C,t⟩:=getD U y;refine m u x _ R (ZH C) s pn' (Vm s I _ (j u) t) λv b N A P c e=>rT _ _ ⟨s.trans A,P,by rw[ZJ,z2];rfl,G++[b],?_,z4.snoc C e⟩;rw[ZI];exact Z5 (JM (pn'.tk A) _ (d G) z3)<|Z3 c
 .rintro L Z q ⟨s,pn',z2,G,z3,z4⟩ hq
  rw[Ze (yU S.symm)]at z4;have M:=Ye hq<|.lst L;exact k L G q _ (s.free (pn'.ne hq) hq) (s.trans M.sb) (pn'.same M) YZ (z3.mono M) z4
def CC:Str×Shp->Bool
 |(_,.tags _)=>true
 |(_,.pair _ _)=>false
def flat(ks:kQ):kQ:=ks.filter CC
def shW:Shp->Str
 |.tags _=>"tags"
 |.pair _ _=>"pair"
def NU{s:Shp}(h:Has H v s.dat):∃a ys,v=.ref a/\H a=some (.tup (.str (shW s)::ys)):=by
 cases s <;> (unfold Shp.dat at h;obtain⟨t,ys,rfl,J,G⟩:=Y5 h;obtain⟨M,Z,rfl,L,_⟩:=Yh G;obtain rfl:=has_str L;exact⟨t,Z,Y,J⟩)
def FF:¬decide (V.str (shW<|.pair a b)=V.str "tags")=true:=by show ¬decide (V.str "pair"=V.str "tags")=true;decide +kernel
def VZ(k:Str×Shp):(Vv k).st=true:=by
 have e:=Shp.st k.2;simp[Vv,Dat.st,Dat.sts,e]
end L2
namespace K4
open PySem L2
section
def Id:Yq pnm pnm (Yb Mn):=Y6
inductive Er(K:W.Frag)(H:Hp)(Q:VK):List V->Prop
 |mk (p sa:Addr) (many:Nat) (pn:Pen K sa H p) (m26:many<=26) (q:WQ K sa 97 p many H Q):Er K H Q [.ref p,.int (many:Nat)]
def Uk(K:W.Frag):Sp:=λZ H Q _=>Er K H Q Z
def FJ(F:Fun K "_law_small_words" "_law_small_words" Mn f O)(T:Df P w K M base n "_law_spelt" ["_law_pen","_law_many","_law_letters"] (NS K)):Ym P w K M base CX0 (n+1) f O pnm (Uk K):=by
 refine F.oi Id λR A Z s H B Q E N h=>?_;obtain⟨p,G,many,L,J,q⟩:=h;exists _,YY<|Ys<|Yy T N<|pa3 (pv 0) (pv 1) Y3;have z:=Pj.mk (K:=K) (H:=H) p G many 97 L J q;rw[<-Um]at z;exact z
def Ql:Yq ["_law_kinds_here"] ["_law_kinds_here"] (Yb K6):=Y6
def A1:List.Nodup [("_law_kind":Str)]:=by decide +kernel
inductive QC(H:Hp)(Q:VK):List V->Prop
 |mk (v:V) (ks:List (Str×Shp)) (hv:Has H v (.lst (ks.map Vv))) (hn:ks.length<=900) (q:∀l ys H',H l=none->Same H H'->H' l=some (.lst ys)->HasL H' ys ((flat ks).map Vv)->Q (.ref l) H'):QC H Q [v]
def MI:Sp:=λZ H Q _=>QC H Q Z
def O0(F:Fun K "_law_flat_kinds" "_law_flat_kinds" K6 f d):Ym P w K mg base CX0 (n+1) f d ["_law_kinds_here"] MI:=by
 refine F.oi Ql λl A Z s H J Q E hr h=>?_;obtain⟨v,ks,I,z,q⟩:=h;refine⟨_,YY (Ys (Xf ["_law_kind"] [] (VL<|pv 0) (VP (i:=0)<|by decide) (λN C M s H=>Yd 0 A1 rfl (Or.inl rfl) (Or.inr rfl))
  (λN C M s H=>Yn Vk (Yf (r:=UB K) Yl (Yf (r:=UB K) Yl (pv 0) YX) YX) Y3<|Yu _) (λN C M s H=>pv 0))),?_⟩
 obtain⟨a,xs,rfl,L,D⟩:=Vr I;exists ⟨_,Z1 L⟩;refine JQ (E:=Vv) CC (itl<|Z1 L) D (ZZ z<|by decide) (λu x R hm G T B=>?_) λJ p o X s m k=>q p J o X s m k;obtain⟨y,O⟩:=u;obtain⟨t,v,rfl,S,U⟩:=Vw G;obtain⟨b,zs,rfl,c⟩:=NU U;exists _,_,Z0 S,Y,_,_,Z0 c,Ya (j:=0) Y,Y,_,Y
 cases O with
 |tags ts=>exact VH Y (T _ Y G)
 |pair e g=>exact Y0 FF<|B rfl
def Ib:Yq ["_law_kinds_here","_law_kind"] ["_law_kinds_here","_law_kind"] (Yb Mm):=Y6
def Kq:List.Nodup [("_law_name":Str),"_law_shape","_law_kind"]:=by decide +kernel
inductive Ep(H:Hp)(Q:VK):List V->Prop
 |mk (v:V) (y:Str) (ks:List (Str×Shp)) (ts:List Str) (hv:Has H v (.lst (ks.map Vv))) (hn:ks.length<=900) (hs:VX ks y=some (.tags ts)) (q:∀r H',Same H H'->Has H' r (.tup (ts.map Dat.str))->Q r H'):Ep H Q [v,.str y]
def XD:Sp:=λZ H Q _=>Ep H Q Z
def tgD(k:Str×Shp):Dat:=match k.2 with|.tags ts=>.tup (ts.map Dat.str)|.pair a _=>.str a
def Mt{s:Shp}(h:Has H v s.dat):∃a u ys,v=.ref a/\H a=some (.tup (.str (shW s)::u::ys))/\Has H u (tgD (y,s)):=by
 cases s <;> (unfold Shp.dat at h;obtain⟨t,ys,rfl,L,N⟩:=Y5 h;obtain⟨T,B,rfl,R,Z⟩:=Yh N;obtain⟨J,G,rfl,O,M⟩:=Yh Z;obtain rfl:=has_str R;exact⟨t,J,G,Y,L,O⟩)
def find_filter{α:Type}{t:α->Bool}{l:List α}{x:α}(h:l.find? t=some x):∃r,l.filter t=x::r:=by
 induction l with
 |nil=>cases h
 |cons a l ih=>
  rw[zo]at h;rw[jI]
  cases e:t a with
  |true=>rw[e]at h;cases h;exact⟨_,by rw[Zn rfl]⟩
  |false=>rw[e]at h;rw[Zo Zg];exact ih h
def FH(F:Fun K "_law_tags_of" "_law_tags_of" Mm f fd):Ym P w K mg base CX0 (n+1) f fd ["_law_kinds_here","_law_kind"] XD:=by
 refine F.oi Ib λZ8 A Z s H B Q E hr h=>?_;obtain⟨v,y,ks,ts,X,d,L,q⟩:=h;refine⟨_,YY (Ys (Yf Yw (Xf ["_law_name","_law_shape"] [1] (VL<|pv 0) WA (λT C O s H=>VI (n:=2) rfl (Yj (Yd 0 Kq rfl (Or.inl rfl) (Or.inr rfl))<|Yj (Yd 1 Kq rfl (Or.inl rfl) (Or.inr rfl)) Y7))
  (λT C O s H=>Yn Vk (pv 0) (pv 2)<|Yu _) (λT C O s H=>Yf (r:=UB K) Yl (pv 1) YX)) YX)),?_⟩
 obtain⟨a,xs,rfl,N,S⟩:=Vr X;exists ⟨_,Z1 N⟩;refine JQ (E:=tgD) (λk=>decide<|k.1=y) (itl<|Z1 N) S (ZZ d<|by decide) (λu x R hm m D I=>?_) λB p H' hp s l M=>?_
 .obtain ⟨z,s'⟩:=u
  obtain⟨t,v,rfl,g,J⟩:=Vw m;obtain⟨b,w,zs,rfl,i,U⟩:=Mt (y:=z) J;exists _,Z0 g,Y,Y,_,Y;refine X7 (λc=>⟨_,_,Z0 i,Ya (j:=1) Y,D _ (decide_eq_true<|V.str.inj<|Zr c) U⟩) λc=>I<|Zw λe=>c<|decide_eq_true<|congrArg V.str e
 .unfold VX at L
  obtain⟨k,o,e⟩:=Zh.mp L;obtain⟨r,er⟩:=find_filter o;rw[er,ZT]at M;obtain⟨x1,r1,rfl,G,_⟩:=Yh M;refine⟨_,_,Z1 l,Ya (j:=0) Y,q _ _ s ?_⟩;unfold tgD at G;rw[e]at G;exact G
end
end K4
namespace L2
open PySem
structure Lb(K:W.Frag)(sa:Addr)(H0:Hp)(p l:Addr)(ds:List Dat)(H:Hp):Prop where
 p0:Pen K sa H0 p
 fl:H0 l=none
 sb:SameB p H0 H
 pn:Pen K sa H p
 zs:∃zs,H l=some (.lst zs)/\HasL H zs ds/\Dat.sts ds=true
def Lb.np(b:Lb K sa H0 p l Z H):l≠p:=b.p0.ne b.fl
def Lb.new(J:Pen K sa H p)(Z:H l=none):Lb K sa H p l [] (upd H l<|.lst []):=⟨J,Z,(Ye Z _).sb,J.same<|Ye Z _,[],YZ,Z4,by unfold Dat.sts;rfl⟩
def Lb.mv(b:Lb K sa H0 p l O H)(s:SameB p H J)(L:Pen K sa J p):Lb K sa H0 p l O J:=
 let⟨G,N,M,Z⟩:=b.zs;⟨b.p0,b.fl,b.sb.trans s,L,G,s _ _ b.np N,JM (b.pn.tk s) _ Z M,Z⟩
def Lb.sm(b:Lb K sa H0 p l Z H)(s:Same H J):Lb K sa H0 p l Z J:=b.mv s.sb<|b.pn.same s
def IR(h:Dat.sts Z=true)(e:d.st=true):Dat.sts (Z++[d])=true:=by
 induction Z with
 |nil=>rw[List.nil_append];unfold Dat.sts;rw[e];unfold Dat.sts;rfl
 |cons a Z ih=>
  unfold Dat.sts at h;have t:=zx.mp h;rw[List.cons_append];unfold Dat.sts;rw[t.1,ih t.2];rfl
def Lb.ap{Z:kK}(b:Lb K sa H0 p l R H)(h:H l=some (.lst Z))(N:Has H v d)(e:d.st=true):Lb K sa H0 p l (R++[d]) (upd H l<|.lst<|Z++[v]):=by
 obtain⟨M,L,O,G⟩:=b.zs;rw[h]at L;cases L;have J:TK H (upd H l<|.lst<|Z++[v]):=J3 h λT z=>nomatch z
 exact⟨b.p0,b.fl,b.sb.put b.fl,b.p0.put b.sb b.pn b.fl b.np,_,YZ,Z5 (JM J _ G O)<|Z3<|XT J _ e N,IR G e⟩
def Sm{K:PySem.W.Frag}{g:TG}{F:TS}{D:Ends}(n:Nat)(Z:kL)(f:Z 0 U H)(t:∀i U H,i<=n->Z i U H->Sq K t1 H a G/\Sq K t2 H b ys)(v:n<=G.length)(u:n=ys.length)(j:∀(B:kM)(R:VK) i x y U H r,i<n->G[i]?=some x->ys[i]?=some y->Z i U H->H r=none->g (.ref r) U (upd H r<|.tup [x,y]) fun σ2 E=>F {nx:=Z<|i+1,rt:=R,bk:=B,ct:=Z (i+1)} σ2 E)(d:∀U H,Z n U H->D.nx U H):
  ∃W:Nat->Nat->St->Hp->Prop,(∃m,W 0 m U H)/\∀i m U H,W i m U H->
   ((Itz K t1 a t2 b).stop i H/\D.nx U H)\/((Itz K t1 a t2 b).go i H/\∃N:kM,(∀T J,N T J->∃A,A<m/\W (i+1) A T J)/\∀x J,(Itz K t1 a t2 b).yld i H x J->g x U J fun σ2 E=>F {D with nx:=N,ct:=N,bk:=D.nx} σ2 E):=by
 refine⟨λi m U H=>m=n-i/\i<=n/\Z i U H,⟨n,by simp,Za _,f⟩,λi m U H z=>?_⟩;obtain⟨rfl,k,p⟩:=z;obtain⟨O,M⟩:=t i U H k p;rcases jx i n with L|c
 .refine .inr ⟨⟨G,ys,G[i]'(by omega),ys[i]'(by omega),O,M,ZC _,ZC _⟩,Z<|i+1,λT J C=>⟨n-(i+1),by omega,rfl,L,C⟩,λx J y=>?_⟩
  obtain⟨r,S,I,rfl,q,rfl,Q,P⟩:=y;exact j _ _ i S I U H r L (Q G O) (P ys M) p q
 .have e:i=n:=by omega
  exact .inl ⟨⟨G,ys,O,M,.inr<|by omega⟩,by subst e;exact d U H p⟩
def off(ss:List Nat)(j:Nat):Nat:=(ss.take j).sum
def Kn(h:ss[j]?=some s):off ss (j+1)=off ss j+s:=by
 unfold off;rw[take_snoc h,List.sum_append];simp
def DM(Z:List Nat){i j:Nat}(h:i<=j):off Z i<=off Z j:=by
 unfold off
 have e:Z.take j=Z.take i++ (Z.drop i).take (j-i):=by
  rw[<-vw i (Z.take j),List.take_take,vb h,List.drop_take]
 rw[e,List.sum_append];omega
def RK(ss:List Nat)(tg:ky)(j:Nat):ky:=(tg.drop<|off ss j).take<|ss.getD j 0
def ks7(ys:ky)(ss:List Nat)(tg:ky)(n:Nat):kQ:=(List.range n).map λj=>(ys.getD j "",.tags<|RK ss tg j)
def LA(ys:ky)(Z:List Nat)(tg:ky)(n:Nat):ks7 ys Z tg (n+1)=ks7 ys Z tg n++[(ys.getD n "",.tags<|RK Z tg n)]:=by
 unfold ks7;rw[vH,ZI];rfl
def XO(h:(ks7 ys ss tg n)[i]?=some (y,s)):i<n/\y=ys.getD i "" /\s=.tags (RK ss tg i):=by
 unfold ks7 at h;rw[ZG]at h;obtain⟨j,Z,J⟩:=Zh.mp h;have:=(ZE.mp Z).1;rw[yF]at this;rw[vJ this]at Z;cases Z;cases J;exact⟨this,Y,Y⟩
def W1(h:n<=ys.length):(ks7 ys ss tg n).map (·.1)=ys.take n:=by
 unfold ks7;rw[zf];refine yE λi=>?_;rw[ZG,ya]
 by_cases hi:i<n
 .rw [vJ hi,Zn hi,ZC (show i<ys.length by omega)]
  show some (ys.getD i "")=_;rw[zj,ZC (show i<ys.length by omega)];rfl
 .rw [Zo hi,zg.mpr (by rw[yF];omega)];rfl
structure Szs(ss:List Nat)(tg:List Str):Prop where
 sz:∀s∈ss,1<=s/\s<=4
 lt:tg.length=ss.sum
 wd:Wds 65 tg
def Szs.at(z:Szs ss tg)(h:i<ss.length):(RK ss tg i).length=ss.getD i 0/\1<=ss.getD i 0/\ss.getD i 0<=4/\off ss i+ss.getD i 0=off ss (i+1)/\off ss (i+1)<=tg.length:=by
 have e:ss[i]?=some ss[i]:=ZC h;have g:ss.getD i 0=ss[i]:=by rw[zj,e];rfl
 have b:=z.sz _<|ZH e;have o:=Kn e
 have l:off ss (i+1)<=tg.length:=by
  have:=DM ss (show i+1<=ss.length by omega);rw[z.lt];have t:off ss ss.length=ss.sum:=by unfold off;rw[yJ]
  omega
 rw[g];refine⟨?_,b.1,b.2,o.symm,l⟩;unfold RK;rw[g,ZL,yI];omega
def Szs.kg(z:Szs ss tg)(G:Wds 97 ys)(h:n<=ys.length)(f:n<=ss.length):KG (ks7 ys ss tg n):=by
 have Z:∀i,(RK ss tg i).Sublist tg:=λi=>(yp _ _).trans<|List.drop_sublist _ _;refine⟨?_,λy I m=>?_,λi j y t I c x L E U S=>?_,λB d p g a b L E=>?_⟩
 .rw [W1 h]
  exact⟨G.nd.sublist<|yp _ _,λy m=>G.len y<|Zi m,λy m=>G.abc y<|Zi m⟩
 .obtain ⟨i,D⟩:=zi.mp m
  obtain⟨_,_,e⟩:=XO D;cases e;exact⟨z.wd.nd.sublist<|Z i,λy m=>z.wd.len y<|(Z i).subset m,λy m=>z.wd.abc y<|(Z i).subset m⟩
 .obtain ⟨B,_,e1⟩:=XO L
  obtain⟨C,_,X⟩:=XO E;cases e1;cases X
  have pos:∀i,i<n->∀x∈RK ss tg i,∃k,off ss i<=k/\k<off ss (i+1)/\tg[k]?=some x:=λi D x m=>by
   obtain⟨a,J⟩:=zi.mp m;have r:=(ZE.mp J).1;have q:=z.at (show i<ss.length by omega);refine⟨off ss i+a,by omega,by omega,?_⟩;unfold RK at J;rw[ya,Zn<|by omega,ve]at J;exact J
  obtain⟨T,o,w,Q⟩:=pos i B x U;obtain⟨R,l,v,P⟩:=pos j C x S;obtain⟨O,A⟩:=ZE.mp Q;obtain⟨N,F⟩:=ZE.mp P;have M:=List.pairwise_iff_getElem.mp z.wd.nd
  have u:T=R:=by
   rcases vo T R with q|q|q
   .exact Zp (A.trans F.symm) (M _ _ O N q)
   .exact q
   .exact Zp (F.trans A.symm) (M _ _ N O q)
  rcases vo i j with q|q|q
  .have:=DM ss (show i+1<=j by omega);omega
  .exact q
  .have:=DM ss (show j+1<=i by omega);omega
 .obtain ⟨_,_,e⟩:=XO L
  cases e
def cF(ks:kQ)(z:Str):Nat:=match VX ks z with|some (.tags ts)=>1+ts.length|_=>0
structure XA(ks:List (Str×Shp))(c d:Str->Nat):Prop where
 kk:KK 30 c d ks
 nd:(ks.map (·.1)).Nodup
 kg:KG ks
 k0:0<ks.length
 k6:ks.length<=6
 f0:0<(flat ks).length
 f3:(flat ks).length<=3
 h0:∃y ts,ks[0]?=some (y,.tags ts)
 pr:flat ks=ks \/ ∃y a ts,ks=flat ks++[(y,Shp.pair a a)]/\(flat ks)[0]?=some (a,.tags ts)
def Ec:flat (ks7 ys ss tg n)=ks7 ys ss tg n:=List.filter_eq_self.mpr λk m=>by
 obtain⟨i,Z⟩:=zi.mp m;obtain⟨y,s⟩:=k;obtain⟨_,_,rfl⟩:=XO Z
 rfl
def U0:(ks7 ys ss tg n).length=n:=by unfold ks7;rw[ZA,yF]
def A7(z:Szs ss tg)(Z:Wds 97 ys)(h:n<=ys.length)(G:n<=ss.length)(M:1<=n)(L:n<=3):XA (ks7 ys ss tg n) (cF<|ks7 ys ss tg n) λ_=>0:=by
 have J:((ks7 ys ss tg n).map (·.1)).Nodup:=by rw[W1 h];exact Z.nd.sublist<|yp _ _
 refine⟨λi y s e=>?_,J,z.kg Z h G,by rw[U0];omega,by rw[U0];omega,by rw[Ec,U0];omega,by rw[Ec,U0];omega,?_,.inl Ec⟩
 .have sh:=MN J<|ZH e
  obtain⟨N,rfl,rfl⟩:=XO e;have q:=z.at (show i<ss.length by omega);exact⟨by omega,by omega,by unfold cF;rw[sh],Y,((z.kg Z h G).tw _ _<|ZH e).nd⟩
 .cases e:(ks7 ys ss tg n)[0]? with
  |none=>have:=zg.mp e;rw[U0]at this;omega
  |some k=>
   obtain⟨y,s⟩:=k;obtain⟨_,rfl,rfl⟩:=XO e;exact⟨_,_,Y⟩
def XA.pair(k:XA Z c d)(T:flat Z=Z)(M:Wds 97 (Z.map (·.1)++[y]))(p:∀z,d z=0)(h:Z[0]?=some (a,.tags G)):∃v f,XA (Z++[(y,.pair a a)]) v f:=by
 have B:a∈Z.map (·.1):=ZU.mpr ⟨_,ZH h,rfl⟩;have A:a≠y:=λe=>(yC.mp M.nd).2.2 a B y (by simp) e;have C:=k.kk 0 a _ h;obtain⟨o,l,u,da,w⟩:=C
 have D:∀(i:Nat)(x:Str)(s:Shp),Z[i]?=some (x,s)->∃G,s=Shp.tags G:=λi x s e=>by
  have m:=ZH e;rw[<-T]at m;have:=(zh.mp m).2
  cases s with
  |tags G=>exact⟨G,Y⟩
  |pair _ _=>cases this
 have J:flat (Z++[(y,.pair a a)])=Z:=by
  have e:flat (Z++[(y,.pair a a)])=flat Z++ flat [(y,.pair a a)]:=vQ _ _;rw[e,T];show Z++[]=Z;rw[yz]
 have L:∀i x s,(Z++[(y,Shp.pair a a)])[i]?=some (x,s)->Z[i]?=some (x,s)\/(i=Z.length/\x=y/\s=.pair a a):=λi x s e=>by
  by_cases hi:i<Z.length
  .rw [zn hi]at e;exact .inl e
  .rw [zq (by omega)]at e
   have Q:i-Z.length=0:=by
    have:=(ZE.mp e).1;rw[ze]at this;omega
   rw[Q]at e;cases e;exact .inr ⟨by omega,Y,Y⟩
 have F:=k.f0;have E:=k.f3;have g:=k.k0;rw[T]at F E;refine⟨_,_,k.kk.snoc (n:=1+c a*c a) (m:=1) M.nd ⟨B,B,?_,?_,?_,?_⟩,by rw[ZI];exact M.nd,⟨by rw[ZI];exact M,λx N m=>?_,λi j x z N I t R O U S=>?_,λP X x z b e R O=>?_⟩,by rw[ZJ];omega,by rw[ZJ,ze];omega,by rw[J];exact F,by rw[J];exact E,⟨a,G,by rw[zn g];exact h⟩,.inr ⟨y,a,G,by rw[J],by rw[J];exact h⟩⟩
 .dsimp only;rw[Zn rfl,Zo A]
 .dsimp only;rw[Zn rfl,u]
  have:=Nat.mul_le_mul (show 1+G.length<=5 by omega) (show 1+G.length<=5 by omega);omega
 .dsimp only;rw[Zn rfl,Zo A,p];rfl
 .dsimp only;rw[Zn rfl];decide
 .obtain ⟨i,hi⟩:=zi.mp m
  rcases L i x _ hi with q|⟨_,_,q⟩
  .exact k.kg.tw x N (ZH q)
  .cases q
 .rcases L i x _ R with q|⟨_,_,q⟩
  .rcases L j z _ O with r|⟨_,_,r⟩
   .exact k.kg.ap i j x z N I t q r U S
   .cases r
  .cases q
 .rcases L P x _ R with q|⟨q,_,_⟩
  .obtain ⟨_,q⟩:=D _ _ _ q;cases q
  .rcases L X z _ O with r|⟨r,_,_⟩
   .obtain ⟨_,r⟩:=D _ _ _ r;cases r
   .rw [q,r]
def Cr{r:Nat}(h:r<6):∃s:Nat,1<=s/\s<=4/\atI [V.int 2,.int 1,.int 3,.int 2,.int 4,.int 2] ((r:Nat):Int)=some (.int (s:Nat)):=by
 match r,h with
 |0,_=>exact⟨2,by decide,by decide,Y⟩
 |1,_=>exact⟨1,by decide,by decide,Y⟩
 |2,_=>exact⟨3,by decide,by decide,Y⟩
 |3,_=>exact⟨2,by decide,by decide,Y⟩
 |4,_=>exact⟨4,by decide,by decide,Y⟩
 |5,_=>exact⟨2,by decide,by decide,Y⟩
theorem R9:∀Z:List Nat,(Z.map λs=>((s:Nat):Int)).sum=((Z.sum:Nat):Int)
 |[]=>rfl
 |s::Z=>by rw[ZT,List.sum_cons,List.sum_cons,R9 Z];omega
theorem BU:∀Z:List Nat,(∀s∈Z,s<=4)->Z.sum<=4*Z.length
 |[],_=>ZF _
 |s::Z,h=>by
  have:=BU Z λt m=>h t<|ZK _ m;have:=h s ZY;rw[List.sum_cons,Zd];omega
def O7{Z:List Nat}(h:∀s∈Z,s<=4)(l:Z.length<=100):PyProof.Rows.SumFits (Z.map λs=>((s:Nat):Int)):=λj J=>by
 rw[ZA]at J;have L:(Z.map λs=>((s:Nat):Int)).getD j 0=((Z[j]:Nat):Int):=by rw[zj,ZG,ZC J];rfl
 have M:=h _<|yX J;have G:=BU (Z.take<|j+1) λs m=>h s<|Zi m;rw[ZL]at G;rw[L,<-y6,R9];unfold InLong;omega
def Li(Z:kK)(k:Nat)(h:k<=Z.length):U4 Z (some (k:Int)) none=Z.drop k:=by
 unfold U4;rw[HT.sIx_none,HT.sIx_nat,vb h,Ze (by rw[yI];omega)]
end L2
namespace K4
open PySem L2
section
def Jh:Yq ["_law_pen","_law_many","_law_names_here","_law_sizes","_law_tags","_law_found","_law_name","_law_size"] ["_law_pen"] (Yb De):=Y6
def Az:List.Nodup [("_law_k":Str),"_law_pen"]:=by decide +kernel
inductive Es(K:W.Frag)(H:Hp)(Q:VK):List V->Prop
 |mk (p sa:Addr) (pn:Pen K sa H p) (q:∀l xs ks c d H',SameB p H H'->Pen K sa H' p->H l=none->H' l=some (.lst xs)->HasL H' xs (ks.map Vv)->XA ks c d->Q (.ref l) H'):Es K H Q [.ref p]
def G9(K:W.Frag):Sp:=λZ H Q _=>Es K H Q Z
def FM(B:Blt mg)(ms:mg "sum"=none)(F:Fun K "_law_kinds_drawn" "_law_kinds_drawn" De f fd)(DN:Df P w K mg base n "_law_next" pnm (J7 K))(DW:Df P w K mg base n "_law_small_words" pnm (Uk K))(DS:Df P w K mg base n "_law_spelt" ["_law_pen","_law_many","_law_letters"] (NS K)):Ym P w K mg base CX0 (n+1) f fd ["_law_pen"] (G9 K):=by
 refine F.oi Jh λcdv A F5 s H vs Q E hr h=>?_;obtain⟨p,g,pn,q⟩:=h;refine⟨_,YW (Yp 1 Jh.nd<|Y4 Vt YX<|Yy DN hr<|pa2 (pv 0) YX)
  (YW (Yp 2 Jh.nd<|Yy DW hr<|pa2 (pv 0)<|Y4 Vt (pv 1) YX)
  (YW (EH (i0:=3) ["_law_k"] [0] Jh.nd rfl (Or.inl rfl) (Jt rfl B.range (pa1<|pv 1)) (VP (i:=0)<|by decide) (λcl C fp s H=>Yd 0 Az rfl (Or.inl rfl) (Or.inr rfl))
   (λcl C fp s H=>Yf (r:=B2 K) Yw (Vf<|pa6 YX YX YX YX YX YX) (Yy DN hr<|pa2 (pv 1) YX) λ_ _=>rfl))
  (YW (Yp 4 Jh.nd<|Yy DS hr<|pa3 (pv 0) (Yt (Fg rfl) rfl ms Fk (pa1<|pv 3)) Y3)
  (YW (Yp 5 Jh.nd<|Vf VR)
  (YW (Vy Zt rfl (Qv rfl B.zip (pa2 (pv 2)<|pv 3)) (VI (n:=2) rfl (Yj (Yd 6 Jh.nd)<|Yj (Yd 7 Jh.nd) Y7))
   (YW (VF<|Jm Zx Zy Zz VY (pv 5)<|pa1<|Yv<|pa2 (pv 6)<|Yv<|pa2 Y3<|VM V0 rfl B.tuple JR (pa1<|JO WK (pv 4) Jl<|Jk<|pv 7))
   (YY<|Yp 4 Jh.nd<|JO WK (pv 4) (Jk<|pv 7) Jl)))
  (YW (Y2 (Yn Vk (Yy DN hr<|pa2 (pv 0) YX) YX<|Yu _)
   (YY<|VF<|Jm Zx Zy Zz VY (pv 5)<|pa1<|Yv<|pa2 (Yf Yw (pv 2)<|RZ Wd YX)<|Yv<|pa3 Y3 (Yf Yw (pv 2) YX)<|Yf Yw (pv 2) YX) Yr)
  (YY<|Ys<|pv 5))))))),?_⟩
 dsimp only[Vg,Cx.nox,Cx.wish];show let T0:=_;let T1:=_;let T2:=Yg (Y9 _ T1 _) T0;let T3:=_;let T4:=Yg _ T3;let T5:=Yg (J6 _ _ T4) T2;let T6:=Yg _ T5;let T7:=Yg _ T6;let T8:=Yg _ T7;let T9:=Yg _ T8;Yg _ T9 _ _ _
 intros
 refine⟨p,g,3,pn,by decide,by decide,λG H1 r3 b1 s1=>?_⟩;refine⟨p,g,1+G+1,s1,by omega,λnm J H2 N2 s2 S2 I4 lys wn=>?_⟩;have v:nm≠p:=s1.ne S2;refine⟨_,Y,by omega,by omega,?_⟩;have em:(1+(G:Int)).toNat=1+G:=by omega
 refine Vu (1+(G:Int)).toNat (Yi<|by omega) (λi vs M=>SameB p H2 M/\Pen K g M p/\∃Z:List Nat,vs=Z.map (λs=>V.int (s:Nat))/\Z.length=i/\∀s∈Z,1<=s/\s<=4) ⟨SameB.refl _ _,s2,[],rfl,rfl,λc h=>nomatch h⟩
  (λi vs M z=>by obtain⟨_,_,cs,e,l,_⟩:=z;rw[e,ZA,l]) (λi vs M hi z=>hi) (λvs M z=>ZF _) ?_ ?_
 .rintro i vs M x H'' R hi ⟨z1,z2,Z,rfl,zl,zc⟩ yl hR
  obtain⟨rfl,rfl⟩:=yl;refine⟨sl 6,λt ht=>?_⟩;refine up_in ht _ λH3 s3 g3=>?_;refine⟨p,g,6,z2.same s3,by decide,by decide,λr H4 r6 b4 s4=>?_⟩;obtain⟨k,k1,k4,ek⟩:=Cr r6;refine⟨_,_,Z1<|b4.sb _ _ (z2.ne ht) g3,ek,hR _ _ ⟨(z1.trans s3.sb).trans b4.sb,s4,Z++[k],by rw[ZI];rfl,by rw[ZJ,zl];rfl,λc hc=>?_⟩⟩;rcases ZV.mp hc with h|h
  .exact zc c h
  .rw [ZO.mp h];exact⟨k1,k4⟩
 rintro vs H3 sz ⟨Z8,s3,Z,rfl,R5,G2⟩ D0;refine up_in D0 _ λH4 s4 g4=>?_;rw[em]at R5;have R4:sz≠p:=s3.ne D0;have R3:=s3.same s4;have e1:(Z.map λs=>V.int (s:Nat))=(Z.map λs=>((s:Nat):Int)).map V.int:=by rw[zf];rfl
 have sm:=BU Z λs m=>(G2 s m).2
 have z0:∀R:VK,WQ K g 65 p Z.sum H4 R->Pj K H4 R [.ref p,.int<|(Z.map λs=>((s:Nat):Int)).sum,.str (Str.ofString "ABCDEFGHIJKLMNOPQRSTUVWXYZ")]:=λR w=>by
  rw[R9,Rg];exact⟨p,g,Z.sum,65,R3,by omega,w⟩
 refine⟨sz,Z.map λs=>((s:Nat):Int),Y,Z1 (by rw[<-e1];exact g4),O7 (λs m=>(G2 s m).2)<|by omega,z0 _ λT tg H5 M2 s5 I9 O F7 wt=>?_⟩;have Z9:T≠p:=R3.ne I9;have a:Szs Z tg:=⟨G2,F7,wt⟩;have D:=s4.sb.trans M2;have J2:=D _ _ v<|Z8 _ _ v I4;have L1:=M2 _ _ R4 g4;refine⟨sl 0,λl hl=>?_⟩;have F9:=Lb.new s5 hl;exists nm,sz,false,false,_,_,Y,Z1<|Ye hl _ _ _ J2,Z1<|Ye hl _ _ _ L1
 let I:kL:=λi U Hi=>Lb K g H5 p l ((ks7 J Z tg i).map Vv) Hi/\∃(T:Addr)(z6 z7:kO),T≠p/\T≠l/\Hi T=some (.lst<|(tg.drop<|off Z i).map V.str)/\U=[some (.ref p),some<|.int<|1+(G:Int),some<|.ref nm,some<|.ref sz,some<|.ref T,some<|.ref l,z6,z7]
 refine Sm (1+G) I ⟨F9,T,_,_,Z9,Yk O hl,Ye hl _ _ _ O,Y⟩ (λi U Hi _ z=>⟨Z1<|z.1.sb _ _ v J2,Z1<|z.1.sb _ _ R4 L1⟩) (by rw[ZA];omega) (by rw[ZA];exact R5.symm) ?_ ?_
 .rintro BB RR i x y U Hi r hi hx hy ⟨lb,T,z6,z7,Z9,ntl2,O,rfl⟩ hr'
  refine up_in hr' _ λH6 s6 g6=>?_;obtain⟨F6,D3,rfl⟩:=MA hx;rw[ZG]at hy;obtain⟨sn,I2,rfl⟩:=Zh.mp hy;have gd:Z.getD i 0=sn:=by rw[zj,I2];rfl
  have gn:J.getD i ""=F6:=by rw[zj,D3];rfl
  have q5:=a.at (show i<Z.length by omega);rw[gd]at q5;have ld:((tg.drop<|off Z i).map V.str).length=tg.length-off Z i:=by rw[ZA,yI]
  exists _,Z0 g6,Y;have F2:=s6 _ _ O;obtain⟨X,N,_⟩:=(lb.sm s6).zs;refine⟨.inl ⟨Y,_,Z1 N⟩,_,Y,T,_,Y,Z1 F2,λq1 I3=>?_⟩;rw[RF _ _ (by omega),<-y6];refine up_in I3 _ λH7 s7 g7=>?_;refine⟨q1,_,Y,.inl ⟨Z1 g7,λt1 G1=>?_⟩⟩;refine up_in G1 _ λH8 s8 g8=>?_;refine⟨sl 2,λt2 J5=>?_⟩;refine up_in J5 _ λH9 s9 g9=>?_;refine⟨sl 2,λt3 I1=>?_⟩;refine up_in I1 _ λG4 u I8=>?_;have sA:=(((s6.trans s7).trans s8).trans s9).trans u;have R6:=lb.sm sA;have J4:=((((s7.trans s8).trans s9).trans u) _ _ N);obtain⟨zs1,S,R8,_⟩:=R6.zs;rw[J4]at S;cases S;have ln:=R8.length;rw[ZA,U0]at ln;exists l,_,_,Y,Y,J4,Yi<|by omega
  have hk:Has G4 (.ref t3) (Vv (J.getD i "",.tags<|RK Z tg i)):=by
   rw[gn];unfold RK;rw[gd];exact Yx I8<|Z2 Yz<|Z3<|Yx (u _ _ g9)<|Z2 Yz<|Z3<|Yx (u _ _<|s9 _ _ g8)<|VT _
  have L:=R6.ap J4 hk<|VZ _;have G5:upd G4 l (.lst<|X++[.ref t3]) T=some (.lst<|(tg.drop<|off Z i).map V.str):=by rw[Yc ntl2];exact sA _ _ O
  generalize upd G4 l (.lst<|X++[.ref t3])=H11 at L G5 |-;refine⟨_,Y,T,_,Y,Z1 G5,λq2 G3=>?_⟩;rw[Li _ _ (by omega),<-List.map_drop,List.drop_drop,q5.2.2.2.1];refine up_in G3 _ λH12 F3 I7=>?_;obtain⟨C2,I0,_⟩:=L.zs;refine⟨?_,q2,_,_,L.pn.ne G3,(Yk I0 G3).symm,I7,Y⟩;rw[LA,ZI];exact L.sm F3
 .rintro U Hi ⟨lb,T,z6,z7,Z9,ntl2,O,rfl⟩
  have o:=A7 a wn (show 1+G<=J.length by omega) (by omega) (by omega) (by omega);have F1:∀M o c d,SameB p H5 M->Pen K g M p->(∃a,M l=some (.lst a)/\HasL M a (o.map Vv))->XA o c d->Q (.ref l) M:=λM o c d s5 F4 ⟨a,h1,h2⟩ k=>q l a o c d M (((((b1.sb.trans N2).trans Z8).trans D).trans s5)) F4 ((((b1.sb.trans N2).trans Z8).trans D).free lb.np lb.fl) h1 h2 k;refine⟨p,g,2,lb.pn,by decide,by decide,λr2 H6 r22 b6 s6=>⟨Y,_,Y,?_⟩⟩;have b:=lb.mv b6.sb s6;obtain⟨X,N,S,R8⟩:=b.zs;refine X7 (λ_=>?_) λ_=>F1 _ _ _ _ b.sb s6 ⟨X,N,S⟩ o;have J1:=b.sb _ _ v J2;obtain⟨y0,ts0,h0⟩:=o.h0;have e0:=(XO h0).2.1;have yl:1+G<J.length:=by omega
  have ey:J=J.take (1+G)++[J[1+G]]:=by
   rw[<-take_snoc (ZC yl),Ze (by omega)]
  have a1:atI (J.map V.str) (-1)=some (.str J[1+G]):=by
   have:=BF ((J.take<|1+G).map V.str)<|.str J[1+G];rw[show(J.take<|1+G).map V.str++[V.str J[1+G]]=(J.take (1+G)++[J[1+G]]).map V.str by rw[ZI];rfl,<-ey]at this;exact this
  have a0:atI (J.map V.str) 0=some (.str y0):=Ya (j:=0) (by rw[ZG,e0,zj,ZC (show 0<J.length by omega)];rfl);refine⟨.inl ⟨Y,_,Z1 N⟩,_,Y,_,_,Z1 J1,a1,_,_,Z1 J1,a0,_,_,Z1 J1,a0,sl 3,λt1 G1=>?_⟩;refine up_in G1 _ λH7 s7 g7=>?_;refine⟨sl 2,λt2 J5=>?_⟩;refine up_in J5 _ λH8 s8 g8=>?_;have R1:=s7.trans s8;have F8:=b.sm R1;have R7:=R1 _ _ N;have ln:=S.length;rw[ZA,U0]at ln;refine⟨l,_,_,Y,Y,R7,Yi<|by omega,?_⟩;have L:=F8.ap R7 (d:=Vv (J[1+G],.pair y0 y0)) (Yx g8<|Z2 Yz<|Z3<|Yx (s8 _ _ g7)<|Z2 Yz<|Z2 Yz<|Z3 Yz)<|VZ _;obtain⟨c',d',k'⟩:=o.pair (y:=J[1+G]) Ec (by rw[W1 (by omega),<-ey];exact wn) (λ_=>rfl) h0;obtain⟨zB,I6,I5,_⟩:=L.zs;refine F1 _ _ c' d' L.sb L.pn ⟨zB,I6,?_⟩ k';rw[ZI];exact I5
end
end K4
namespace L2
open PySem
structure Lx(fl:List (Str×Shp))(c:Str->Nat):Prop where
 f0:0<fl.length
 f3:fl.length<=3
 nd:(fl.map (·.1)).Nodup
 ok:∀y s,(y,s)∈fl->∃ts,s=.tags ts/\c y=1+ts.length/\1<=ts.length/\ts.length<=4/\ts.Nodup
def XA.fl(k:XA L c d):Lx (flat L) c:=⟨k.f0,k.f3,k.nd.sublist<|List.filter_sublist.map _,λy s m=>by
 obtain⟨G,J⟩:=zh.mp m
 cases s with
 |pair _ _=>cases J
 |tags Z=>
  obtain⟨i,M⟩:=zi.mp G;obtain⟨T,R,O,_,N⟩:=k.kk i y _ M;exact⟨Z,Y,O,T,R,N⟩⟩
def LW{J:kQ}{r:Nat}(M:Lx J c)(h:HasL H G (J.map Vv))(S:r<J.length):∃y Z a b t,J[r]?=some (y,.tags Z)/\atI G ((r:Nat):Int)=some (.ref a)/\H a=some (.tup [.str y,.ref b])/\H b=some (.tup [.str "tags",.ref t])/\H t=some (.tup<|Z.map V.str)/\c y=1+Z.length/\1<=Z.length/\Z.length<=4:=by
 have N:=h.length;rw[ZA]at N;have e:G[r]?=some (G[r]'(by omega)):=ZC _;obtain⟨k,L,O⟩:=getD h e;obtain⟨y,s⟩:=k;obtain⟨Z,rfl,A,F,E,_⟩:=M.ok y s<|ZH L;obtain⟨a,v,I,D,R⟩:=Vw O;obtain⟨b,t,rfl,B,T⟩:=J0 R;exact⟨y,Z,a,b,t,L,by rw[I]at e;exact Ya e,D,B,T,A,F,E⟩
def prD(p:Str×Str):Dat:=.tup [.str p.1,.str p.2]
def Wt(p:Str×Str):(prD p).st=true:=by simp[prD,Dat.st,Dat.sts]
def Md(Z:List (Str×Str)):psD Z=.tup (Z.map prD):=rfl
def hdT(h:Hd):Dat:=.tup [.str h.1,psD h.2.1,.str h.2.2]
def Qs(Z:List (Str×Str)):(psD Z).st=true:=by unfold psD Dat.st;exact Gp Z
def U2(h:Hd):(hdT h).st=true:=by unfold hdT;simp[Dat.st,Dat.sts,Qs]
def XN{Z:kP}(h:Dat.sts Z=true):(Dat.lst Z).ni=true:=by unfold Dat.ni;exact Dat.nis_of h
theorem VO{α:Type}{f:α->Dat}(h:∀a,(f a).st=true):∀l:List α,Dat.sts (l.map f)=true
 |[]=>by unfold List.map Dat.sts;rfl
 |a::l=>by rw[ZT];unfold Dat.sts;rw[h a,VO h l];rfl
structure M7(fl:List (Str×Shp))(c:Str->Nat)(ws:List Str)(ps:List (Str×Str))(n:Nat):Prop where
 sub:(ps.map (·.1)).Sublist ws
 kin:∀p∈ps,p.2∈fl.map (·.1)
 row:n=V7 c ps
def M7.up(h:M7 fl c Z J n):M7 fl c (Z++[w]) J n:=⟨h.sub.trans<|List.sublist_append_left _ _,h.kin,h.row⟩
def M7.snoc(h:M7 fl c Z J n)(m:y∈fl.map (·.1)):M7 fl c (Z++[w]) (J++[(w,y)]) (n*c y):=⟨by rw[ZI];exact h.sub.append<|List.Sublist.refl _,λp G=>by
 rcases ZV.mp G with q|q
 .exact h.kin p q
 .rw [ZO.mp q];exact m,by rw[X2,<-h.row]⟩
def M7.hd{G:kQ}(h:M7 G c (L.take j) J n)(w:Wds 97 L)(l:L.length<=3)(t:n<=top)(own:y∈G.map (·.1)):Ge (G.map (·.1)) c top (x,J,y):=by
 have Z:=h.sub.trans<|yp _ _;refine⟨?_,h.kin,own,w.nd.sublist Z,λp M=>w.wdS<|Z.subset<|ZU.mpr ⟨p,M,rfl⟩,by show V7 c J<=top;rw[<-h.row];exact t⟩;have:=Z.length_le;rw[ZA]at this;show J.length<=3;omega
end L2
namespace K4
open PySem L2
section
def JD:Yq ["_law_pen","_law_flat_here","_law_left","_law_found","_law_name","_law_parameters","_law_rows","_law_word","_law_kind","_law_shape","_law_own"] ["_law_pen","_law_flat_here"] (Yb Dg):=Y6
inductive Et(K:W.Frag)(H:Hp)(Q:VK):List V->Prop
 |mk (p sa:Addr) (v:V) (fl:List (Str×Shp)) (c:Str->Nat) (pn:Pen K sa H p) (hv:Has H v (.lst (fl.map Vv))) (ok:Lx fl c)
  (q:∀(l:Addr)(xs:List V)(hs:List Hd)(H':Hp),SameB p H H'->Pen K sa H' p->H l=none->H' l=some (.lst xs)->HasL H' xs (hs.map hdT)->0<hs.length->hs.length<=5->Wds 97 (hs.map (·.1))->(∀h∈hs,Ge (fl.map (·.1)) c 40 h)->Q (.ref l) H'):Et K H Q [.ref p,v]
def TF(K:W.Frag):Sp:=λZ H Q _=>Et K H Q Z
def FO(B:Blt mg)(F:Fun K "_law_heads_drawn" "_law_heads_drawn" Dg f fd)(DN:Df P w K mg base n "_law_next" pnm (J7 K))(DW:Df P w K mg base n "_law_small_words" pnm (Uk K)):Ym P w K mg base CX0 (n+1) f fd ["_law_pen","_law_flat_here"] (TF K):=by
 refine F.oi JD λcdv A D0 s H vs Q E hr h=>?_;obtain⟨p,o,v,fl,c,pn,hv,ok,q⟩:=h;refine⟨_,YW (Yp 2 JD.nd YX)
  (YW (Yp 3 JD.nd<|Vf VR)
  (YW (Vy Zt rfl (VL<|Yy DW hr<|pa2 (pv 0)<|Y4 Vt YX<|Yy DN hr<|pa2 (pv 0) YX) (Yd 4 JD.nd)
   (YW (Yp 5 JD.nd<|Vf VR)
   (YW (Yp 6 JD.nd YX)
   (YW (Vy Zt rfl (VL<|JO WK (Yy DW hr<|pa2 (pv 0) YX) Jl<|Jk<|Yy DN hr<|pa2 (pv 0) YX) (Yd 7 JD.nd)
    (YW (Vz (Yf Yw (pv 1) (Yy DN hr<|pa2 (pv 0)<|Yt Yo rfl B.len Zs (pa1<|pv 1)) λ_ _=>rfl)<|VI (n:=2) rfl (Yj (Yd 8 JD.nd)<|Yj (Yd 9 JD.nd) Y7))
    (YY (Y2 (Yn Ti (Y4 Ju (pv 6)<|Y4 Vt YX<|Yt Yo rfl B.len Zs (pa1<|Yf Yl (pv 9) YX)) (pv 2)<|Yu _)
     (YW (Yp 6 JD.nd<|Y4 Ju (pv 6)<|Y4 Vt YX<|Yt Yo rfl B.len Zs (pa1<|Yf Yl (pv 9) YX))
     (YY<|VF<|Jm Zx Zy Zz VY (pv 5)<|pa1<|Yv<|pa2 (pv 7)<|pv 8)) Yr))))
   (YW (Yp 2 JD.nd<|Yt (Xq rfl) rfl B.max Xs (pa2 YX<|Y4 Mg (pv 2)<|pv 6))
   (YW (Yp 10 JD.nd<|Yf Yl (Yf Yw (pv 1) (Yy DN hr<|pa2 (pv 0)<|Yt Yo rfl B.len Zs (pa1<|pv 1)) λ_ _=>rfl) YX)
   (YY<|VF<|Jm Zx Zy Zz VY (pv 3)<|pa1<|Yv<|pa3 (pv 4) (VM V0 rfl B.tuple JR (pa1<|pv 5))<|pv 10)))))))
  (YY<|Ys<|pv 3))),?_⟩
 dsimp only[Vg,Cx.nox,Cx.wish];show let T0:=_;let T1:=_;let T2:=Yg _ T1;let T3:=Yg _ T2;let T4:=_;let T5:=Yg _ T4;let T6:=Y9 _ T5 _;let T7:=Yg _ T6;let T8:=Yg (J6 _ _ T7) T3;let T9:=Yg _ T8;let T10:=Yg _ T9;let C2:=Yg (J6 _ _ T10) T0;let S2:=Yg _ C2;Yg _ S2 _ _ _
 intros
 obtain⟨la,xf,rfl,J5,u⟩:=Vr hv;have N:=VO VZ fl;have F3:=u.length;rw[ZA]at F3;have f0:=ok.f0;have f3:=ok.f3;have X:=pn.lst J5 u<|Dat.nis_of N;refine BG ?_;refine⟨sl 0,λl hl=>?_⟩;have k:=Lb.new pn hl;generalize upd H l (.lst [])=H1 at k |-;refine⟨p,o,5,k.pn,by decide,by decide,λr1 H2 r5 b2 s2=>?_⟩;refine⟨p,o,1+r1,s2,by omega,λnm ys H3 R8 s3 R4 T lys wn=>?_⟩;have G2:nm≠p:=s2.ne R4;have F7:=(k.mv b2.sb s2).mv R8 s3;obtain⟨z3,I0,_⟩:=(k.mv b2.sb s2).zs;have F2:nm≠l:=(Yk I0 R4).symm;exists ⟨_,Z1 T⟩
 let I:kL:=λi U e=>∃hs:List Hd,Lb K o H p l (hs.map hdT) e/\e nm=some (.lst<|ys.map V.str)/\hs.map (·.1)=ys.take i/\(∀h∈hs,Ge (fl.map (·.1)) c 40 h)/\∃(L:Nat)(z4 z5 z6 z7 z8 z9 S:kO),1<=L/\L<=40/\U=[some (.ref p),some<|.ref la,some<|.int (L:Nat),some<|.ref l,z4,z5,z6,z7,z8,z9,S]
 refine UZ (xs:=ys.map V.str) I ⟨[],F7,T,Y,(λh m=>nomatch m),40,_,_,_,_,_,_,_,by decide,by decide,Y⟩ (λi U e _ z=>let⟨_,_,h,_⟩:=z;Z1 h) ?_ ?_
 .rintro BB RR i x U e hx ⟨hs,lb,T,ehs,hok,L,z4,z5,z6,z7,z8,z9,S,L1,L40,rfl⟩
  obtain⟨Z8,R3,rfl⟩:=MA hx;refine⟨sl 0,λl5 I6=>?_⟩;have g:=Lb.new lb.pn I6;obtain⟨z0,N2,_⟩:=lb.zs;generalize upd e l5 (.lst [])=H4 at g |-;dsimp only[Vi];refine BG ?_;refine⟨p,o,3,g.pn,by decide,λwl wy H5 R7 s5 I8 I2 lwy R6=>?_⟩;refine⟨p,o,4,s5,by decide,by decide,λkn H6 k4 b6 s6=>?_⟩;refine⟨_,Y,wl,_,Y,Z1<|b6.sb _ _ (g.pn.ne I8) I2,λw2 J4=>?_⟩;rw[RF _ _ (by rw[ZA];omega),<-y6];have G4:=(g.mv R7 s5).mv b6.sb s6;obtain⟨z6',F9,_⟩:=G4.zs;have D3:w2≠l5:=(Yk F9 J4).symm;have F1:w2≠p:=s6.ne J4;refine up_in J4 _ λH7 s7 g7=>?_;have F5:=G4.sm s7;exists ⟨_,Z1 g7⟩
  let J:kL:=λj U Hj=>∃C:List (Str×Str),Lb K o e p l5 (C.map prD) Hj/\Hj w2=some (.lst<|(wy.take kn).map V.str)/\∃(R:Nat)(z7 z8 z9:kO),M7 fl c ((wy.take kn).take j) C R/\R<=L/\U=[some (.ref p),some<|.ref la,some<|.int (L:Nat),some<|.ref l,some<|.str Z8,some<|.ref l5,some<|.int (R:Nat),z7,z8,z9,S]
  refine UZ (xs:=(wy.take kn).map V.str) J ⟨[],F5,g7,1,_,_,_,⟨List.nil_sublist _,(λp m=>nomatch m),Y⟩,L1,Y⟩ (λi U e _ z=>let⟨_,_,h,_⟩:=z;Z1 h) ?_ ?_
  .rintro BB RR j x U Hj hx ⟨C,lc,hw,R,z7,z8,z9,pk,RL,rfl⟩
   obtain⟨wd,J2,rfl⟩:=MA hx;have jl:=(ZE.mp J2).1;rw[ZL]at jl;have J1:=JA (lb.sb.trans lc.sb) pn _ (Dat.nis_of N) u;have M:=(lb.sb.trans lc.sb) _ _ X J5;refine⟨la,_,Y,.inl<|Z1 M,p,o,_,lc.pn,by omega,by omega,λr H8 r8 D s8=>?_⟩;obtain⟨y,ts,a,b,t,hy,ea,ha,hb,ht,cy,t1,t4⟩:=LW ok (JM (lc.pn.tk D.sb) _ N J1) (show r<fl.length by omega);have ym:y∈fl.map (·.1):=ZU.mpr ⟨_,ZH hy,rfl⟩;have lt:(ts.map V.str).length=ts.length:=ZA _;refine⟨_,_,Z1<|D.sb _ _ X M,ea,⟨_,Z0 ha,rfl,?_⟩⟩;have G:=lc.mv D.sb s8;have R1:=D.sb _ _ F1 hw;have G3:((R:Nat):Int)*(1+(((ts.map V.str).length:Nat):Int))=((R*c y:Nat):Int):=by rw[lt,cy,Int.natCast_mul];rfl
   have mle:=Nat.mul_le_mul (show R<=40 by omega) (show c y<=5 by omega);exists _,_,Z0 hb,Y,t,_,Y,.inr<|Z0 ht,.inl ⟨by omega,by omega⟩,_,rfl;refine X7 (λc1=>?_) λ_=>⟨C,G,R1,R,_,_,_,by rw[take_snoc J2];exact pk.up,RL,Y⟩;have I9:=Zr c1;rw[G3]at I9;refine⟨_,_,Z0 hb,Y,t,_,Y,.inr<|Z0 ht,.inl ⟨by omega,by omega⟩,?_⟩;obtain⟨R5,Z,O,_⟩:=G.zs;refine⟨.inl ⟨Y,_,Z1 Z⟩,sl 2,λt9 I3=>?_⟩;refine up_in I3 _ λH9 s9 g9=>?_
   have lp:C.length<=3:=by
    have:=pk.sub.length_le;rw[ZA,ZL,ZL]at this;omega
   have ln:=O.length;rw[ZA]at ln;refine⟨l5,_,_,Y,Y,s9 _ _ Z,Yi<|by omega,?_⟩;have F4:=(G.sm s9).ap (d:=prD (wd,y)) (s9 _ _ Z) (Yx g9<|Z2 Yz<|Z3 Yz)<|Wt _;refine⟨C++[(wd,y)],by rw[ZI];exact F4,by rw[Yc D3];exact s9 _ _ R1,R*c y,_,_,_,by rw[take_snoc J2];exact pk.snoc ym,by omega,by rw[<-G3];rfl⟩
  .rintro U Hj ⟨C,lc,hw,R,z7,z8,z9,pk,RL,rfl⟩
   have Z9:=lb.mv lc.sb lc.pn;have J1:=JA Z9.sb pn _ (Dat.nis_of N) u;have M:=Z9.sb _ _ X J5;exists _,_,Y;have em:(if(L:Int)-(R:Int) > 1 then(L:Int)-(R:Int)else 1)=((max 1 (L-R):Nat):Int):=by split <;> omega
   refine⟨la,_,Y,.inl<|Z1 M,p,o,_,lc.pn,by omega,by omega,λr H8 r8 D s8=>?_⟩;obtain⟨y,ts,a,b,t,hy,ea,ha,hb,ht,cy,t1,t4⟩:=LW ok (JM (lc.pn.tk D.sb) _ N J1) (show r<fl.length by omega);have ym:y∈fl.map (·.1):=ZU.mpr ⟨_,ZH hy,rfl⟩;exists _,_,Z1<|D.sb _ _ X M,ea,_,_,Z0 ha,rfl;have G5:=Z9.mv D.sb s8;have G:=lc.mv D.sb s8;obtain⟨R5,Z,O,_⟩:=G5.zs;obtain⟨zc,F8,M2,_⟩:=G.zs;refine⟨.inl ⟨Y,_,Z1 Z⟩,l5,_,Y,.inl ⟨Z1 F8,λt1 I5=>?_⟩⟩;refine up_in I5 _ λH9 s9 g9=>?_;refine⟨sl 3,λt2 I4=>?_⟩;refine up_in I4 _ λH10 G1 I7=>?_;have sA:=s9.trans G1;have lh:=congrArg List.length ehs;rw[ZA,ZL]at lh;have ln:=O.length;rw[ZA]at ln;refine⟨l,_,_,Y,Y,sA _ _ Z,Yi<|by omega,?_⟩;have F6:=(G5.sm sA).ap (d:=hdT (Z8,C,y)) (sA _ _ Z) (Yx I7<|Z2 Yz<|Z2 (Yx (G1 _ _ g9)<|M2.mono sA)<|Z3 Yz)<|U2 _;refine⟨hs++[(Z8,C,y)],by rw[ZI];exact F6,by rw[Yc F2];exact sA _ _<|D.sb _ _ G2<|lc.sb _ _ G2 T,by rw[ZI,ehs,take_snoc R3];rfl,λh hm=>?_,max 1<|L-R,_,_,_,_,_,_,_,by omega,by omega,by rw[<-em];rfl⟩;rcases ZV.mp hm with m|m
   .exact hok h m
   .rw [ZO.mp m]
    rw[List.take_take]at pk;exact pk.hd R6 (by omega) (by omega) ym
 .rintro U e ⟨hs,lb,T,ehs,hok,L,z4,z5,z6,z7,z8,z9,S,L1,L40,rfl⟩
  rw[ZA,yJ]at ehs;have lh:=congrArg List.length ehs;rw[ZA]at lh;obtain⟨z0,N2,I1,_⟩:=lb.zs;exact q l z0 hs e lb.sb lb.pn lb.fl N2 I1 (by omega) (by omega) (by rw[ehs];exact wn) hok
end
end K4
namespace L2
open PySem
end L2
namespace K4
open PySem L2
section
def Ji{v:V}(p Z:Addr)(many:Nat)(e:v=.int (many:Nat))(G:Pen K Z H p)(M:0<many)(L:many<1000)(q:∀(r:Nat)(J:Hp),r<many->But p H J->Pen K Z J p->Q (.int (r:Nat)) J):Lv K H Q [.ref p,v]:=by
 subst e;exact⟨p,Z,many,G,M,L,q⟩
end
end K4
namespace L2
open PySem
mutual
def Bd.nl:Bd->Prop
 |.tag _=>True
 |.name _=>True
 |.pair a b=>a.nl/\b.nl
 |.one e=>e.nl
 |.other e=>e.nl
 |.choose e _ bs=>e.nl/\Bd.nls bs
 |.ask _ as=>Bd.nls as
 |.letb _ _ _ _=>False
def Bd.nls:List Bd->Prop
 |[]=>True
 |b::bs=>b.nl/\Bd.nls bs
end
theorem Bd.nls_iff:∀{bs:List Bd},Bd.nls bs↔∀b∈bs,b.nl
 |[]=>⟨λ_ b h=>(nomatch h),λ_=>by unfold Bd.nls;trivial⟩
 |b::bs=>by
  unfold Bd.nls;rw[Bd.nls_iff (bs:=bs)];exact⟨λh c m=>(Zb.mp m).elim (λe=>e ▸ h.1)<|h.2 c,λh=>⟨h b ZY,λc m=>h c<|ZK _ m⟩⟩
theorem Bd.oks_iff:∀{bs:List Bd},Bd.oks bs↔∀b∈bs,b.ok
 |[]=>⟨λ_ b h=>(nomatch h),λ_=>by unfold Bd.oks;trivial⟩
 |b::bs=>by
  unfold Bd.oks;rw[Bd.oks_iff (bs:=bs)];exact⟨λh c m=>(Zb.mp m).elim (λe=>e ▸ h.1)<|h.2 c,λh=>⟨h b ZY,λc m=>h c<|ZK _ m⟩⟩
theorem Bd.deps_lt:∀{bs:List Bd},0<n->(∀b∈bs,b.dep<n)->Bd.deps bs<n
 |[],h,_=>by unfold Bd.deps;exact h
 |b::bs,h,k=>by
  unfold Bd.deps;exact Nat.max_lt.mpr ⟨k b ZY,Bd.deps_lt h λc m=>k c<|ZK _ m⟩
structure Sd(ks:List (Str×Shp))(hd:Hds)(kv:List (Key×V))(y:Str)(n:Nat)(b:Bd):Prop where
 kd:Kd ks hd kv y b
 ok:b.ok
 dep:b.dep<n
 nl:b.nl
structure SWd(H:Hp)(wv av:V)(ks fl:List (Str×Shp))(hs:List Hd)(ps:List (Str×Str))(c:Str->Nat):Prop where
 hw:Has H wv (.tup [.lst (fl.map Vv),.lst (hs.map hdT)])
 ha:Has H av (.lst (ps.map prD))
 ok:Lx fl c
 sk:∀y s,(y,s)∈fl->VX ks y=some s
 nh:(hs.map (·.1)).Nodup
 h8:hs.length<=8
 ho:∀h∈hs,h.2.1.length<=3/\∀p∈h.2.1,p.2∈fl.map (·.1)
 np:(ps.map (·.1)).Nodup
 p3:ps.length<=3
def NA(J:kQ)(Z:List Hd):(Dat.tup [.lst (J.map Vv),.lst (Z.map hdT)]).ni=true:=by
 simp[Dat.ni,Dat.nis,Dat.nis_of<|VO VZ J,Dat.nis_of (VO U2 Z)]
def SWd.pn(w:SWd H wv av L fl G Z c)(s:SameB p H M)(J:Pen K sa H p):SWd M wv av L fl G Z c:=
 {w with hw:=Vm s J _ (NA fl G) w.hw,ha:=Vm s J _ (XN<|VO Wt Z) w.ha}
def SWd.at(w:SWd H wv av y fl B j c):∃G M L J Z,wv=.ref G/\H G=some (.tup [.ref M,.ref L])/\H M=some (.lst J)/\HasL H J (fl.map Vv)/\H L=some (.lst Z)/\HasL H Z (B.map hdT):=by
 obtain⟨G,U,rfl,A,F⟩:=Y5 w.hw;obtain⟨X,Q,rfl,S,E⟩:=Yh F;obtain⟨C,P,rfl,I,D⟩:=Yh E;obtain rfl:=VS D;obtain⟨M,J,rfl,T,R⟩:=Vr S;obtain⟨L,Z,rfl,O,N⟩:=Vr I;exact⟨G,M,L,J,Z,Y,A,T,R,O,N⟩
def W5(h:Has H v (prD p)):∃t,v=.ref t/\H t=some (.tup [.str p.1,.str p.2]):=Xl h
def WY(h:Has H v (hdT x)):∃t u Z,v=.ref t/\H t=some (.tup [.str x.1,.ref u,.str x.2.2])/\H u=some (.tup Z)/\HasL H Z (x.2.1.map prD):=by
 unfold hdT at h;obtain⟨t,E,rfl,O,R⟩:=Y5 h;obtain⟨I,C,rfl,D,L⟩:=Yh R;obtain⟨A,U,rfl,B,G⟩:=Yh L;obtain⟨F,S,rfl,T,J⟩:=Yh G;obtain rfl:=VS J;obtain rfl:=has_str D;obtain rfl:=has_str T;obtain⟨u,Z,rfl,N,M⟩:=Y5 B;exact⟨t,u,Z,Y,O,N,M⟩
theorem XU:∀{ns:ky}{Z:kK},HasL H Z (ns.map Dat.str)->Z=ns.map V.str
 |[],Z,h=>VS h
 |n::ns,Z,h=>by
  obtain⟨x,r,rfl,G,J⟩:=Yh h;rw[has_str G,XU J];rfl
def SU{Z:List (Str×Str)}(G:(Z.map (·.1)).Nodup)(m:p∈Z):VD (kvP Z) (Sum.inr p.1)=some (.str p.2):=by
 have J:((kvP Z).map (·.1)).Nodup:=by
  unfold kvP;rw[zf];unfold List.Nodup at G |-;rw[vm]at G |-;exact G.imp λL q=>L<|Sum.inr.inj q
 exact Ry J (kv:=(Sum.inr p.1,V.str p.2))<|ZU.mpr ⟨p,m,rfl⟩
def FX(J:List Hd)(l:J.length<=900)(h:∀h∈J,h.2.1.length<=3):(Dat.lst<|J.map hdT).dep<=4:=
 (Sx (m:=3) (λd Z=>by
  obtain⟨x,G,rfl⟩:=ZU.mp Z;unfold hdT;refine Dq (m:=2) (λd Z=>?_) (by show 3<=1000;decide);simp only[Zb,yn,or_false]at Z;rcases Z with rfl|rfl|rfl
  .exact (Mw _).up (by decide)
  .rw [Md]
   refine Dq (m:=1) (λd Z=>?_) (by rw[ZA];have:=h x G;omega);obtain⟨p,_,rfl⟩:=ZU.mp Z;exact Sw (Mw _)<|Mw _
  .exact (Mw _).up (by decide)) (by rw[ZA];omega)).1
def brF(x:Str×Bd):Dat:=.tup [.str x.1,x.2.dat]
def Sz(x:Str×Bd):(brF x).st=true:=by simp[brF,Dat.st,Dat.sts,Bd.st]
theorem Lo:∀Z:List (Str×Bd),Z.map brF=Bd.brs (Z.map (·.2)) (Z.map (·.1))
 |[]=>by unfold List.map Bd.brs;rfl
 |z::Z=>by rw[ZT,Lo Z,ZT,ZT];(conv=>rhs;unfold Bd.brs);rfl
def LZ{α:Type}{E:Str->α->Prop}{Z:ky}{J:List (Str×α)}(h:Each (λt z=>z.1=t/\E t z.2) Z J):J.map (·.1)=Z:=by
 refine yE λi=>?_;rw[ZG]
 cases e:J[i]? with
 |none=>
  have:=zg.mp e;rw[h.1]at this;rw[zg.mpr this];rfl
 |some z=>
  have L:i<Z.length:=by rw[<-h.1];exact(ZE.mp e).1
  have G:Z[i]?=some Z[i]:=ZC L;rw[G];exact congrArg some (h.2 i _ z G e).1
def half_lt{r s n:Nat}(h:r+1<2 ^ (n+1))(J:2*s<=r-1)(Z:1<=r):s+1<2 ^ n:=by
 rw[Nat.pow_succ]at h;omega
def Lf(a b:Nat)(h:2<=b):2*(a / b)<=a:=by
 have J:=Nat.div_mul_le_self a b;have Z:=Nat.mul_le_mul_left (a / b) h;rw[Nat.mul_comm]at Z;rw[Nat.mul_comm (a / b) b]at J;omega
end L2
namespace K4
open PySem L2
section
abbrev dps:ky:=["_law_pen","_law_world_here","_law_around","_law_kind","_law_room"]
def UL:Yq ["_law_pen","_law_world_here","_law_around","_law_kind","_law_room","_law_way","_law_here","_law_other","_law_shape","_law_share","_law_first","_law_asked","_law_head","_law_tags"] dps (Yb EO):=Y6
def Ks:List.Nodup [("_law_name":Str),"_law_own","_law_kind"]:=by decide +kernel
def A3:List.Nodup [("_law_head":Str),"_law_kind"]:=by decide +kernel
def Av:List.Nodup [("_law_tag":Str),"_law_pen","_law_world_here","_law_around","_law_kind","_law_share"]:=by decide +kernel
def P2:List.Nodup [("_law_name":Str),"_law_own","_law_pen","_law_world_here","_law_around","_law_share"]:=by decide +kernel
inductive QB(K:W.Frag)(n:Nat)(H:Hp)(Q:VK):List V->Prop
 |mk (p sa:Addr) (wv av:V) (y:Str) (r:Nat) (ks fl:List (Str×Shp)) (hs:List Hd) (ps:List (Str×Str)) (c:Str->Nat) (pn:Pen K sa H p) (sw:SWd H wv av ks fl hs ps c) (ym:y∈fl.map (·.1)) (rn:r+1<2 ^ n) (r3:r<=30)
  (q:∀u b H',SameB p H H'->Pen K sa H' p->Has H' u b.dat->Sd ks (Y1 hs) (kvP ps) y n b->Q u H'):QB K n H Q [.ref p,wv,av,.str y,.int (r:Nat)]
def Wg(K:W.Frag)(n:Nat):Sp:=λZ H Q _=>QB K n H Q Z
def Oq(B:Blt mg)(F:Fun K "_law_said" "_law_said" EO f fd)(DN:Df P w K mg base (L+5) "_law_next" pnm (J7 K))(DT:Df P w K mg base (L+5) "_law_tags_of" ["_law_kinds_here","_law_kind"] XD)(G:Ym P w K mg base CX0 (L+5) f fd dps (Wg K n))(bG:Binds K fd dps [])(mG:mg "_law_said"=some (.ref f)):Ym P w K mg base CX0 (L+5+1) f fd dps (Wg K<|n+1):=by
 have DG:Df P w K mg base (L+5) "_law_said" dps (Wg K n):=⟨f,fd,mG,F.kp,bG,G⟩;refine F.oi UL λcdv A outer s H vs Q E hr h=>?_;obtain⟨p,sa,wv,av,y,r,ks,fl,hs,ps,c,pn,I,ym,rn,r3,q⟩:=h;have hr5:VW (4+1) _:=hr.mono (show 5<=L+5 by omega);refine⟨_,YW (Yp 5 UL.nd<|Yy DN hr<|pa2 (pv 0) YX)
  (YW (Xe (i0:=6) ["_law_name","_law_own"] [3] UL.nd rfl (Or.inl rfl) (VL<|pv 2) WA (λcl C fp s H=>VI (n:=2) rfl (Yj (Yd 0 Ks rfl (Or.inl rfl) (Or.inr rfl))<|Yj (Yd 1 Ks rfl (Or.inl rfl) (Or.inr rfl)) Y7))
   (λcl C fp s H=>Yn Vk (pv 1) (pv 2)<|Yu _) (λcl C fp s H=>pv 0))
  (YW (Y2 (PW.pt<|XH (Yn Th (pv 5) YX<|Yu _)<|UW<|Yn (Ue hr5) (pv 6) (Vf VR)<|Yu _)
   (YY<|Ys<|Yv<|pa2 Y3<|Yf Yw (pv 6) (Yy DN hr<|pa2 (pv 0)<|Yt Yo rfl B.len Zs (pa1<|pv 6)) λ_ _=>rfl) Yr)
  (YW (Vz (Yf Yw (Yf Yl (pv 1) YX) (Yy DN hr<|pa2 (pv 0)<|Yt Yo rfl B.len Zs (pa1<|Yf Yl (pv 1) YX)) λ_ _=>rfl)<|VI (n:=2) rfl (Yj (Yd 7 UL.nd)<|Yj (Yd 8 UL.nd) Y7))
  (YW (Y2 (PW.pt<|XH (Tc Th Th YX (pv 5) YX)<|UW<|Yn UX (pv 4) (Y4 Vt YX<|Yt Yo rfl B.len Zs (pa1<|Yf Yl (pv 8) YX))<|Yu _)
   (YW (Yp 9 UL.nd (Y4 WT (Y4 Mg (pv 4) YX)<|Y4 Vt YX<|Yt Yo rfl B.len Zs (pa1<|Yf Yl (pv 8) YX)) (by exact Y)<|Or.inr rfl)
   (YW (Yp 10 UL.nd<|Yy DG hr<|pa5 (pv 0) (pv 1) (pv 2) (pv 7)<|pv 9)
   (YY (Ys (Yv (pa3 Y3 (pv 10) (VM V0 rfl B.tuple JR (pa1 (Vq ["_law_tag"] [0,1,2,3,9] (Js<|Yf Yl (pv 8) YX) (VP (i:=0)<|by decide) (λcl C fp s H=>Yd 0 Av rfl (Or.inl rfl) (Or.inr rfl))
    (λcl C fp s H=>Yv<|pa2 (pv 0)<|Yy DG hr<|pa5 (pv 1) (pv 2) (pv 3) (pv 4)<|pv 5)))))))))) Yr)
  (YW (Xe (i0:=11) ["_law_head"] [3] UL.nd rfl (Or.inl rfl) (VL<|Yf Yl (pv 1) YX) (VP (i:=0)<|by decide) (λcl C fp s H=>Yd 0 A3 rfl (Or.inl rfl) (Or.inr rfl))
   (λcl C fp s H=>Yn Vk (Yf (r:=UB K) Yl (pv 0) YX) (pv 1)<|Yu _) (λcl C fp s H=>pv 0))
  (YW (Y2 (PW.pt<|XH (Yn UX (pv 5) YX<|Yu _)<|UW<|Yn (Ue hr5) (pv 11) (Vf VR)<|Yu _)
   (YW (Yp 12 UL.nd<|Yf Yw (pv 11) (Yy DN hr<|pa2 (pv 0)<|Yt Yo rfl B.len Zs (pa1<|pv 11)) λ_ _=>rfl)
   (YY (Y2 (Yn UX (pv 4) (Y4 Ju YX<|Yt Yo rfl B.len Zs (pa1<|Yf Yl (pv 12) YX))<|Yu _)
    (YW (Yp 9 UL.nd (Y4 WT (Y4 Mg (pv 4) YX)<|Yt (Xq rfl) rfl B.max Xs (pa2 YX<|Yt Yo rfl B.len Zs (pa1<|Yf Yl (pv 12) YX))) (by exact Y)<|Or.inr rfl)
    (YY (Ys (Yv (pa3 Y3 (Yf Yl (pv 12) YX) (VM V0 rfl B.tuple JR (pa1 (Vq ["_law_name","_law_own"] [0,1,2,9] (Js<|Yf Yl (pv 12) YX) WA (λcl C fp s H=>VI (n:=2) rfl (Yj (Yd 0 P2 rfl (Or.inl rfl) (Or.inr rfl))<|Yj (Yd 1 P2 rfl (Or.inl rfl) (Or.inr rfl)) Y7))
     (λcl C fp s H=>Yy DG hr<|pa5 (pv 2) (pv 3) (pv 4) (pv 1)<|pv 5))))))))) Yr))) Yr)
  (YW (Yp 13 UL.nd<|Yy DT hr<|pa2 (Yf Yl (pv 1) YX)<|pv 3)
  (YY<|Ys<|Yv<|pa2 Y3<|Yf Yl (pv 13) (Yy DN hr<|pa2 (pv 0)<|Yt Yo rfl B.len Zs (pa1<|pv 13)) λ_ _=>rfl)))))))),?_⟩
 dsimp only[Vg,Cx.nox,Cx.wish];show let T0:=_;let T1:=Yg _ T0;let T2:=_;let T3:=Yg _ T2;let T4:=Y9 _ T3 _;let T5:=Yg _ T4;let T6:=Yg (Y9 _ T5 _) T1;let T7:=Yg _ T6;let T8:=_;let T9:=Yg _ T8;let T10:=Yg _ T9;let T11:=Yg (Y9 _ T10 _) T7;let T12:=Yg _ T11;let T13:=_;let T14:=Yg (Y9 _ T13 _) T12;let T15:=Yg _ T14;Yg _ T15 _ _ _
 intros
 refine⟨p,sa,9,pn,by decide,by decide,λR1 H1 w9 b1 I5=>?_⟩;have sw1:=I.pn b1.sb pn;obtain⟨aa,xa,rfl,haa,hxa⟩:=Vr sw1.ha;exists ⟨_,Z1 haa⟩;refine JQ (E:=λp=>.str p.1) (λp=>decide<|p.2=y) (itl<|Z1 haa) hxa (by have:=I.p3;omega) (λu x R hm hu rT rF=>?_) λvs hl H2 fh s2 hhl l=>?_
 .obtain ⟨t,rfl,ht⟩:=W5 hu
  exact⟨_,Z0 ht,Y,Y,_,Y,X7 (λc=>rT _ (decide_eq_true<|V.str.inj<|Zr c) Yz) λc=>rF<|Zw λe=>c<|decide_eq_true<|congrArg V.str e⟩
 obtain⟨ns,rfl,hns,lns⟩:∃ns:ky,vs=ns.map V.str/\(∀z∈ns,VD (kvP ps) (Sum.inr z)=some (.str y))/\ns.length<=3:=by
  refine⟨(ps.filter λp=>decide<|p.2=y).map (·.1),XU (by rw[zf];exact l),λz hz=>?_,by rw[ZA];exact ZZ (yu _ _) I.p3⟩;obtain⟨pr,hp,rfl⟩:=ZU.mp hz;obtain⟨m1,m2⟩:=zh.mp hp;rw[SU I.np m1,Zr m2]
 have I4:=I5.same s2;have I0:=b1.sb.trans s2.sb;have nph:hl≠p:=I5.ne fh;dsimp only[Vi];refine Ve (λU' H'=>Same H2 H'/\U'=[some (.ref p),some wv,some<|.ref aa,some<|.str y,some<|.int (r:Nat),some<|.int (R1:Nat),some<|.ref hl,none,none,none,none,none,none,none]) ?_ ?_
 case refine_2=>
  intro N M;refine⟨_,Y,X7 (λc1=>?_) λc1=>Y0 (by simp)<|M _ _ ⟨Z6 _,rfl⟩⟩;refine⟨sl 0,λe1 F4=>?_⟩;refine up_in F4 _ λH3 s3 g3=>?_;have F2:=s3 _ _ hhl;exists .lst<|ns.map Dat.str,.lst [],ST F2,VB g3 Z4,ZZ (G7 _)<|by decide,_,rfl;rw[KE]
  cases ns with
  |nil=>exact Y0 (by simp)<|M _ _ ⟨s3,rfl⟩
  |cons n1 ns=>
   refine VH (by simp) ?_;have j:=I4.same s3;refine⟨hl,_,Y,.inl<|Z1 F2,p,sa,_,j,by simp,by rw[ZA];omega,λr4 H4 v b4 T=>?_⟩;rw[ZA]at v;refine⟨_,.str<|(n1::ns)[r4]'(v),Z1<|b4.sb _ _ nph F2,Ya (by rw[ZG,ZC v];rfl),sl 2,λt ht=>?_⟩;have s5:=Ye ht<|.tup [.str "name",.str ((n1::ns)[r4]'(v))];exact q _ (.name _) _ (((I0.trans s3.sb).trans b4.sb).trans s5.sb) (T.same s5) (by unfold Bd.dat;exact WE YZ) ⟨Kd.name<|hns _<|yX v,by unfold Bd.ok;trivial,by unfold Bd.dep;omega,by unfold Bd.nl;trivial⟩
 rintro U' H3 ⟨s3,rfl⟩;have j:=I4.same s3;have F9:=I0.trans s3.sb;have sw3:=I.pn F9 pn;obtain⟨wa,fa,ha,xf,xh,rfl,G3,F3,R6,hha,R5⟩:=sw3.at;have R4:=VO VZ fl;have hst:=VO U2 hs;have I7:=j.lst F3 R6<|Dat.nis_of R4;have I6:=j.lst hha R5<|Dat.nis_of hst;have lxf:=R6.length;have lxh:=R5.length;rw[ZA]at lxf lxh;have f0:=I.ok.f0;have f3:=I.ok.f3;have h8:=I.h8;refine⟨_,_,Z0 G3,Y,_,_,Z0 G3,Y,fa,_,Y,.inl<|Z1 F3,p,sa,_,j,by omega,by omega,λr4 H4 v b4 T=>?_⟩;have J1:=b4.sb _ _ (j.tup G3) G3;have N2:=b4.sb _ _ I7 F3;have M2:=b4.sb _ _ I6 hha;have S2:=JM (j.tk b4.sb) _ R4 R6;have hh4:=JM (j.tk b4.sb) _ hst R5;obtain⟨o,ts,a,b,t,ho,ea,haT,L1,G5,co,t1,t4⟩:=LW I.ok S2 (show r4<fl.length by omega);have om:o∈fl.map (·.1):=ZU.mpr ⟨_,ZH ho,rfl⟩;have lts:(ts.map V.str).length=ts.length:=ZA _;refine⟨_,_,Z1 N2,ea,⟨_,Z0 haT,Y,?_⟩⟩;have G1:=F9.trans b4.sb;dsimp only[Vi,U9,Nw];refine Ve (λU' H'=>H'=H4/\U'=[some (.ref p),some<|.ref wa,some<|.ref aa,some<|.str y,some<|.int (r:Nat),some<|.int (R1:Nat),some<|.ref hl,some<|.str o,some<|.ref b,none,none,none,none,none]) ?_ ?_
 case refine_2=>
  intro N M;refine⟨_,Y,X7 (λc1=>?_) λc1=>⟨_,Y,Y0 (by simp)<|Y0 (by simp)<|M _ _ ⟨rfl,rfl⟩⟩⟩;refine⟨_,Y,X7 (λc2=>?_) λc2=>Y0 (by simp)<|M _ _ ⟨rfl,rfl⟩⟩;refine⟨_,_,Z0 L1,Y,t,_,Y,.inr<|Z0 G5,_,rfl,X7 (λc3=>?_) λc3=>M _ _ ⟨rfl,rfl⟩⟩;have c3':=Zr c3;have sw4:=I.pn G1 pn;obtain⟨S,hS⟩:∃S:Nat,S=(r-1) / (1+ts.length):=⟨_,rfl⟩;have dS:=Lf (r-1) (1+ts.length) (by omega);rw[<-hS]at dS
  have eS:((r:Int)-1) / (1+(((ts.map V.str).length:Nat):Int))=((S:Nat):Int):=by
   rw[hS,lts,show((r:Int)-1)=((r-1:Nat):Int) by omega];rfl
  have Sn:=half_lt rn dS (by omega);refine⟨_,_,Z0 L1,Y,t,_,Y,.inr<|Z0 G5,⟨by omega,by omega⟩,?_⟩;dsimp only;rw[eS];refine⟨p,sa,.ref wa,.ref aa,o,S,ks,fl,hs,ps,c,T,sw4,om,Sn,by omega,λu1 e1 H5 g k hu1 J4=>?_⟩;have F7:=g _ _ (T.tup G5) G5;have bt5:=g _ _ (T.tup L1) L1;exists _,_,Z0 bt5,Y,⟨_,Z0 F7⟩;refine W8 (us:=ts) (D:=Dat.str) (F:=brF) (λtg z=>z.1=tg/\Sd ks (Y1 hs) (kvP ps) y n z.2) (A9 F7 k) k (VT ts) (λu=>by unfold Dat.ni;rfl) Sz (by omega) (λtg x H6 R hm O X hx hR=>?_) λvs zs q1 H6 fq O X F1 l ez=>?_
  .obtain rfl:=has_str hx
   refine⟨p,sa,.ref wa,.ref aa,y,S,ks,fl,hs,ps,c,X,I.pn ((G1.trans g).trans O) pn,ym,Sn,by omega,λu J H7 J5 U hu sd=>⟨sl 2,λt' ht'=>?_⟩⟩;have s8:=Ye ht'<|.tup [.str tg,u];exact hR _ (tg,J) _ (J5.trans s8.sb) (U.same s8) (Yx YZ<|Z2 Yz<|Z3<|hu.mono s8) ⟨rfl,sd⟩
  refine⟨q1,_,Y,.inl ⟨Z1 F1,λt1 D0=>?_⟩⟩;refine up_in D0 _ λH7 s7 g7=>?_;refine⟨sl 3,λt2 R8=>?_⟩;refine up_in R8 _ λH8 s8 g8=>?_;have G2:=s7.trans s8;have ef:=LZ ez;have lb:(zs.map (·.2)).length=ts.length:=by rw[ZA];exact ez.1
  have es:∀J∈zs.map (·.2),Sd ks (Y1 hs) (kvP ps) y n J:=λJ Z=>by
   obtain⟨z,hz,rfl⟩:=ZU.mp Z;obtain⟨_,_,e⟩:=ez.mem hz;exact e.2
  have n0:=J4.dep;refine q _ (.choose e1 ts<|zs.map (·.2)) H8 (((G1.trans g).trans O).trans G2.sb) (X.same G2) ?_ ⟨Kd.choose (I.sk _ _<|ZH ho) J4.kd lb λJ Z=>(es J Z).kd,?_,?_,?_⟩
  .unfold Bd.dat
   rw[Lo,ef]at l;exact Yx g8<|Z2 Yz<|Z2 (XT (λb us h=>G2 _ _<|k.tk O _ _ h) _ (Bd.st _) hu1)<|Z3<|Yx (s8 _ _ g7)<|l.mono G2
  .unfold Bd.ok
   exact⟨J4.ok,lb,⟨by omega,by omega⟩,Bd.oks_iff.mpr λJ Z=>(es J Z).ok⟩
  .unfold Bd.dep
   have:=Bd.deps_lt (n:=n) (by omega) λJ Z=>(es J Z).dep;omega
  .unfold Bd.nl
   exact⟨J4.nl,Bd.nls_iff.mpr λJ Z=>(es J Z).nl⟩
 rintro U' H' ⟨rfl,rfl⟩;exists _,_,Z0 J1,Y,⟨_,Z1 M2⟩;refine JQ (E:=hdT) (λh=>decide<|h.2.2=y) (itl<|Z1 M2) hh4 (by omega) (λu x R hm hu rT rF=>?_) λva al H5 fal s5 hal G4=>?_
 .obtain ⟨t',u',xs,rfl,ht,J2,hx⟩:=WY hu
  exact⟨_,_,Z0 ht,Y,Y,_,Y,X7 (λc=>rT _ (decide_eq_true<|V.str.inj<|Zr c) hu) λc=>rF<|Zw λe=>c<|decide_eq_true<|congrArg V.str e⟩
 have k:=T.same s5;have g:=G1.trans s5.sb;have npa:al≠p:=T.ne fal;dsimp only[Vi];refine Ve (λU' H6=>SameB p H5 H6/\Pen K sa H6 p/\∃F6,U'=[some (.ref p),some<|.ref wa,some<|.ref aa,some<|.str y,some<|.int (r:Nat),some<|.int (R1:Nat),some<|.ref hl,some<|.str o,some<|.ref b,none,none,some<|.ref al,F6,none]) ?_ ?_
 case refine_2=>
  intro N M;refine⟨_,Y,X7 (λc1=>?_) λc1=>Y0 (by simp)<|M _ _ ⟨SameB.refl _ _,k,_,rfl⟩⟩;refine⟨sl 0,λe1 F4=>?_⟩;refine up_in F4 _ λH6 s6 g6=>?_;have F5:=s6 _ _ hal;have X:=k.same s6;have fi:∀h∈hs.filter (λh=>decide<|h.2.2=y),h∈hs/\h.2.2=y:=λh m=>⟨(zh.mp m).1,Zr (zh.mp m).2⟩;have I9:=yu (λh:Hd=>decide<|h.2.2=y) hs;generalize hs.filter (λh=>decide<|h.2.2=y)=fs at G4 fi I9;exists .lst<|fs.map hdT,.lst [],VB F5<|G4.mono s6,VB g6 Z4,FX fs (by omega) λh m=>(I.ho h (fi h m).1).1,_,rfl;rw[KE];have I8:=G4.length;rw[ZA]at I8
  cases fs with
  |nil=>exact Y0 (by simp)<|M _ _ ⟨s6.sb,X,_,rfl⟩
  |cons h1 fs=>
   refine VH (by simp) ?_;rw[Zd]at I8 I9;refine⟨al,_,Y,.inl<|Z1 F5,p,sa,_,X,by omega,by omega,λr7 H7 I3 b7 U=>?_⟩;have e7:va[r7]?=some (va[r7]'(I3)):=ZC I3;obtain⟨hd,hhd,hv7⟩:=getD G4 e7;obtain⟨hdm,hdy⟩:=fi hd<|ZH hhd;obtain⟨l3,pk⟩:=I.ho hd hdm;have Z8:=s6.sb.trans b7.sb;obtain⟨t',u',xs,e8,ht,J2,hx⟩:=WY<|XT (k.tk Z8) _ (U2 _) hv7;rw[e8]at e7;exists _,_,Z1<|b7.sb _ _ npa F5,Ya e7;have lx:=hx.length;rw[ZA]at lx;refine⟨_,_,Z0 ht,Y,u',_,Y,.inr<|Z0 J2,.inl ⟨by decide,by decide⟩,_,rfl,X7 (λc3=>?_) λc3=>M _ _ ⟨Z8,U,_,rfl⟩⟩;have c3':=Zr c3;obtain⟨S,hS⟩:∃S:Nat,S=(r-1) / (max 2 xs.length):=⟨_,rfl⟩;have dS:=Lf (r-1) (max 2 xs.length) (by omega);rw[<-hS]at dS;have em:(if((xs.length:Nat):Int) > 2 then((xs.length:Nat):Int)else 2)=((max 2 xs.length:Nat):Int):=by split <;> omega
   have eS:((r:Int)-1) / (if((xs.length:Nat):Int) > 2 then((xs.length:Nat):Int)else 2)=((S:Nat):Int):=by
    rw[hS,em,show((r:Int)-1)=((r-1:Nat):Int) by omega];rfl
   have Sn:=half_lt rn dS (by omega);refine⟨_,_,Z0 ht,Y,u',_,Y,.inr<|Z0 J2,_,_,rfl,⟨by rw[em];omega,by rw[em];omega⟩,?_⟩;dsimp only;rw[eS];have J5:=g.trans Z8;exists _,_,Z0 ht,Y,_,_,Z0 ht,Y,⟨_,Z0 J2⟩;refine W8 (us:=hd.2.1) (D:=prD) (F:=Bd.dat) (λpr J=>Sd ks (Y1 hs) (kvP ps) pr.2 n J) (A9 J2 U) U hx (λu=>Dat.ni_of<|Wt u) Bd.st (by omega) (λpr x H8 R hm R3 Z9 hx hR=>?_) λvs bs q1 H8 fq R3 Z9 F1 l ez=>?_
   .obtain ⟨t8,rfl,ht8⟩:=W5 hx
    exists _,Z0 ht8,Y;exact⟨p,sa,.ref wa,.ref aa,pr.2,S,ks,fl,hs,ps,c,Z9,I.pn (J5.trans R3) pn,pk pr hm,Sn,by omega,λu J H9 sb9 pn9 hu sd=>hR _ J _ sb9 pn9 hu sd⟩
   refine⟨q1,_,Y,.inl ⟨Z1 F1,λt1 D0=>?_⟩⟩;refine up_in D0 _ λH9 s9 g9=>?_;refine⟨sl 3,λt2 R8=>?_⟩;refine up_in R8 _ λH10 I1 g10=>?_;have sA:=s9.trans I1;have es:∀J∈bs,∃z,Sd ks (Y1 hs) (kvP ps) z n J:=λJ Z=>let⟨u,_,e⟩:=ez.mem Z;⟨_,e⟩
   have hat:=XS I.nh hdm;refine q _ (.ask hd.1 bs) H10 ((J5.trans R3).trans sA.sb) (Z9.same sA) ?_ ⟨?_,?_,?_,?_⟩
   .unfold Bd.dat
    rw[Z7];exact Yx g10<|Z2 Yz<|Z2 Yz<|Z3<|Yx (I1 _ _ g9)<|l.mono sA
   .rw [<-hdy]
    exact Kd.ask hat ez.1 λi J pr h1 h2=>(ez.2 i pr J h2 h1).kd
   .unfold Bd.ok
    exact⟨by rw[ez.1];omega,Bd.oks_iff.mpr λJ Z=>let⟨_,e⟩:=es J Z;e.ok⟩
   .unfold Bd.dep
    cases bs with
    |nil=>
     unfold Bd.deps
     cases n with
     |zero=>exact Zp rn (by show ¬r+1<2;omega)
     |succ n=>omega
    |cons b0 bs=>
     obtain⟨_,e0⟩:=es b0 ZY;have:=Bd.deps_lt (n:=n) (bs:=b0::bs) (by have:=e0.dep;omega) λJ Z=>let⟨_,e⟩:=es J Z;e.dep
     omega
   .unfold Bd.nl
    exact Bd.nls_iff.mpr λJ Z=>let⟨_,e⟩:=es J Z;e.nl
 rintro U' H6 ⟨O,X,F6,rfl⟩;have F8:=g.trans O;have C2:=(s5.sb.trans O) _ _ (T.tup J1) J1;have hfa6:=(s5.sb.trans O) _ _ I7 N2;have hx6:=JM (T.tk<|s5.sb.trans O) _ R4 S2;obtain⟨sy,D3⟩:=JJ ym;obtain⟨d,rfl,cy,y1,y4,_⟩:=I.ok.ok y sy<|Jx D3;refine⟨_,_,Z0 C2,Y,.ref fa,y,fl,d,VB hfa6 hx6,by omega,D3,λrv H7 s7 h7=>?_⟩;obtain⟨tv,xt,rfl,R7,hxt⟩:=Y5 h7;obtain rfl:=XU hxt;have U:=X.same s7;have lty:(d.map V.str).length=d.length:=ZA _;refine⟨tv,_,Y,.inr<|Z0 R7,p,sa,_,U,by omega,by omega,λr8 H8 r8l b8 Z9=>?_⟩;have I2:r8<d.length:=by omega
 refine⟨_,.str d[r8],Z0<|b8.sb _ _ (U.tup R7) R7,Ya (by rw[ZG,ZC I2];rfl),sl 2,λt9 ht9=>?_⟩;have s9:=Ye ht9<|.tup [.str "tag",.str d[r8]];exact q _ (.tag _) _ (((F8.trans s7.sb).trans b8.sb).trans s9.sb) (Z9.same s9) (by unfold Bd.dat;exact WE YZ) ⟨Kd.tag (I.sk _ _<|Jx D3)<|yX I2,by unfold Bd.ok;trivial,by unfold Bd.dep;omega,by unfold Bd.nl;trivial⟩
theorem EF(B:Blt Z)(F:Fun K "_law_said" "_law_said" EO f G)(O:Df P w K Z base 5 "_law_next" pnm (J7 K))(N:Df P w K Z base 5 "_law_tags_of" ["_law_kinds_here","_law_kind"] XD)(M:Binds K G dps [])(J:Z "_law_said"=some (.ref f)):∀n:Nat,Ym P w K Z base CX0 (n+5) f G dps<|Wg K n
 |0=>.none λA H Q E h=>by
  obtain⟨p,S,D,m,y,r,j,t,z,C,c,X,I,T,R,U,q⟩:=h;exact Zp R (by show ¬r+1<1;omega)
 |n+1=>(Oq (L:=n) B F (O.up<|by omega) (N.up<|by omega) (EF B F O N M J n) M J).mono<|by omega
end
end K4
namespace L2
open PySem
structure Wld(H:Hp)(wv:V)(ks fl:List (Str×Shp))(hs:List Hd)(c:Str->Nat):Prop where
 hw:Has H wv (.tup [.lst (fl.map Vv),.lst (hs.map hdT)])
 ok:Lx fl c
 sk:∀y s,(y,s)∈fl->VX ks y=some s
 nh:(hs.map (·.1)).Nodup
 h8:hs.length<=8
 ho:∀h∈hs,Ge (fl.map (·.1)) c 40 h
def Wld.pn(w:Wld H wv G fl Z c)(s:SameB p H L)(J:Pen K sa H p):Wld L wv G fl Z c:={w with hw:=Vm s J _ (NA fl Z) w.hw}
def Wld.sm(w:Wld H wv Z fl J c)(s:Same H G):Wld G wv Z fl J c:={w with hw:=w.hw.mono s}
def Wld.sw(w:Wld H wv L fl M c)(N:Has H av (.lst<|Z.map prD))(G:(Z.map (·.1)).Nodup)(J:Z.length<=3):SWd H wv av L fl M Z c:=
 ⟨w.hw,N,w.ok,w.sk,w.nh,w.h8,λh m=>⟨(w.ho h m).len,(w.ho h m).kin⟩,G,J⟩
def Wld.at(w:Wld H wv j fl B c):∃G M L J Z,wv=.ref G/\H G=some (.tup [.ref M,.ref L])/\H M=some (.lst J)/\HasL H J (fl.map Vv)/\H L=some (.lst Z)/\HasL H Z (B.map hdT):=by
 obtain⟨G,U,rfl,A,F⟩:=Y5 w.hw;obtain⟨X,Q,rfl,S,E⟩:=Yh F;obtain⟨C,P,rfl,I,D⟩:=Yh E;obtain rfl:=VS D;obtain⟨M,J,rfl,T,R⟩:=Vr S;obtain⟨L,Z,rfl,O,N⟩:=Vr I;exact⟨G,M,L,J,Z,Y,A,T,R,O,N⟩
end L2
namespace K4
open PySem L2
section
def Qm:Yq ["_law_pen","_law_world_here"] ["_law_pen","_law_world_here"] (Yb K8):=Y6
def SS:List.Nodup [("_law_head":Str),"_law_pen","_law_world_here"]:=by decide +kernel
inductive QE(K:W.Frag)(H:Hp)(Q:VK):List V->Prop
 |mk (p sa:Addr) (wv:V) (ks fl:List (Str×Shp)) (hs:List Hd) (c:Str->Nat) (pn:Pen K sa H p) (w:Wld H wv ks fl hs c)
  (q:∀(l:Addr)(xs:List V)(ds:List Dd)(H':Hp),SameB p H H'->Pen K sa H' p->H l=none->H' l=some (.lst xs)->HasL H' xs (ds.map Jp)->ds.map (·.1)=hs->(∀x∈ds,Sd ks (Y1 hs) (kvP x.1.2.1) x.1.2.2 5 x.2)->Q (.ref l) H'):QE K H Q [.ref p,wv]
def BZ(K:W.Frag):Sp:=λZ H Q _=>QE K H Q Z
def O2(B:Blt mg)(F:Fun K "_law_defined_drawn" "_law_defined_drawn" K8 f fd)(DG:Df P w K mg base n "_law_said" dps (Wg K 5)):Ym P w K mg base CX0 (n+1) f fd ["_law_pen","_law_world_here"] (BZ K):=by
 refine F.oi Qm λJ4 A g s H vs Q E hr h=>?_;obtain⟨p,sa,wv,ks,fl,N,c,m,I,q⟩:=h;refine⟨_,YY (Ys (Vq ["_law_head"] [0,1] (VL<|Yf Yl (pv 1) YX) (VP (i:=0)<|by decide) (λcl C fp s H=>Yd 0 SS rfl (Or.inl rfl) (Or.inr rfl))
  (λcl C fp s H=>Y4 (r:=NZ K) WU (pv 0)<|Yv<|pa1<|Yy DG hr<|pa5 (pv 1) (pv 2) (VM (r:=λxs H Q=>∃p j,xs=[.ref p]/\(SqL K H p j\/SqT K H p j)/\∀l,H l=none->Q (.ref l) (upd H l<|.lst j)) JB rfl B.list Vo (pa1<|Yf (r:=UB K) Yl (pv 0) YX)) (Yf (r:=UB K) Yl (pv 0) YX) YX))),?_⟩
 dsimp only[Vg,Cx.nox,Cx.wish];obtain⟨wa,fa,ha,xf,xh,rfl,d,J2,J1,M,D⟩:=I.at;have Z8:=VO U2 N;exists _,_,Z0 d,Y,⟨_,Z1 M⟩;refine W8 (F:=Jp) (λh x=>x.1=h/\Sd ks (Y1 N) (kvP h.2.1) h.2.2 5 x.2) (zD M<|m.lst M D<|Dat.nis_of Z8) m D (λh=>Dat.ni_of<|U2 h) Jo (by have:=I.h8;omega) (λh x H1 R hm G Z k hR=>?_) λvs ds l H1 Z9 G Z hl v U=>?_
 .obtain ⟨t,u,xs,rfl,ht,hu,hxs⟩:=WY k
  have ho:=I.ho h hm;refine⟨_,_,Z0 ht,Y,u,_,Y,.inr<|Z0 hu,λl hl=>?_⟩;refine up_in hl _ λH2 L g2=>?_;exists _,_,Z0<|L _ _ ht,rfl;refine⟨p,sa,.ref wa,.ref l,h.2.2,30,ks,fl,N,h.2.1,c,Z.same L,((I.pn G m).sm L).sw (VB g2<|hxs.mono L) ho.nd ho.len,ho.own,by decide,by decide,λub b H3 O y hb sd=>?_⟩;refine⟨sl 1,λt1 a=>?_⟩;refine up_in a _ λH4 S g4=>?_;have J:TK H1 H4:=λb us h=>S _ _<|(Z.same L).tk O _ _<|L _ _ h;refine⟨t,t1,_,_,Y,Y,Z0<|J _ _ ht,Z0 g4,by simp,Zf<|Yi (by show 4<=1000;decide),(λz=>nomatch z),λ_ t2 o=>?_⟩;refine up_in o _ λH5 T g5=>?_;exact hR _ (h,b) _ (((L.sb.trans O).trans S.sb).trans T.sb) ((y.same S).same T) (Yx g5<|Z2 Yz<|Z2 (Yx (T _ _<|J _ _ hu)<|JM (λb us h=>T _ _<|J _ _ h) _ (VO Wt _) hxs)<|Z2 Yz<|Z3<|(hb.mono S).mono T) ⟨rfl,sd⟩
 .refine q l vs ds H1 G Z Z9 hl v ?_ λx k=>?_
  .refine yE λi=>?_
   rw[ZG]
   cases e:ds[i]? with
   |none=>
    have:=zg.mp e;rw[U.1]at this;rw[zg.mpr this];rfl
   |some z=>
    have il:i<N.length:=by rw[<-U.1];exact(ZE.mp e).1
    have X:N[i]?=some N[i]:=ZC il;rw[X];exact congrArg some (U.2 i _ z X e).1
  .obtain ⟨h,_,e1,X⟩:=U.mem k
   subst e1;exact X
end
end K4
namespace L2
open PySem PySem.Spec PyProof.Rows
def Dp(l:Addr)(items:kI)(n:Nat)(b:Addr)(o:Obj)(Z:kI)(N:Nat)(C:¬(!items.isEmpty && Builtin.List.listTooLong (items.size+Z.size))=true)(F:items.size<=sizeLine)(E:items.size+Z.size<=sizeLine+1)(B:o.cls=.type "tuple")(T:o.data=.seq Z N):
  Meets (Builtin.«list.extend» ⟨[.ref l,.ref b],[]⟩) (λ_ R s=>s.heap.get? l=some {cls:=.type "list",dict:=none,data:=.seq items n,slots:= #[]}/\s.heap.get? b=some o/\R (.ok<|.ret Value.none) {s with heap:=s.heap.update l<|Obj.mapSeq λx=>x++ Z,toks:=s.toks}):=
 .of_wp λM w A R s h=>by
  obtain⟨G,dict,data,J⟩:=o;obtain rfl:G=.type "tuple":=B;obtain rfl:data=.seq Z N:=T;obtain⟨U,g,d,I,S⟩:=s;obtain⟨O,D,h⟩:=h;have Q:=AutoSeq1.sub_list_list;have P:=AutoSeq1.sub_tuple_list;have j:=AutoSeq1.sub_tuple_tuple;have X:=AutoSeq1.sub_list_tuple;have L:(items++ Z).size<=sizeLine+1:=by rw[Array.size_append];exact E
  wp_walk using(wpAny_updateSeq O rfl (hz:=F) (_hz':=L)),wpAny_loadPart' O,wpAny_loadPart' D
  exact⟨_,Y,h⟩
def AW:V->List V->Hp->VK->Prop:=λx G H Q=>∃l b J Z,x=.ref l/\G=[.ref b]/\H l=some (.lst J)/\H b=some (.tup Z)/\J.length+Z.length<=sizeLine/\Q .non (upd H l<|.lst<|J++ Z)
def PB:MtM X "list.extend" AW:=by
 intro N s U H x m v g Q I R T h;obtain⟨l,b,t,j,rfl,rfl,O,C,k,q⟩:=h;cases R;obtain⟨u,rfl,B⟩:=T.one;cases B;obtain⟨z,J,n,r,p,e⟩:=I.lstM O;obtain⟨y,Z,M,o,P,_,S,D,A⟩:=I.hok b _ C;have E:=M.length;have L:J.toArray.size+Z.toArray.size<=sizeLine:=by rw[ZM,ZM];omega
 have G:¬(!J.toArray.isEmpty && Builtin.List.listTooLong (J.toArray.size+Z.toArray.size))=true:=by
  rw[Nj L,vN];exact Zg
 refine vp F.slot_list_extend ⟨_,e,Y⟩ F.entry_list_extend (F.args_list_extend_2 _ _) (Dp l J.toArray n b o Z.toArray D G (by rw[ZM];omega) (by omega) S A) ⟨e,P,?_⟩;refine⟨.non,_,I.lset (its':=J++ Z) O e (by simp) (r.append M) ?_,Y,q⟩;rw[ZJ];omega
end L2
namespace L2
open PySem
theorem WV{α:Type}[DecidableEq α]:∀{xs ys:List α},xs.Nodup->(∀x∈xs,x∈ys)->xs.length<=ys.length
 |[],_,_,_=>Za _
 |x::xs,ys,nd,h=>by
  have Z:=zW.mp nd;have m:=h x ZY;have q:=WV (xs:=xs) (ys:=ys.erase x) Z.2 λz J=>(List.mem_erase_of_ne λe:z=x=>Z.1 (by rw[<-e];exact J)).mpr<|h z<|ZK _ J;rw[List.length_erase_of_mem m]at q;have:=List.length_pos_of_mem m;rw[Zd];omega
def WF(ks:kQ):ky:=ks.flatMap λk=>match k.2 with|.tags ts=>ts|.pair _ _=>[]
def E4(h:(y,Shp.tags Z)∈J)(m:t∈Z):t∈WF J:=jG.mpr ⟨_,h,m⟩
def We{fl:kQ}(h:∀y s,(y,s)∈fl->∃Z,s=.tags Z/\Z.length<=4):(WF fl).length<=4*fl.length:=by
 induction fl with
 |nil=>exact ZF _
 |cons k fl ih=>
  obtain⟨y,s⟩:=k;obtain⟨Z,rfl,l⟩:=h y s ZY;have:=ih λy s m=>h y s<|ZK _ m;unfold WF at this |-;rw[vT,ZJ,Zd];show Z.length+_<=_;omega
def BQ(J:kQ)(y:Str)(Z:ky):WF (J++[(y,.tags Z)])=WF J++ Z:=by unfold WF;rw[ji];simp
end L2
namespace K4
open PySem L2
section
def Qk:Yq ["_law_pen","_law_taken","_law_letters"] ["_law_pen","_law_taken","_law_letters"] (Yb K5):=Y6
def Au:List.Nodup [("_law_word":Str),"_law_taken"]:=by decide +kernel
def FQ(K:W.Frag)(sa p:Addr)(o:Nat)(tk:ky)(H:Hp)(Q:VK):Prop:=∀(x:Str)(Z:Hp),SameB p H Z->Pen K sa Z p->x∉tk->(1<=x.length/\x.length<=8/\∀c∈x.cps.toList,o<=c/\c<o+26)->Q (.str x) Z
inductive Lw(K:W.Frag)(H:Hp)(Q:VK):List V->Prop
 |mk (p sa:Addr) (v:V) (o:Nat) (tk:List Str) (pn:Pen K sa H p) (hv:Has H v (.lst (tk.map Dat.str))) (tl:tk.length<=12) (q:FQ K sa p o tk H Q):Lw K H Q [.ref p,v,.str (alpha o)]
def BX(K:W.Frag):Sp:=λZ H Q _=>Lw K H Q Z
def Oz(F:Fun K "_law_free" "_law_free" K5 f fd)(DS:Df P w K a base n "_law_spelt" ["_law_pen","_law_many","_law_letters"] (NS K)):Ym P w K a base CX0 (n+1) f fd ["_law_pen","_law_taken","_law_letters"] (BX K):=by
 refine F.oi Qk λZ8 A T s H g Q E hr h=>?_;obtain⟨p,c,v,o,Z,X,hv,tl,q⟩:=h;refine⟨_,YY<|Ys<|Yf Yw (Xf ["_law_word"] [1] (VL<|Yy DS hr<|pa3 (pv 0) YX<|pv 2) (VP (i:=0)<|by decide) (λt C z s H=>Yd 0 Au rfl (Or.inl rfl) (Or.inr rfl)) (λt C z s H=>Yn (r:=rIn K true) JU (pv 0) (pv 1) rfl) λt C z s H=>pv 0) YX,?_⟩;dsimp only[Vg,Cx.nox,Cx.wish];refine⟨p,c,13,o,X,by decide,λr J H1 L O fr M ly N=>?_⟩;exists ⟨_,Z1 M⟩;obtain⟨k,xt,rfl,S,B⟩:=Vr<|Vm L X _ (XN<|VO (λx=>by unfold Dat.st;rfl) Z) hv;obtain rfl:=XU B;refine JQ (us:=J) (D:=Dat.str) (E:=Dat.str) (λx=>decide<|x∉Z) (itl<|Z1 M) (VT J) (by omega) (λu x R hm hu d b=>?_) λg l H2 fl U y I=>?_
 .obtain rfl:=has_str hu
  exists k,_,Y,.inl<|Z1 S,rfl,JG _,_,rfl;rw[JZ]
  by_cases m:u∈Z
  .exact Y0 (by simp[m]) (b<|by simp[m])
  .exact VH (by simp[m]) (d _ (by simp[m]) Yz)
 .obtain rfl:=XU I
  cases e:J.filter λx=>decide (x∉Z)with
  |nil=>
   have:J.length<=Z.length:=WV N.nd λx G=>Classical.not_not.mp λm=>by
    have:x∈J.filter λx=>decide (x∉Z):=zh.mpr ⟨G,decide_eq_true m⟩;rw[e]at this;cases this
   omega
  |cons x r=>
   rw[e]at y;have G:x∈J.filter λx=>decide (x∉Z):=by rw[e];exact ZY
   exact⟨_,_,Z1 y,Ya (j:=0) Y,q x H2 (L.trans U.sb) (O.same U) (Zr (zh.mp G).2) ⟨(N.len x (zh.mp G).1).1,(N.len x (zh.mp G).1).2,N.abc x (zh.mp G).1⟩⟩
end
end K4
namespace L2
open PySem
def N5{α:Type}{us:List α}{D F:α->Dat}(O:∀Z,Same H Z->Itx J Z T)(A:HasL H T (us.map D))(j:us.length<=10000)(U:∀u x N (R:V->Hp->Prop),u∈us->Same H N->Has N x (D u)->(∀v M,Same N M->Has M v (F u)->R v M)->g x s0 N λL P=>te L P R)(C:∀G q Z,H q=none->Same H Z->Z q=some (.lst G)->HasL Z G (us.map F)->Q (.ref q) Z):RI J g te s0 Q H:=by
 have E:=A.length;rw[ZA]at E;refine Vu T.length (ML<|by omega) (λi G Z=>Same H Z/\G.length=i/\HasL Z G ((us.take i).map F)) ⟨Z6 _,rfl,Z4⟩ (λi G Z z=>z.2.1) ?_ ?_ ?_ ?_
 .rintro i G Z hi ⟨s,_⟩
  exact(O Z s).go i hi
 .rintro G Z ⟨s,_⟩
  exact(O Z s).stop
 .rintro i G Z x H'' R hi ⟨s,z2,z3⟩ yl rT
  obtain⟨rfl,y⟩:=(O Z s).yld i x H'' yl;obtain⟨u,I,S⟩:=getD A y;refine U u x _ R (ZH I) s (S.mono s) λv M B X=>rT _ _ ⟨s.trans B,by rw[ZJ,z2];rfl,?_⟩;rw[take_snoc I,ZI];exact Z5 (z3.mono B)<|Z3 X
 .rintro G Z q ⟨s,z2,z3⟩ hq
  rw[Ze (yU E.symm)]at z3;have L:=Ye hq<|.lst G;exact C G q _ (s.free hq) (s.trans L) YZ<|z3.mono L
structure BE(H:Hp)(C CK t:Addr)(ks:List (Str×Shp))(c d:Str->Nat)(ds:List Dd):Prop where
 bi:BI H C CK t ks d ds
 kk:KK 30 c d ks
 hk:HK (ks.map (·.1)) (Y1 (ds.map (·.1)))
 pl:∀x∈ds,x.1.2.1.length<=3
 k6:ks.length<=6
def BE.mono(b:BE H C L t Z c d J)(s:Same H G):BE G C L t Z c d J:={b with bi:=b.bi.mono s}
def AM(M:KG Z)(L:∀z J,VX Z z=some (.tags J)->1<=J.length)(s:Sd Z N G y 5 e):kdn Z N 13 G e=some y:=s.kd.kdn M L 13 G e _ (by have:=s.dep;omega)
end L2
namespace K4
open PySem L2
def Ie:Yq ["kinds","kind"] ["kinds","kind"] (Yb MS):=Y6
end K4
namespace L2
open PySem
def Tu(o c:Nat):Bool:=decide (o<=c) && decide (c<o+26)
def JX(o:Nat)(x:Str):Bool:=decide (1<=x.length) && (decide (x.length<=8) && x.cps.toList.all (Tu o))
def FS(o c:Nat):decide (c∈(alpha o).cps.toList)=Tu o c:=by
 have e:(alpha o).cps.toList=(List.range 26).map (o + ·):=by show((List.range 26).map (o + ·)).toArray.toList=_;rw[List.toList_toArray]
 rw[e];unfold Tu;rw[yx,decide_eq_true_eq,ZX,decide_eq_true_eq,decide_eq_true_eq,ZU]
 constructor
 .rintro ⟨a,ha,rfl⟩
  have:=vf.mp ha;omega
 .rintro ⟨h1,h2⟩
  exact⟨c-o,vf.mpr<|by omega,by omega⟩
def Rw{x:Str}(G:1<=x.length)(J:x.length<=8)(Z:∀c∈x.cps.toList,o<=c/\c<o+26):JX o x=true:=by
 unfold JX Tu;rw[decide_eq_true G,decide_eq_true J,jp,jp,vy];intro c m;obtain⟨a,b⟩:=Z c m;rw[decide_eq_true a,decide_eq_true b];rfl
def kT(ks:kQ)(y:Str):Bool:=match VX ks y with|some (.tags _)=>true|_=>false
end L2
namespace K4
open PySem L2
section
def WH:Sp:=λJ H Q _=>∃(x:Str)(o:Nat),J=[.str x,.str (alpha o)]/\x.length<=20/\∀Z,Same H Z->Q (.bl<|JX o x) Z
def AV:R2:=λx y H Q=>∃i j,x=.str i/\y=.str j/\Q (.bl<|!(Builtin.Str.occurrences j i 0 j.length 1).isEmpty) H
def Q2{X:Cx}:OpR X (compareOp .In) AV:=FG
def S3{K:W.Frag}{x:Str}{o:Nat}{H:Hp}{Q:VK}{U:St}{N:TE}(L:∀c G R,R (.str<|alpha o) G->N (U.set 0<|some c) G R)(B:0<U.length)(A:x.length<=20)(q:∀Z,Same H Z->Q (.bl<|x.cps.toList.all<|Tu o) Z):
  RI (Its x) (Vi 0) (tOp AV (Xt 0) N) U (λv G=>∃(p:Addr)(O:List Bool),[v]=[.ref p]/\SqL K G p (O.map V.bl)/\Q (.bl<|O.all id) G) H:=by
 have F:x.cps.size=x.length:=rfl;have I:x.cps.toList.length=x.length:=vI
 refine Vu x.length (Yi<|by omega) (λi J Z=>Same H Z/\i<=x.length/\J=((x.cps.toList.take i).map<|Tu o).map V.bl) ⟨Z6 _,Za _,rfl⟩ (λi J Z z=>by
  obtain⟨_,E,T⟩:=z;rw[T,ZA,ZA,ZL];omega) ?_ ?_ ?_ ?_
 .intro i J Z hi z
  exact hi
 .intro J Z z
  exact ZF _
 .intro i J Z v H'' R hi z yl hR
  obtain⟨rfl,c,M,rfl⟩:=yl;show E1 (U.set 0<|some<|V.str ⟨#[c]⟩)[0]? _;rw[yb B];refine L _ _ _ ⟨_,_,Y,Y,?_⟩;rw[StrLaws.found_one,FS];have D:x.cps.toList[i]?=some c:=by rw[Array.getElem?_toList];exact M
  refine hR _ _ ⟨z.1,hi,?_⟩;rw[z.2.2,take_snoc D,ZI,ZI];rfl
 .intro J Z p z hp
  refine⟨p,x.cps.toList.map<|Tu o,rfl,Z1<|by rw[YZ,z.2.2,Ze (by omega)],?_⟩;rw[show(x.cps.toList.map<|Tu o).all id=x.cps.toList.all (Tu o) by rw[jy];rfl];exact q _<|z.1.trans<|Ye hp _
def FI(B:Blt J)(F:Fun K "is_spelt" "is_spelt" Bj f I)(T:J "LONGEST"=some u)(M:RelV (.int 8) u):Ym P w K J base CX0 (n+1) f I ["text","letters"] WH:=by
 refine F.ok OI (λG H Q E h=>?_) λU A Z s H G Q E y h=>?_
 .obtain ⟨x,o,rfl,_⟩:=h
  rfl
 obtain⟨x,o,rfl,N,q⟩:=h;refine⟨_,YW (Y2 (Vx<|Vs<|Wu rfl B.isi rfl B.str GD (pv 0)) (YY<|Ys U8) Yr)
  (YY (Ys (X4 (KO Ti Ti YX (Yt U5 rfl B.len Zs (VA (pv 0) VR))<|JK rfl T M)
   (X3 (Yt (BC rfl) rfl B.all Rl (VA (Vq ["sign"] [1] (Qw<|pv 0) (VP (i:=0)<|by decide)
    (λS C D s H=>Yd 0 Aw rfl (Or.inl rfl) (Or.inr rfl)) (λS C D s H=>UC Q2 (pv 0) (pv 1) rfl)) VR)))))),?_⟩
 show let j:=_;let X:=_;Yg (Y9 _ X _) j _ _ _
 intros
 show let a:=_;let b:=_;Yg (Y9 _ b _) a _ _ _
 intros
 exists _,_,_,_,Y,.str x,XQ K "str",_,Y;refine Y0 (by simp) ?_;have O:x.length<=sizeLine:=Zf (Yi<|by omega);exists x,Y,O,_,Y
 by_cases h1:1<=x.length
 .refine VH (by simp;omega) ?_
  exists _,Y
  by_cases h8:x.length<=8
  .refine VH (by simp;omega) ?_
   exists x,Y;refine S3 (λc z R q=>q) (Nat.zero_lt_succ _) N λt L=>?_;have e:JX o x=x.cps.toList.all (Tu o):=by unfold JX;simp[h1,h8]
   rw[<-e];exact q _ L
  .refine Y0 (by simp;omega) ?_
   have e:JX o x=false:=by unfold JX;simp[h8]
   rw[e]at q;exact q _<|Z6 _
 .refine Y0 (by simp;omega) ?_
  have e:JX o x=false:=by unfold JX;simp[h1]
  rw[e]at q;exists _,Y;refine Y0 (by simp) ?_;exact q _<|Z6 _
def MG:Sp:=λJ H Q _=>∃(x:Str),J=[.str x]/\x.length<=20/\∀Z,Same H Z->Q (.bl<|JX 97 x) Z
def Ex:∀Z H Q E,XC 97 Z H Q E->MG Z H Q E:=λZ H Q E ⟨x,e,G,J,L,q⟩=>⟨x,e,by omega,λM s=>by rw[Rw G J L];exact q M s⟩
def Kc(F:Fun K "is_name" "is_name" MY f I)(G:Ym P w K J base CX0 n g D ["text","letters"] WH)(U:Binds K D ["text","letters"] [])(R:W.keepIn K (.ref g)=true)(N:J "is_spelt"=some (.ref g))(B:J "SMALL"=some u)(M:RelV (.str<|Str.ofString "abcdefghijklmnopqrstuvwxyz") u):Ym P w K J base CX0 (n+1) f I ["text"] MG:=by
 refine F.ok Ii (λL H Q E h=>?_) λS A Z s H L Q E T h=>?_
 .obtain ⟨x,rfl,_⟩:=h
  rfl
 obtain⟨x,rfl,O,q⟩:=h;exists _,YY<|Ys<|Xg G T rfl N R U .nil VQ (VA (pv 0)<|VA (JK rfl B M) VR);refine⟨x,97,?_,O,q⟩;rw[<-Um];rfl
def E5:∀Z H Q E,ME Z H Q E->WH Z H Q E:=λZ H Q E ⟨x,o,e,_,G,J,L,q⟩=>⟨x,o,e,by omega,λM s=>by rw[Rw G J L];exact q M s⟩
end
section
variable{f g C CK:Addr}
inductive CV(CK:Addr)(H:Hp)(Q:VK):List V->Prop
 |mk (so:Addr) (y:Str) (ks:List (Str×Shp)) (d:Str->Nat) (ki:KI H CK so ks d) (q:∀H',Same H H'->Q (.bl (kT ks y)) H'):CV CK H Q [.ref so,.str y]
def IV(CK:Addr):Sp:=λZ H Q _=>CV CK H Q Z
def Q5(S:KCl K CK)(F:Fun K "is_of_tags" "is_of_tags" MS f o)(t:V1 K CK "names" L)(G1:Ym P w K D base CX0 n L x ["self"] (Uu CK))(b1:Binds K x ["self"] [])(X:V1 K CK "shape_of" r)(G2:Ym P w K D base CX0 n r a ["self","kind"] (Ul CK))(b2:Binds K a ["self","kind"] []):Ym P w K D base CX0 (n+1) f o ["kinds","kind"] (IV CK):=by
 refine F.oi Ie λZ8 A M s H vs Q E I h=>?_;obtain⟨T,y,Z,d,N,q⟩:=h;exists _,YY<|Ys<|X4 (UC Uo (pv 1) (Vh (pv 0) S.cl t G1 I b1 .nil VQ) rfl)<|X3<|UC Vk (Yf Yl (Vd (pv 0) S.cl X G2 I b2 .nil VQ<|pa1<|pv 1) YX) Y3<|Yu _;dsimp only[Vg,Cx.nox,Cx.wish];obtain⟨AK,SK,R,O,p⟩:=id N;refine⟨_,_,by rw[<-R];exact O.ins,Y,T,Z,d,Y,N,λl H1 G hl L=>?_⟩;have i:(Z.map λk=>V.str k.1)=(Z.map (·.1)).map V.str:=by rw[zf];rfl
 rw[i]at L;exists l,_,Y,.inl<|Z1 L,rfl,JG _;rw[JZ];unfold kT at q
 cases hs:VX Z y with
 |none=>
  rw[hs]at q;have U:y∉Z.map (·.1):=λm=>by obtain⟨B,e⟩:=JJ m;rw[hs]at e;cases e
  exact⟨_,Y,Y0 (by exact λz=>U<|Zr z)<|q _ G⟩
 |some B=>
  rw[hs]at q;refine⟨_,Y,VH (by exact decide_eq_true<|ZU.mpr ⟨_,Jx hs,rfl⟩) ?_⟩;have J:=N.mono G;obtain⟨AK,SK,R,O,p⟩:=id J;refine⟨_,_,by rw[<-R];exact O.ins,Y,T,Z,d,y,_,Y,J,hs,λv c=>?_⟩;obtain⟨b,zs,rfl,u⟩:=NU c;exists _,_,Z0 u,Ya (j:=0) Y,Y
  cases B with
  |tags ts=>exact q _ G
  |pair e g=>exact q _ G
end
end K4
namespace L2
open PySem
def LF{J:List Dd}(M:∀x∈J,Ge L c 40 x.1):HK L (Y1<|J.map (·.1)):=λf O k e=>by
 obtain⟨G,Z,N⟩:=ZU.mp<|Gw e;have:=(M G Z).own;rw[N]at this;exact this
def Pen.oth(h:Pen K sa H p)(e:H r=some o)(n:∀J,o≠.lst J):r≠p:=λz=>by
 obtain⟨G,k,x,M,Z,L⟩:=h.ex;rw[<-z,e]at Z;cases Z;exact n _ Y
mutual
theorem W.ni:∀w:W,w.dat.ni=true
 |.non=>by unfold W.dat Dat.ni;rfl
 |.tag _=>by unfold W.dat Dat.ni;rfl
 |.pair a b=>by unfold W.dat Dat.ni;unfold Dat.nis;rw[W.ni a];unfold Dat.nis;rw[W.ni b];unfold Dat.nis;rfl
end
def BE.pn(b:BE H C X t D c d F)(s:SameB p H I)(M:Pen K sa H p):BE I C X t D c d F:=by
 have Z:∀{r:Addr}{o:HO},H r=some o->(∀O,o≠.lst O)->I r=some o:=λh n=>s _ _ (M.oth h n) h;obtain⟨A,U,rfl,L⟩:=b.bi;obtain⟨P,S,e,G,J⟩:=L.so;refine{b with bi:=⟨A,U,rfl,Z L.ins (λ_ z=>nomatch z),⟨P,S,e,⟨Z G.ins (λ_ z=>nomatch z),Z G.sh (λ_ z=>nomatch z),Z G.wo (λ_ z=>nomatch z),Z G.he (λ_ z=>nomatch z),Z G.pd (λ_ z=>nomatch z),Z G.tk (λ_ z=>nomatch z),Z G.pk (λ_ z=>nomatch z),G.nd⟩,?_⟩,Z L.td (λ_ z=>nomatch z),L.ke,JA s M _ (Dat.nis_of<|G0 F) L.va,L.nd⟩};refine⟨J.ke,λy T h=>let⟨v,R,N⟩:=J.sh y T h;⟨v,R,Vm s M _ (Dat.ni_of<|Shp.st T) N⟩,λy h=>?_,J.he,J.pd,J.tk,J.pk,J.ln⟩;obtain⟨l,O,R,N,E⟩:=J.wo y h;have B:=O5 W.ni<|Y8 D 3 y;exact⟨l,O,R,s _ _ (M.lst N E B) N,JA s M _ B E⟩
end L2
namespace K4
open PySem L2
section
variable{f g C CK:Addr}
inductive SBK(C CK:Addr)(H:Hp)(Q:VK):List V->Prop
 |mk (A:BA) (kv:List (Key×V)) (ks:List (Str×Shp)) (c d:Str->Nat) (ds:List Dd) (bd:BD H C CK A kv ks d ds) (kg:KG ks) (kk:KK 30 c d ks) (k6:ks.length<=6) (ho:∀x∈ds,Ge (ks.map (·.1)) c 40 x.1) (dok:∀x∈ds,Sd ks (Y1 (ds.map (·.1))) (kvP x.1.2.1) x.1.2.2 5 x.2) (q:∀H',Same H H'->Q .non H'):SBK C CK H Q [.ref A.t]
def Qa(C CK:Addr):Sp:=λZ H Q _=>SBK C CK H Q Z
def SC(B:Blt S)(me:S "enumerate"=none)(TB:BCl K C)(F:Fun K "check_bodies" "Book.check_bodies" Mb f fd)(mH:V1 K C "names" g)(GH:Ym P w K S base CX0 n g gd ["self"] (XE C CK))(bH:Binds K gd ["self"] [])(DK:Df P w K S base n "kind_or_place" ["book","around","body"] (RW C CK 13)):Ym P w K S base CX0 (n+1) f fd ["self"] (Qa C CK):=by
 refine F.oi Jy λG4 A m s H vs Q E hr h=>?_;obtain⟨D,kv,ks,c,d,j,bd,kg,kk,k6,ho,J5,q⟩:=h;have hu:=Jz hr;refine⟨_,YY (Vy Zt Y (WP Y me (pa1<|Vh (pv 0) TB.cl mH GH hr bH .nil VQ)) (VI (n:=2) rfl (Yj (Yd 1 Jy.nd)<|Yj (Yd 2 Jy.nd) Y7))
   (YW (Vz (Ja hu (VE (pv 0) rfl) (pv 2) λ_ _=>rfl)<|VI (n:=3) rfl (Yj (Yd 3 Jy.nd)<|Yj (Yd 4 Jy.nd)<|Yj (Yd 5 Jy.nd) Y7))
   (YW (Vz (Yy DK hr<|pa3 (pv 0) (VM (W9 rfl) rfl B.dict WB (pa1<|pv 3))<|pv 5)<|VI (n:=2) rfl (Yj (Yd 6 Jy.nd)<|Yj (Yd 7 Jy.nd) Y7))
   (YW (Y2 (Yn Tj (pv 6) Vc<|Yu _) (YY Jf) Yr)
   (YY<|Y2 (Yn GQ (pv 6) (pv 4)<|Yu _) (YY Jf) Yr))))),?_⟩
 dsimp only[Vg,Cx.nox,Cx.wish];show let T0:=_;let T1:=Y9 _ T0 _;let T2:=_;let T3:=Yg (Y9 _ T2 _) T1;let T4:=Yg _ T3;let T5:=Yg _ T4;J6 _ _ T5 _ _ _
 intros
 show let T0:=_;let T1:=Y9 _ T0 _;let T2:=_;let T3:=Yg (Y9 _ T2 _) T1;let T4:=Yg _ T3;let T5:=Yg _ T4;J6 _ _ T5 _ _ _
 intros
 show let a:=_;let b:=Y9 _ a _;let c:=_;let d:=Yg (Y9 _ c _) b;let e:=Yg _ d;let f:=Yg _ e;J6 _ _ f _ _ _
 intros
 refine⟨_,_,bd.ins,zJ _,D.t,ks,d,j,Y,⟨D,kv,Y,bd⟩,λnl H1 s1 G2 R=>?_⟩;exists nl,false,_,Y,Z1 R
 let I:kL:=λi U T=>Same H1 T/\∃(z1 z2 z3 z4 z5 z6 z7:kO),U=[some (.ref D.t),z1,z2,z3,z4,z5,z6,z7]
 refine Gx (tp:=false) (xs:=j.map λx=>V.str x.1.1) I ⟨Z6 _,_,_,_,_,_,_,_,Y⟩ (λi U T _ z=>Z1<|z.1 _ _ R) ?_ ?_
 .rintro BB' RR i x U T r hx ⟨si,z1,z2,z3,z4,z5,z6,z7,rfl⟩ hr'
  rw[ZG]at hx
  cases hc:j[i]? with
  |none=>rw[hc]at hx;cases hx
  |some Z=>
   rw[hc]at hx;cases hx;have hm:=ZH hc;have o:=ho Z hm;have p:=J5 Z hm;refine up_in hr' _ λHR sR gR=>?_;have M:=bd.mono<|(s1.trans si).trans sR;obtain⟨v,e1,e2⟩:=M.at hm;obtain⟨ta,u,wv,rfl,J1,O,Z9⟩:=Tv e2;exists _,Z0 gR,Y;exists C,_,_,_,M.ins,TB.cl,TB.td,FY _,_,e1;exists _,Z0 J1,Y;unfold psD at O;obtain⟨l,xp,rfl,hl,N⟩:=Y5 O;obtain⟨tp,rfl,G⟩:=KA (K:=K) N;replace G:Eu K HR tp (kvP Z.1.2.1):=G;have G1:(kvP Z.1.2.1).length=Z.1.2.1.length:=ZA _;have J:=o.nd
   have Z8:((kvP Z.1.2.1).map (·.1)).Nodup:=by
    unfold kvP;rw[zf];unfold List.Nodup at J |-;rw[vm]at J |-;exact J.imp λJ2 q=>J2<|Sum.inr.inj q
   refine⟨l,tp,_,Y,hl,G,Z8,λaA J4=>?_⟩;refine up_in J4 _ λH3 t g3=>?_;have l3:=o.len;have G3:=p.dep;refine⟨D.t,aA,wv,ks,c,d,j,kvP Z.1.2.1,Z.2,Y,⟨D,kv,Y,M.mono t⟩,kk,λf ps k e=>?_,λq' hq=>?_,λy L=>(ho y L).len,.inl g3,by omega,Z9.mono t,p.ok,by omega,by omega,λr4 p4 H4 s4 X _=>?_⟩
   .obtain ⟨y,L,e'⟩:=ZU.mp<|Gw e
    have:=(ho y L).own;rw[e']at this;exact this
   .obtain ⟨pr,hpr,rfl⟩:=ZU.mp hq
    exact⟨pr.1,pr.2,Y,o.kin pr hpr⟩
   rw[AM kg (λz ts e=>(kk.at e).1) p]at X;replace X:H4 r4=some (.tup [.str Z.1.2.2,p4]):=X;exists _,Z0 X,Y;refine⟨Y,_,Y,Y0 (by simp) ?_⟩;refine⟨Y,_,Y,Y0 (by simp) ?_⟩;exact⟨((si.trans sR).trans t).trans s4,_,_,_,_,_,_,_,Y⟩
 .rintro U T ⟨si,_⟩
  exact q T<|s1.trans si
inductive SBN(C CK:Addr)(H:Hp)(Q:VK):List V->Prop
 |mk (x dx kl dl:Addr) (xs zs:List V) (ks:List (Str×Shp)) (c d:Str->Nat) (ds:List Dd) (hx:H x=some (.ins C dx [])) (hkl:H kl=some (.lst xs)) (hxs:HasL H xs (ks.map Vv)) (kS:XA ks c d) (hdl:H dl=some (.lst zs)) (hzs:HasL H zs (ds.map Jp)) (d0:0<ds.length) (d8:ds.length<=8) (wd:Wds 97 (ds.map λx=>x.1.1)) (ho:∀x∈ds,Ge (ks.map (·.1)) c 40 x.1) (dok:∀x∈ds,Sd ks (Y1 (ds.map (·.1))) (kvP x.1.2.1) x.1.2.2 5 x.2)
  (q:∀H',(∀b o,b≠x->H b=some o->H' b=some o)->BE H' C CK x ks c d ds->Q .non H'):SBN C CK H Q [.ref x,.ref kl,.ref dl]
def QZ(C CK:Addr):Sp:=λZ H Q _=>SBN C CK H Q Z
def SB(hm:m+1<=n)(L:BCl K C)(F:Fun K "__init__" "Book.__init__" Bw f fd)(R4:Mk K CK gi)(mC:a "Kinds"=some (.ref CK))(GI:Ym P w K a base CX0 m gi J1 ["self","told"] (BW CK))(bI:Binds K J1 ["self","told"] [])(m1:V1 K C "take_heads" g1)(G1:Ym P w K a base CX0 n g1 d1 ["self","definitions"] (IY C CK))(b1:Binds K d1 ["self","definitions"] [])(m2:V1 K C "check_bodies" g2)(G2:Ym P w K a base CX0 n g2 d2 ["self"] (Qa C CK))(b2:Binds K d2 ["self"] []):
  Ym P w K a base CX0 (n+1) f fd ["self","kinds","definitions"] (QZ C CK):=by
 refine F.oi OS λR7 A Z8 s H vs Q E hr h=>?_;obtain⟨x,J,kl,dl,xs,zs,S,c,d,ds,hx,G4,J4,kS,L1,J2,d0,d8,wd,ho,M2,q⟩:=h;obtain⟨kk,nd,kg,k0,k6,_,_,_⟩:=id kS;have G3:VW (m+1) _:=hr.mono hm;refine⟨_,YW (Jj (pv 0) (Me R4 GI G3 Y mC bI .nil VQ (pa1<|pv 1)) rfl)
  (YW (Jj (pv 0) JE rfl) (YW (Jj (pv 0) JE rfl) (YW (Jj (pv 0) JE rfl)
  (YW (VF<|Vd (pv 0) L.cl m1 G1 hr b1 .nil VQ<|pa1<|pv 2)
  (YY<|VF<|Vh (pv 0) L.cl m2 G2 hr b2 .nil VQ))))),?_⟩
 dsimp only[Vg,Cx.nox,Cx.wish];show let T0:=_;let T1:=Yg _ T0;let T2:=Yg _ T1;let T3:=Yg _ T2;let T4:=Yg _ T3;Yg _ T4 _ _ _
 intros
 show let T0:=_;let T1:=Yg _ T0;let T2:=Yg _ T1;let T3:=Yg _ T2;let T4:=Yg _ T3;Yg _ T4 _ _ _
 intros
 refine λt O ht G5 R6=>?_;have tx:upd (upd H O<|.own t) t (.ins CK O []) t=some (.ins CK O []):=YZ;have r:Same H (upd (upd H O<|.own t) t<|.ins CK O []):=λb o e=>by rw[Yc (Yk e ht),Yc (Yk e G5)];exact e
 generalize upd (upd H O<|.own t) t (.ins CK O [])=H7 at tx r |-;have R5:x≠t:=Yk hx ht;refine⟨t,O,kl,xs,S,c,d,Y,tx,r _ _ G4,J4.mono r,kk,nd,kg,k0,k6,λZ f8 Z9=>⟨Y,?_⟩⟩;have s8:Same H Z:=λb o e=>f8 b o (Yk e ht)<|r b o e;have x8:=s8 _ _ hx;refine⟨x,C,J,_,Y,x8,L.cl,L.so,by decide,?_⟩;have k:upd Z x (.ins C J<|VG "sorts" (.ref t) []) x=some (.ins C J<|VG "sorts" (.ref t) []):=YZ;have l:∀b o,b≠x->Z b=some o->upd Z x (.ins C J<|VG "sorts" (.ref t) []) b=some o:=λb o n e=>by rw[Yc n];exact e
 generalize upd Z x (.ins C J<|VG "sorts" (.ref t) [])=H9 at k l |-;intro I T;refine⟨x,C,J,_,Y,by rw[Yc (Yk k T)];exact k,L.cl,L.td,(by show 1<1000;decide),?_⟩;obtain⟨v,a1,n1,r1⟩:=JP (f:="told") (o:=.dK []) k T;generalize upd (upd H9 I<|.dK []) x (.ins C J<|VG "told" (.ref I)<|VG "sorts" (.ref t) [])=H1 at v a1 r1 |-;intro U N;refine⟨x,C,J,_,Y,by rw[Yc (Yk v N)];exact v,L.cl,L.rd,(by show 2<1000;decide),?_⟩;obtain⟨u,a2,n2,r2⟩:=JP (f:="rows") (o:=.dK []) v N;generalize upd (upd H1 U<|.dK []) x (.ins C J<|VG "rows" (.ref U)<|VG "told" (.ref I)<|VG "sorts" (.ref t) [])=H2 at u a2 r2 |-;intro p3 X;refine⟨x,C,J,_,Y,by rw[Yc (Yk u X)];exact u,L.cl,L.tn,(by show 3<1000;decide),?_⟩;obtain⟨x3,a3,n3,i⟩:=JP (f:="turns") (o:=.dK []) u X;generalize upd (upd H2 p3<|.dK []) x (.ins C J<|VG "turns" (.ref p3)<|VG "rows" (.ref U)<|VG "told" (.ref I)<|VG "sorts" (.ref t) [])=H3 at x3 a3 i |-
 let R:BA:=⟨x,J,t,I,U,p3⟩
 have M:∀{b:Addr}{o:HO},WS Z x b=some o->b≠x/\Z b=some o:=λ{b o} h=>by
  unfold WS at h
  by_cases e:b=x
  .rw [Zn e]at h;cases h
  .rw [Zo e]at h;exact⟨e,h⟩
 have fr:∀b o,b≠x->Z b=some o->H3 b=some o:=λb o n e=>i b o n<|r2 b o n<|r1 b o n<|l b o n e;have sm:Same (WS Z x) H3:=λb o h=>fr b o (M h).1 (M h).2
 have free:∀p:Addr,(∀o,p≠x->Z p=some o->False)->WS Z x p=none:=λp h=>by
  cases e:WS Z x p with
  |none=>rfl
  |some o=>exact(h o (M e).1 (M e).2).elim
 have R3:=r2 _ _ n1 a1;have R1:=i _ _ n1 R3;have N2:=i _ _ n2 a2;have bb:BB (WS Z x) H3 C CK R S d:=⟨x3,sm,Z9.out x8,free I λo n e=>(by have:=l _ _ n e;rw[T]at this;cases this),free U λo n e=>(by have:=r1 _ _ n<|l _ _ n e;rw[N]at this;cases this),Yk a1 N,Zq n1,Zq n2⟩;have bt:BT H3 R [] [] S []:=⟨R1,N2,rfl,Z4,(λy hy=>nomatch hy),ZF _⟩;have B:∀{b:Addr}{o:HO},H b=some o->o≠.ins C J []->WS Z x b=some o:=λ{b o} h n=>B8 (V8 h hx n)<|s8 _ _ h;have tl:TL H (WS Z x):=⟨λb xs h=>B h (by intro z;cases z),λb xs h=>B h (by intro z;cases z)⟩;refine⟨_,_,x3,zH R,WS Z x,R,dl,zs,S,c,d,ds,Y,bb,bt,kk,k6,B L1 (by intro z;cases z),HasL.tl tl _ J2,d0,d8,wd,ho,λH4 kv rv G D=>?_⟩;have j:BD H4 C CK R kv S d ds:=⟨G.ins,G.so.mono G.sm,D.td,D.ke,D.va,wd.nd⟩;refine⟨_,_,G.ins,zL R,R,kv,S,c,d,ds,j,kg,kk,k6,ho,M2,λH5 s5=>?_⟩;exact q H5 (λb o n e=>s5 _ _<|G.sm _ _<|B8 n<|s8 _ _ e) ⟨⟨R,kv,rfl,j.mono s5⟩,kk,LF ho,λx' J5=>(ho x' J5).len,k6⟩
end
end K4
namespace L2
open PySem
theorem HasL.take9:∀{J:kP}{Z:kK}(n:Nat),HasL H Z J->HasL H (Z.take n) (J.take n)
 |_,_,0,h=>Z4
 |[],[],n+1,h=>h
 |[],_::_,_+1,h=>by unfold HasL at h;exact h.elim
 |_::_,[],_+1,h=>by unfold HasL at h;exact h.elim
 |d::J,x::Z,n+1,h=>by unfold HasL at h;exact Z2 h.1<|HasL.take9 n h.2
def LG{Z:List Hd}(h:r∉Z.map (·.1)):Y1 Z r=none:=by
 unfold Y1;rw[vO.mpr λx m z=>h (ZU.mpr ⟨x,m,Zr z⟩)];rfl
def Bd.dat_tag(t:Str):(Bd.tag t).dat=.tup [.str "tag",.str t]:=by unfold Bd.dat;rfl
def X6(o:Option Str):Dat:=(o.map Dat.str).getD .non
theorem EL:∀(J:List (Option Str))(Z:ky),Dat.pqs (J.map X6) (Z.map Dat.str)=decide (J=Z.map some)
 |[],[]=>by unfold List.map Dat.pqs;rfl
 |[],w::ws=>by unfold List.map Dat.pqs;rfl
 |z::Z,[]=>by unfold List.map Dat.pqs;rfl
 |z::Z,w::ws=>by
  rw[ZT,ZT,ZT];unfold Dat.pqs;rw[EL Z ws,yx];cases z <;> simp[X6,Dat.pq]
theorem Nf:∀Z:List (Option Str),Dat.deps (Z.map X6)=0
 |[]=>by unfold List.map Dat.deps;rfl
 |o::Z=>by rw[ZT];unfold Dat.deps;rw[Nf Z];cases o <;> (simp[X6];unfold Dat.dep;rfl)
def Og(Z:List (Option Str)):(Dat.lst<|Z.map X6).dep<=1:=by unfold Dat.dep;rw[Nf];decide
def Q0(J:List (Option Str))(Z:ky):(Dat.lst<|J.map X6).pq (.lst<|Z.map Dat.str)=decide (J=Z.map some):=by unfold Dat.pq;exact EL J Z
theorem CJ:∀{ns:List Bool}{Z:kK},HasL H Z (ns.map Dat.bl)->Z=ns.map V.bl
 |[],Z,h=>VS h
 |n::ns,Z,h=>by
  obtain⟨x,r,rfl,J,G⟩:=Yh h;unfold Has at J;rw[J,CJ G];rfl
end L2
namespace L2
open PySem PySem.Spec PyProof.Rows
section
variable{X:Cx}{es:kX}{t:TA}{pos:Pos}
def AE(K:W.Frag)(t:TA):TE:=λU H Q=>t U H λZ J=>Z.length<=sizeLine/\∀p,J p=none->K.lookup p=none->Q (.ref p) (upd J p<|.lst Z)
def Ob(h:PA X es t):PE X (.List es pos) (AE X.K t):=by
 intro J s U H Q I O;refine wpAny_List_spliced<|thn (h pos J s U H _ I O) λN Z ⟨M,L,G,r,z,q⟩=>⟨by rw[<-r.length];exact z,?_⟩;have T:L Z.heap.objs.size=none:=G.hok.fresh<|ZF _
 have R:X.K.lookup Z.heap.objs.size=none:=by
  cases e:X.K.lookup Z.heap.objs.size with
  |none=>rfl
  |some o=>exact Zp (ZN<|G.kIn _ o e)<|zX _
 refine⟨.ref Z.heap.objs.size,upd L Z.heap.objs.size<|.lst M,G.laid (t':=Z.toks) (λb u e=>ZD _ e) (ZF _) ?_,rfl,q _ T R⟩;exact⟨z,N,0,r,ZW _ Y⟩
end
def Pen.new{K:W.Frag}{J:kE}(G:SqL K H a (J.map V.int))(Z:H p=none)(L:K.lookup p=none):Pen K a (upd H p<|.lst [.ref a,.int (0:Nat),.int (0:Nat)]) p:=by
 have n:a≠p:=by
  rintro rfl;rcases G with(h|⟨o,h⟩)|⟨o,its,n,h,_⟩
  .rw [Z]at h;cases h
  .rw [Z]at h;cases h
  .rw [L]at h;cases h
 exact⟨J,0,0,(Ye Z _).seq G,YZ,n⟩
def AZ{P:Program}{w:World}{X:Cx}:Je (CX1 P w) X (λ_ _ _=>False):=λ_ _ _ _ _ _ _ h=>by
 obtain⟨_,_,_,_,_,_,_,_,_,_,z⟩:=h;exact z.elim
end L2
namespace L2
open PySem
theorem HasL.set:∀{J:kP}{Z:kK}{i:Nat},HasL H Z J->Has H v d->HasL H (Z.set i v) (J.set i d)
 |[],Z,i,h,hv=>by obtain rfl:=VS h;exact Z4
 |e::J,Z,0,h,hv=>by obtain⟨x,r,rfl,L,G⟩:=Yh h;exact Z2 hv G
 |e::J,Z,i+1,h,hv=>by obtain⟨x,r,rfl,L,G⟩:=Yh h;exact Z2 L<|HasL.set G hv
end L2
namespace K4
open PySem L2
def Tt{n j:Nat}(h:j<n):ixN n (j:Int)=some j:=by
 unfold ixN;rw[Zn (by omega),Zn (by omega)]
 rfl
end K4
namespace L2
open PySem
inductive Td where
 |tg (k:Str) (w:Option Str)|ak (f:Str) (ns:List Str)
def Td.dat:Td->Dat
 |.tg k w=>.tup [.str "tag",.str k,X6 w]
 |.ak f ns=>.tup [.str "ask",.str f,.tup (ns.map Dat.str)]
mutual
def Dat.tn:Dat->Bool
 |.str _=>true
 |.non=>true
 |.tup ds=>Dat.tns ds
 |_=>false
def Dat.tns:List Dat->Bool
 |[]=>true
 |d::ds=>d.tn && Dat.tns ds
end
mutual
theorem Jd{H Z:Hp}(b:TK H Z):∀(d:Dat){v:V},d.tn=true->Has H v d->Has Z v d
 |.str _,_,_,h=>by unfold Has at h |-;exact h
 |.non,_,_,h=>by unfold Has at h |-;exact h
 |.tup ds,_,t,h=>by
  unfold Has at h |-;obtain⟨a,J,M,L,G⟩:=h;unfold Dat.tn at t;exact⟨a,J,M,b _ _ L,JL b ds t G⟩
 |.bl _,_,t,_=>by unfold Dat.tn at t;cases t
 |.int _,_,t,_=>by unfold Dat.tn at t;cases t
 |.lst _,_,t,_=>by unfold Dat.tn at t;cases t
theorem JL{H L:Hp}(b:TK H L):∀(Z:kP){J:kK},Dat.tns Z=true->HasL H J Z->HasL L J Z
 |[],[],_,h=>Z4
 |[],_::_,_,h=>by unfold HasL at h;exact h.elim
 |_::_,[],_,h=>by unfold HasL at h;exact h.elim
 |d::Z,x::J,t,h=>by
  unfold HasL at h;unfold Dat.tns at t;have G:=zx.mp t;exact Z2 (Jd b d G.1 h.1)<|JL b Z G.2 h.2
end
mutual
theorem Dat.ni_tn:∀{d:Dat},d.tn=true->d.ni=true
 |.str _,_=>by unfold Dat.ni;rfl
 |.non,_=>by unfold Dat.ni;rfl
 |.tup ds,t=>by
  unfold Dat.tn at t;unfold Dat.ni;exact Dat.nis_tn t
 |.bl _,t=>by unfold Dat.tn at t;cases t
 |.int _,t=>by unfold Dat.tn at t;cases t
 |.lst _,t=>by unfold Dat.tn at t;cases t
theorem Dat.nis_tn:∀{Z:kP},Dat.tns Z=true->Dat.nis Z=true
 |[],_=>by unfold Dat.nis;rfl
 |d::Z,t=>by
  unfold Dat.tns at t;have J:=zx.mp t;unfold Dat.nis;rw[Dat.ni_tn J.1,Dat.nis_tn J.2];rfl
end
theorem Vp{α:Type}{f:α->Dat}(h:∀a,(f a).tn=true):∀l:List α,Dat.tns (l.map f)=true
 |[]=>by unfold List.map Dat.tns;rfl
 |a::l=>by rw[ZT];unfold Dat.tns;rw[h a,Vp h l];rfl
def Oh(o:Option Str):(X6 o).tn=true:=by cases o <;> (show Dat.tn _=true;unfold Dat.tn;rfl)
def Td.tn(t:Td):t.dat.tn=true:=by
 cases t with
 |tg k w=>unfold Td.dat;simp[Dat.tn,Dat.tns,Oh]
 |ak f Z=>unfold Td.dat;simp[Dat.tn,Dat.tns,Vp (f:=Dat.str) (λa=>by unfold Dat.tn;rfl) Z]
abbrev Ce:=Str×Td
def ceD(x:Ce):Dat:=.tup [.str x.1,x.2.dat]
def V5(x:Ce):(ceD x).tn=true:=by unfold ceD;simp[Dat.tn,Dat.tns,Td.tn]
def tgs(ks:kQ)(y:Str):ky:=match VX ks y with|some (.tags ts)=>ts|_=>[]
def wB(ts:ky):Option Str->Bool
 |none=>true
 |some t=>decide<|t∈ts
def tdB(ks:kQ)(hd:Hds):Td->Bool
 |.tg k w=>kT ks k && wB (tgs ks k) w
 |.ak f ns=>match hd f with
  |none=>false
  |some (ps,y)=>decide (ns.length=ps.length) && (y::ps.map (·.2)).all (kT ks)
def tdK(hd:Hds):Td->Str
 |.tg k _=>k
 |.ak f _=>match hd f with
  |none=>""
  |some (_,y)=>y
def G6:tdB Z J (.tg k w)=(kT Z k && wB (tgs Z k) w):=rfl
def Xx(e:Z f=none):tdB G Z (.ak f J)=false:=by simp only[tdB,e]
def Xy(e:G f=some (ps,y)):tdB J G (.ak f Z)=(decide (Z.length=ps.length) && (y::ps.map (·.2)).all (kT J)):=by simp only[tdB,e]
def BO(e:Z f=some (ps,y)):tdK Z (.ak f J)=y:=by simp only[tdK,e]
def Tw(h:Has H v (Td.tg k w).dat):∃t,v=.ref t/\H t=some (.tup [.str "tag",.str k,UD w]):=by
 unfold Td.dat at h;obtain⟨t,B,rfl,N,O⟩:=Y5 h;obtain⟨E,I,rfl,T,L⟩:=Yh O;obtain⟨D,A,rfl,R,G⟩:=Yh L;obtain⟨M,F,rfl,Z,J⟩:=Yh G;obtain rfl:=VS J;obtain rfl:=has_str T;obtain rfl:=has_str R
 have e:M=UD w:=by
  cases w with
  |none=>unfold X6 at Z;unfold Has at Z;exact Z
  |some t=>exact has_str Z
 exact⟨t,Y,by rw[N,e]⟩
def Tx(h:Has H v (Td.ak f L).dat):∃t a,v=.ref t/\H t=some (.tup [.str "ask",.str f,.ref a])/\H a=some (.tup<|L.map V.str):=by
 unfold Td.dat at h;obtain⟨t,E,rfl,N,O⟩:=Y5 h;obtain⟨S,X,rfl,D,G⟩:=Yh O;obtain⟨I,C,rfl,B,J⟩:=Yh G;obtain⟨A,U,rfl,T,Z⟩:=Yh J;obtain rfl:=VS Z;obtain rfl:=has_str D;obtain rfl:=has_str B;obtain⟨a,F,rfl,R,M⟩:=Y5 T;obtain rfl:=XU M;exact⟨t,a,Y,N,R⟩
def Nv{Z:List Dd}(h:Y1 (Z.map (·.1)) f=some (J,y)):∃x∈Z,x.1=(f,J,y):=ZU.mp<|Gw h
def P6{J:List Dd}(G:(J.map λx=>x.1.1).Nodup):f∈(J.map λx=>x.1.1)↔∃p,Y1 (J.map (·.1)) f=some p:=by
 constructor
 .intro m
  obtain⟨x,Z,rfl⟩:=ZU.mp m;exact⟨_,XS (by rw[zf];exact G)<|ZU.mpr ⟨x,Z,rfl⟩⟩
 .rintro ⟨⟨ps,y⟩,e⟩
  obtain⟨x,Z,L⟩:=Nv e;exact ZU.mpr ⟨x,Z,by rw[L]⟩
end L2
namespace K4
open PySem L2
section
variable{C CK:Addr}
def Pw:Yq ["self","kind","thing","shape"] ["self","kind","thing"] (Yb TY):=Y6
inductive SIW(CK:Addr)(H:Hp)(Q:VK):List V->Prop
 |mk (t:Addr) (y:Str) (ks:List (Str×Shp)) (d:Str->Nat) (w:Option Str) (ki:KI H CK t ks d) (hk:kT ks y=true) (q:Q (.bl (wB (tgs ks y) w)) H):SIW CK H Q [.ref t,.str y,UD w]
def QX(CK:Addr):Sp:=λZ H Q _=>SIW CK H Q Z
def Ak(B:Blt I)(T:KCl K CK)(F:Fun K "is_worth" "Kinds.is_worth" TY f c):Ym P w K I base CX0 (n+1) f c ["self","kind","thing"] (QX CK):=by
 refine F.oi Pw λr A G s H vs Q E g h=>?_;obtain⟨t,y,U,d,R,z,Z,q⟩:=h;have m:=Jz g;refine⟨_,YW (Y2 (Yn Tj (pv 2) Vc<|Yu _) (YY<|Ys U8) Yr)
  (YW (Yp 3 Pw.nd<|Ja m (VE (pv 0) rfl) (pv 1) λ_ _=>rfl)
  (YW (Y2 (Yn Vk (Yf Yl (pv 3) YX) Y3<|Yu _) (YY<|Ys<|X4 (Wu rfl B.isi rfl B.str GD (pv 2))<|X3<|UC Uo (pv 2) (Yf Yl (pv 3) YX) rfl) Yr)
  Ws)),?_⟩
 dsimp only[Vg,Cx.nox,Cx.wish];show let T0:=_;let i:=Yg (Y9 _ T0 _) _;let o:=Yg _ i;let l:=_;Yg (Y9 _ l _) o _ _ _
 intros
 cases R with
 |none=>exact⟨Y,_,Y,VH (by simp[UD]) q⟩
 |some x=>
  refine⟨Y,_,Y,Y0 (by simp[UD]) ?_⟩;obtain⟨A',S,rfl,N,X⟩:=z;unfold kT at Z
  cases e:VX U y with
  |none=>rw[e]at Z;cases Z
  |some D=>
   cases D with
   |pair a b=>rw[e]at Z;cases Z
   |tags J=>
    obtain⟨v,p,k⟩:=RX N X e;obtain⟨b,M,rfl,O,L⟩:=J0 k;exists CK,_,_,_,N.ins,T.cl,T.sh,N1 _,_,p;refine⟨_,.str "tags",Z0 O,Ya (j:=0) Y,Y,_,Y,VH (by decide +kernel) ?_⟩;refine⟨_,_,_,_,Y,.str x,XQ K "str",_,Y,VH Y ?_⟩;exists _,.ref M,Z0 O,Ya (j:=1) Y,M,_,Y,.inr<|Z0 L,rfl,JG _;have u:inV (UD<|some x) (J.map V.str)=decide (x∈J):=JZ x J;rw[u];unfold tgs at q;rw[e]at q;exact q
def Cz:Yq ["book","f"] ["book","f"] (Yb XF):=Y6
def Ku:List.Nodup [("name":Str),"kind"]:=by decide +kernel
inductive SKA(C CK:Addr)(H:Hp)(Q:VK):List V->Prop
 |mk (t:Addr) (f:Str) (ps:List (Str×Str)) (y:Str) (ks:List (Str×Shp)) (c d:Str->Nat) (ds:List Dd) (be:BE H C CK t ks c d ds) (hf:Y1 (ds.map (·.1)) f=some (ps,y)) (q:∀l H',H l=none->Same H H'->H' l=some (.lst ((ps.map (·.2)).map V.str))->Q (.ref l) H'):SKA C CK H Q [.ref t,.str f]
def OC(C CK:Addr):Sp:=λZ H Q _=>SKA C CK H Q Z
def Aj(TB:BCl K C)(F:Fun K "kinds_asked" "kinds_asked" XF f fd)(U:V1 K C "parameters" e)(G1:Ym P w K S base CX0 n e d1 ["self","F"] (G8 C CK))(b1:Binds K d1 ["self","F"] []):Ym P w K S base CX0 (n+1) f fd ["book","f"] (OC C CK):=by
 refine F.oi Cz λZ8 A J s H B Q E k h=>?_;obtain⟨t,i,Z,y,z,c,d,ds,M,b,q⟩:=h;exists _,YY<|Ys<|Vq ["name","kind"] [] (Js<|Vd (pv 0) TB.cl U G1 k b1 .nil VQ<|pa1<|pv 1) WA (λcl C o s H=>VI (n:=2) rfl (Yj (Yd 0 Ku rfl (Or.inl rfl) (Or.inr rfl))<|Yj (Yd 1 Ku rfl (Or.inl rfl) (Or.inr rfl)) Y7)) λcl C o s H=>pv 1;dsimp only[Vg,Cx.nox,Cx.wish];obtain⟨x,N,ex⟩:=Nv b;have X:=M.pl x N;obtain⟨xh,T⟩:=x;cases ex;obtain⟨AB,j,eB,bd⟩:=id M.bi;refine⟨_,_,by rw[<-eB];exact bd.ins,Y,t,z,d,ds,((i,Z,y),T),Y,M.bi,N,λv m=>?_⟩;obtain⟨a,xs,rfl,O,G⟩:=Y5 (show Has H v (.tup<|Z.map prD)from m);exists ⟨_,Z0 O⟩;refine Uq (us:=Z) (D:=prD) (E:=λp=>.str p.2) (itt<|Z0 O) G (by show Z.length<=10000;have:Z.length<=3:=X;omega) (λu x R hm g I=>?_) λB l H' fl s r L=>?_
 .obtain ⟨t',rfl,ht⟩:=W5 g
  exact⟨_,Z0 ht,Y,I _ Yz⟩
 .obtain rfl:=XU (ns:=Z.map (·.2)) (by rw[zf];exact L)
  exact q l H' fl s r
def AO:Yq ["book","told"] ["book","told"] (Yb Wq):=Y6
inductive Ca(C CK:Addr)(H:Hp)(Q:VK):List V->Prop
 |mk (t:Addr) (v:V) (td:Td) (ks:List (Str×Shp)) (c d:Str->Nat) (ds:List Dd) (be:BE H C CK t ks c d ds) (hv:Has H v td.dat) (ok:tdB ks (Y1 (ds.map (·.1))) td=true) (q:Q (.str (tdK (Y1 (ds.map (·.1))) td)) H):Ca C CK H Q [.ref t,v]
def IW(C CK:Addr):Sp:=λZ H Q _=>Ca C CK H Q Z
def Q8(TB:BCl K C)(F:Fun K "kind_told" "kind_told" Wq f g)(I:V1 K C "kind_of" m)(G1:Ym P w K D base CX0 n m l ["self","F"] (WJ C CK))(x:Binds K l ["self","F"] []):Ym P w K D base CX0 (n+1) f g ["book","told"] (IW C CK):=by
 refine F.oi AO λo A J s H vs Q E z h=>?_;obtain⟨t,v,T,U,c,d,N,O,M,L,q⟩:=h;refine⟨_,YW (Y2 (Yn Vk (Yf Yl (pv 1) YX) Y3<|Yu _) (YY<|Ys<|Yf Yl (pv 1) YX) Yr)
  (YY<|Ys<|Vd (pv 0) TB.cl I G1 z x .nil VQ<|pa1<|Yf Yl (pv 1) YX),?_⟩
 dsimp only[Vg,Cx.nox,Cx.wish];show let T0:=_;let T1:=_;Yg (Y9 _ T1 _) T0 _ _ _
 intros
 cases T with
 |tg k w'=>
  obtain⟨a,rfl,Z⟩:=Tw M;exact⟨_,.str "tag",Z0 Z,Ya (j:=0) Y,Y,_,Y,VH (by decide +kernel) ⟨_,.str k,Z0 Z,Ya (j:=1) Y,q⟩⟩
 |ak G ns=>
  obtain⟨a,b,rfl,Z,hb⟩:=Tx M;refine⟨_,.str "ask",Z0 Z,Ya (j:=0) Y,Y,_,Y,Y0 (by decide +kernel) ?_⟩;obtain⟨AB,S,r,i⟩:=id O.bi
  cases e:Y1 (N.map (·.1)) G with
  |none=>rw[Xx e]at L;cases L
  |some p=>
   obtain⟨B,y⟩:=p;rw[BO e]at q;obtain⟨⟨xh,R⟩,X,u⟩:=Nv e;cases u;exact⟨_,_,by rw[<-r];exact i.ins,Y,_,.str G,Z0 Z,Ya (j:=1) Y,t,U,d,N,((G,B,y),R),Y,O.bi,X,q⟩
def TN:Yq ["book","told","kinds","word","f","names"] ["book","told"] (Yb MX):=Y6
def SQ:List.Nodup [("kind":Str),"kinds"]:=by decide +kernel
inductive STd(C CK:Addr)(H:Hp)(Q:VK):List V->Prop
 |mk (t:Addr) (v:V) (td:Td) (ks:List (Str×Shp)) (c d:Str->Nat) (ds:List Dd) (be:BE H C CK t ks c d ds) (hv:Has H v td.dat) (q:∀H',Same H H'->Q (.bl (tdB ks (Y1 (ds.map (·.1))) td)) H'):STd C CK H Q [.ref t,v]
def QS(C CK:Addr):Sp:=λZ H Q _=>STd C CK H Q Z
def Ab(B:Blt N)(TB:BCl K C)(TC:KCl K CK)(F:Fun K "is_told" "is_told" MX f fd)(m1:V1 K C "kinds" g1)(G1:Ym P w K N base CX0 n g1 d1 ["self"] (Jg C CK))(b1:Binds K d1 ["self"] [])(m2:V1 K CK "is_worth" g2)(G2:Ym P w K N base CX0 n g2 d2 ["self","kind","thing"] (QX CK))(b2:Binds K d2 ["self","kind","thing"] [])(m3:V1 K C "names" g3)(G3:Ym P w K N base CX0 n g3 d3 ["self"] (XE C CK))(b3:Binds K d3 ["self"] [])(m4:V1 K C "parameters" g4)(G4:Ym P w K N base CX0 n g4 d4 ["self","F"] (G8 C CK))(b4:Binds K d4 ["self","F"] [])(m5:V1 K C "kind_of" o)(G5:Ym P w K N base CX0 n o d5 ["self","F"] (WJ C CK))(b5:Binds K d5 ["self","F"] [])(DO:Df P w K N base n "is_of_tags" ["kinds","kind"] (IV CK))(DA:Df P w K N base n "kinds_asked" ["book","f"] (OC C CK)):Ym P w K N base CX0 (n+1) f fd ["book","told"] (QS C CK):=by
 refine F.oi TN λR5 A Z8 s H vs Q E O h=>?_;obtain⟨t,v,td,J,c,d,L,r,hv,q⟩:=h;refine⟨_,YW (Yp 2 TN.nd (Vh (pv 0) TB.cl m1 G1 O b1 .nil VQ) (hx:=Or.inr Y))
  (YW (Y2 (Yn Vk (Yf Yl (pv 1) YX) Y3<|Yu _) (YY<|Ys<|X4 (Yy DO O<|pa2 (pv 2)<|Yf Yl (pv 1) YX)<|X3<|Vd (pv 2) TC.cl m2 G2 O b2 .nil VQ<|pa2 (Yf Yl (pv 1) YX)<|Yf Yl (pv 1) YX) Yr)
  (YW (Vz (pv 1)<|VI (n:=3) rfl (Yj (Yd 3 TN.nd)<|Yj (Yd 4 TN.nd)<|Yj (Yd 5 TN.nd) Y7))
  (YW (Y2 (PW.pt<|Jq (Yn JU (pv 4) (Vh (pv 0) TB.cl m3 G3 O b3 .nil VQ) rfl)<|Jc<|Yn GQ (Yt Yo rfl B.len Zs (pa1<|pv 5)) (Yt Yo rfl B.len Zs (pa1<|Vd (pv 0) TB.cl m4 G4 O b4 .nil VQ<|pa1<|pv 4))<|Yu _) (YY<|Ys U8) Yr)
  (YY<|Ys<|Yt (BC rfl) rfl B.all Rl (pa1<|Vq ["kind"] [2] (VL<|Y4 Mi (Vf<|pa1<|Vd (pv 0) TB.cl m5 G5 O b5 .nil VQ<|pa1<|pv 4)<|Yy DA O<|pa2 (pv 0)<|pv 4) (VP (i:=0)<|by decide) (λcl C fp s H=>Yd 0 SQ rfl (Or.inl rfl) (Or.inr rfl)) λcl C fp s H=>Yy DO O<|pa2 (pv 1)<|pv 0))))),?_⟩
 dsimp only[Vg,Cx.nox,Cx.wish];show let T0:=_;let T1:=_;let T2:=Yg (Y9 _ T1 _) T0;let T3:=Yg _ T2;let T4:=_;let T5:=Yg (Y9 _ T4 _) T3;Yg _ T5 _ _ _
 intros
 obtain⟨AB,R3,eB,bd⟩:=id r.bi;refine⟨_,_,by rw[<-eB];exact bd.ins,Y,t,J,d,L,Y,r.bi,λso ki=>?_⟩
 cases td with
 |tg k w'=>
  obtain⟨a,rfl,I⟩:=Tw hv;refine⟨_,.str "tag",Z0 I,Ya (j:=0) Y,Y,_,Y,VH (by decide +kernel) ?_⟩;refine⟨_,.str k,Z0 I,Ya (j:=1) Y,so,k,J,d,ki,λH1 Z=>⟨_,Y,?_⟩⟩;rw[G6]at q
  cases e:kT J k with
  |false=>
   rw[e]at q;exact Y0 Zg<|q _ Z
  |true=>
   rw[e]at q;have X:=ki.mono Z;obtain⟨AK,SK,e1,kd,kr⟩:=id X;refine VH Y ⟨_,_,by rw[<-e1];exact kd.ins,Y,_,.str k,Z0<|Z _ _ I,Ya (j:=1) rfl,_,UD w',Z0<|Z _ _ I,Ya (j:=2) rfl,so,k,J,d,w',X,e,?_⟩;have:=q _ Z;rw[jp]at this;exact this
 |ak S ns=>
  obtain⟨a,b,rfl,I,hb⟩:=Tx hv;refine⟨_,.str "ask",Z0 I,Ya (j:=0) Y,Y,_,Y,Y0 (by decide +kernel) ?_⟩;exists _,Z0 I,Y;refine⟨_,_,by rw[<-eB];exact bd.ins,Y,t,J,d,L,Y,r.bi,λnl H1 Z R4 M2=>?_⟩;have g:H1 nl=some (.lst<|(L.map λx=>x.1.1).map V.str):=by rw[M2,zf];rfl
  exists nl,_,Y,.inl<|Z1 g,rfl,JG _,_,rfl;rw[JZ]
  cases e:Y1 (L.map (·.1)) S with
  |none=>
   rw[Xx e]at q;have nm:S∉L.map λx=>x.1.1:=λm=>by obtain⟨p,e'⟩:=(P6 bd.nd).mp m;rw[e]at e';cases e'
   exact VH (by simpa using nm)<|q _ Z
  |some p=>
   obtain⟨G,y⟩:=p;rw[Xy e]at q;have nm:S∈L.map λx=>x.1.1:=(P6 bd.nd).mpr ⟨_,e⟩;refine Y0 (by simpa using nm) ?_;obtain⟨⟨xh,xb⟩,hx,ex⟩:=Nv e;cases ex;have l3:G.length<=3:=r.pl _ hx;have M:=r.mono Z;obtain⟨R6,R1,u,l⟩:=id M.bi;refine⟨b,_,Y,.inr<|Z0<|Z _ _ hb,_,_,by rw[<-u];exact l.ins,Y,t,J,d,L,((S,G,y),xb),Y,M.bi,hx,λv J2=>?_⟩;obtain⟨pa,px,rfl,L1,J5⟩:=Y5 (show Has H1 v (.tup<|G.map prD)from J2);have T:=J5.length;rw[ZA]at T;exists pa,_,Y,.inr<|Z0 L1,rfl,_,rfl
   by_cases cl:ns.length=G.length
   case neg=>
    rw[Zw cl,Bool.false_and]at q;refine VH ?_<|q _ Z;rw[ZA,T];simp;omega
   rw[decide_eq_true cl,jp]at q;refine Y0 (by rw[ZA,T];simp;omega) ?_;refine⟨_,_,by rw[<-u];exact l.ins,Y,t,J,d,L,((S,G,y),xb),Y,M.bi,hx,sl 1,λl2 N2=>?_⟩;refine up_in N2 _ λH2 s2 g2=>?_;refine⟨t,S,G,y,J,c,d,L,M.mono s2,e,λZ9 H3 f3 s3 g3=>?_⟩;refine⟨l2,Z9,_,_,Y,Y,s3 _ _ g2,g3,Zf (Yi (by rw[ZA,ZA];show 1+_<=1000;omega)),λl5 h5=>?_⟩;refine up_in h5 _ λH5 s5 o=>?_;have U:=((Z.trans s2).trans s3).trans s5;exists ⟨_,Z1 o⟩;refine N5 (us:=y::G.map (·.2)) (D:=Dat.str) (F:=λy=>.bl<|kT J y) (λH' s=>itl<|Z1<|s _ _ o) (VT (y::G.map (·.2))) (by rw[Zd,ZA];omega) (λz x H6 R hm s6 hx hR=>?_) λvs q1 H6 fq s6 J4 J1=>?_
   .obtain rfl:=has_str hx
    exact⟨so,z,J,d,(ki.mono U).mono s6,λH7 s7=>hR _ _ s7 (by unfold Has;rfl)⟩
   .obtain rfl:=CJ (ns:=(y::G.map (·.2)).map<|kT J) (by rw[zf];exact J1)
    exists q1,_,Y,Z1 J4;rw[jy];exact q _<|U.trans s6
end
end K4
namespace L2
open PySem
def JF(hd:Hds)(cs:List Ce)(n:Str):Option Str:=(cs.find? λx=>decide<|x.1=n).map λx=>tdK hd x.2
def psK(hd:Hds)(f:Str):ky:=match hd f with
 |none=>[]
 |some (ps,_)=>ps.map (·.2)
def Pl(ks:kQ)(hd:Hds)(seen:ky)(x:Ce):Prop:=JX 97 x.1=true/\x.1∉seen/\tdB ks hd x.2=true
def Uc(ks:kQ)(hd:Hds)(cs:List Ce)(n:Nat):Prop:=∀i x,i<n->cs[i]?=some x->Pl ks hd ((cs.take i).map (·.1)) x
def S6(hd:Hds)(cs:List Ce)(x:Ce):Prop:=∀f Z,x.2=.ak f Z->Z.map (JF hd cs)=(psK hd f).map some
def GZ(hd:Hds)(cs:List Ce)(n:Nat):Prop:=∀i x,i<n->cs[i]?=some x->S6 hd cs x
def Jv(ks:kQ)(hd:Hds)(cs:List Ce)(k:Nat):Prop:=(cs=[]/\k=0)\/(30<cs.length/\k=30)\/(cs.length<=30/\∃x,cs[k]?=some x/\Uc ks hd cs k/\ ¬Pl ks hd ((cs.take k).map (·.1)) x)\/(cs.length<=30/\Uc ks hd cs cs.length/\∃x,cs[k]?=some x/\GZ hd cs k/\ ¬S6 hd cs x)
def Nk(N:Addr)(Hm:Hp)(E:XK)(k:Nat):Prop:=∀Z d,Same Hm Z->Z d=some (xdO d [("number",.int (k:Nat))])->E (.ref N) (some d) Z
def kvC(hd:Hds)(cs:List Ce):kJ:=cs.map λx=>(Sum.inr x.1,V.str<|tdK hd x.2)
theorem Gr(J:Hds)(n:Str):∀Z:List Ce,VD (kvC J Z) (Sum.inr n)=(JF J Z n).map V.str
 |[]=>rfl
 |x::Z=>by
  have ih:=Gr J n Z;unfold VD JF kvC at *;rw[ZT,zo,zo]
  by_cases c:x.1=n
  .rw [decide_eq_true c,decide_eq_true (by rw[c])];rfl
  .rw [Zw c,Zw (λz=>c<|Sum.inr.inj z)];exact ih
def U3(h:Has H v (ceD x)):∃t u,v=.ref t/\H t=some (.tup [.str x.1,u])/\Has H u x.2.dat:=by
 unfold ceD at h;obtain⟨t,R,rfl,L,M⟩:=Y5 h;obtain⟨T,D,rfl,O,J⟩:=Yh M;obtain⟨G,B,rfl,N,Z⟩:=Yh J;obtain rfl:=VS Z;obtain rfl:=has_str O;exact⟨t,G,Y,L,N⟩
end L2
namespace K4
open PySem L2
section
variable{C CK N fI:Addr}
def NV:Yq ["book","cells","kinds","number","name","told"] ["book","cells"] (Yb XG):=Y6
def SL:List.Nodup [("other":Str),"kinds"]:=by decide +kernel
inductive SCC(C CK N:Addr)(H:Hp)(Q:VK)(E:XK):List V->Prop
 |mk (t la:Addr) (xs:List V) (cs:List Ce) (ks:List (Str×Shp)) (c d:Str->Nat) (ds:List Dd) (be:BE H C CK t ks c d ds) (hl:H la=some (.lst xs)) (hx:HasL H xs (cs.map ceD)) (l40:cs.length<=40) (tx:∀x∈cs,x.1.length<=20)
  (q:1<=cs.length->cs.length<=30->Uc ks (Y1 (ds.map (·.1))) cs cs.length->GZ (Y1 (ds.map (·.1))) cs cs.length->∀H',Same H H'->Q .non H') (qx:∀k,Jv ks (Y1 (ds.map (·.1))) cs k->Nk N H E k):SCC C CK N H Q E [.ref t,.ref la]
def IX(C CK N:Addr):Sp:=λZ H Q E=>SCC C CK N H Q E Z
def Fun.oiX{K:W.Frag}{L:Stmt}(F:Fun K x qual L f I)(S:Yq M B (Yb L))(J:∀(O:Value)(A:Around)(Z:List Env)(s:Shared)(H:Hp)(G:kK)(Q:VK)(E:XK),VW k (A.deeper<|PyProof.Rows.envOfC qual (Yb L) s.heap.objs.size f O)->T G H Q E->
   ∃t,PSs (Vg (CX1 P w) P w K D base M qual (Yb L) f O A Z s H E) (JV L) t/\t {nx:=λ_ U=>Q .non U,rt:=Q} (L2.start M G) H)(R:∀G H Q E,T G H Q E->G.length=B.length:=by intro G H Q E h;cases h;rfl):Ym P w K D base (CX1 P w) (k+1) f I B T:=F.okX S R J
def An(hn:1<=n)(B:Blt p)(me:p "enumerate"=none)(F:Fun K "check_cells" "check_cells" XG f fd)(h1:p "MOST_CELLS"=some u1)(r1:RelV (.int 30) u1)(hN:p "NoSheet"=some (.ref N))(cN:XCl K N fI)(kN:W.keepIn K (.ref N)=true)(hf:W.isFn K (.ref fI)=true)(GI:Ym P w K p base CX0 n fI iD ["self","number"] (E6 N "number"))(bI:Binds K iD ["self","number"] [])(DN:Df P w K p base (n+1) "is_name" ["text"] MG)(DT:Df P w K p base (n+1) "is_told" ["book","told"] (QS C CK))(DK:Df P w K p base (n+1) "kind_told" ["book","told"] (IW C CK))(DA:Df P w K p base (n+1) "kinds_asked" ["book","f"] (OC C CK)):Ym P w K p base (CX1 P w) (n+2) f fd ["book","cells"] (IX C CK N):=by
 refine Fun.oiX F NV λR8 A L1 s H vs Q E T h=>?_;obtain⟨t,la,xs,Z,ks,c,d,ds,be,hl,hx,R6,tx,q,qx⟩:=h;have hu:=Jz T;have M2:VW (1+1) _:=T.mono<|Nat.succ_le_succ hn;have lx:=hx.length;rw[ZA]at lx;refine⟨_,YW (Y2 (Yn Vk (Yt Yo Y B.len Zs (pa1<|pv 1)) YX<|Yu _) (YY<|Uw Uz rfl rfl rfl hN cN kN hf GI T bI (pa1 YX)) Yr)
  (YW (Y2 (Yn UX (Yt Yo rfl B.len Zs (pa1<|pv 1)) (JK rfl h1 r1)<|Yu _) (YY<|Uw Uz rfl rfl rfl hN cN kN hf GI T bI (pa1<|JK rfl h1 r1)) Yr)
  (YW (Yp 2 NV.nd JE (hx:=Or.inr rfl))
  (YW (Vy PassesOwn.leaving rfl (WP rfl me (pa1<|pv 1)) (VI (n:=2) rfl (Yj (Yd 3 NV.nd)<|Yj (VI (n:=2) rfl (Yj (Yd 4 NV.nd)<|Yj (Yd 5 NV.nd) Y7)) Y7))
   (YW (Y2 (PW.pt<|Jq (Vx<|Vs<|Yy DN T<|pa1<|pv 4)<|Jq (UP<|X5 hu (pv 4)<|pv 2)<|Jc<|Vx<|Vs<|Yy DT T<|pa2 (pv 0)<|pv 5) (YY<|Uw Uz rfl rfl rfl hN cN kN hf GI T bI (pa1<|pv 3)) Yr)
   (YY<|V3 hu (pv 2) (pv 4) (Yy DK T<|pa2 (pv 0)<|pv 5) rfl)))
  (YY (Vy PassesOwn.leaving rfl (WP rfl me (pa1<|pv 1)) (VI (n:=2) rfl (Yj (Yd 3 NV.nd)<|Yj (VI (n:=2) rfl (Yj (Yd 4 NV.nd)<|Yj (Yd 5 NV.nd) Y7)) Y7))
   (YY<|Y2 (PW.pt<|XH (Yn Vk (Yf Yl (pv 5) YX) Y3<|Yu _)<|UW<|Yn (Ue M2) (Vq ["other"] [2] (Js<|Yf Yl (pv 5) YX) (VP (i:=0)<|by decide) (λcl C fp s H=>Yd 0 SL rfl (Or.inl rfl) (Or.inr rfl)) λcl C fp s H=>WR hu (pv 1) (pv 0) ⟨rfl,rfl,rfl,rfl⟩) (Yy DA T<|pa2 (pv 0)<|Yf Yl (pv 5) YX)<|Yu _) (YY<|Uw Uz rfl rfl rfl hN cN kN hf GI T bI (pa1<|pv 3)) Yr)))))),?_⟩
 dsimp only[Vg,Cx.nox,Cx.wish];show let T0:=_;let T1:=Y9 _ T0 _;let T2:=J6 _ _ T1;let T3:=_;let T4:=_;let T5:=Yg (Y9 _ T4 _) T3;let T6:=Yg (J6 _ _ T5) T2;let T7:=Yg _ T6;let T8:=_;let T9:=Yg (Y9 _ T8 _) T7;let R4:=_;Yg (Y9 _ R4 _) T9 _ _ _
 intros
 exists la,_,Y,.inl<|Z1 hl,rfl,_,rfl
 by_cases c0:Z.length=0
 case pos=>
  refine VH (by rw[lx,c0];decide) ⟨_,Y,λe O=>qx 0 (.inl ⟨List.eq_nil_of_length_eq_zero c0,Y⟩) _ e (Ye O _) YZ⟩
 refine Y0 (λz=>by have z1:=Zr z;injection z1 with z2;omega) ?_;exists la,_,Y,.inl<|Z1 hl,_,rfl
 by_cases c6:30<Z.length
 case pos=>
  refine VH (by exact decide_eq_true (by rw[lx];omega)) ⟨_,Y,λe O=>qx 30 (.inr<|.inl ⟨c6,rfl⟩) _ e (Ye O _) YZ⟩
 refine Y0 (λz=>by have z1:=Zr z;omega) ?_;intro sd G1;have s1:=Ye G1<|.dK [];have g1:upd H sd (.dK []) sd=some (.dK []):=YZ;generalize upd H sd (.dK [])=H1 at s1 g1 |-;generalize eh:Y1 (ds.map (·.1))=hd at q qx;exists la,false,xs,Y,Z1<|s1 _ _ hl
 let I:kL:=λi U Hi=>Same H Hi/\Uc ks hd Z i/\∃(z3 a o:kO),Hi sd=some (.dK<|kvC hd<|Z.take i)/\U=[some (.ref t),some<|.ref la,some<|.ref sd,z3,a,o]
 refine Gx (tp:=false) (xs:=xs) I ⟨s1,λi x hi=>Zp hi<|Zu _,_,_,_,g1,rfl⟩ (λi U Hi _ z=>Z1<|z.1 _ _ hl) ?_ ?_
 .rintro BB' RR i x U Hi r hxi ⟨si,good,z3,a,o,hk,rfl⟩ hr'
  obtain⟨G,S,J2⟩:=getD hx hxi;have hm:=ZH S;refine up_in hr' _ λHR sR gR=>?_;have L:=si.trans sR;obtain⟨ta,u,rfl,J1,M⟩:=U3<|J2.mono L;have J4:¬Pl ks hd ((Z.take i).map (·.1)) G->Nk N H E i:=λz=>qx i (.inr<|.inr<|.inl ⟨by omega,G,S,good,z⟩);refine⟨_,Z0 gR,Y,⟨_,Z0 J1,Y,?_⟩⟩;refine⟨G.1,Y,tx G hm,λH2 X=>⟨_,Y,?_⟩⟩;have g:=L.trans X
  cases hw:JX 97 G.1 with
  |false=>exact VH (by simp) ⟨_,Y,λe O=>J4 (λz=>by rw[z.1]at hw;cases hw) _ e (g.trans<|Ye O _) YZ⟩
  |true=>
  refine Y0 (by simp) ?_;have G4:=X _ _<|sR _ _ hk;exists _,V2.k (k:=Sum.inr G.1) G4,_,Y;have ke:(kvC hd<|Z.take i).map (·.1)=((Z.take i).map (·.1)).map λn=>(Sum.inr n:Key):=by unfold kvC;rw[zf,zf];rfl
  by_cases nk:VD (kvC hd<|Z.take i) (Sum.inr G.1)=none
  case neg=>
   refine VH (by rw[Option.isSome_iff_ne_none.mpr nk]) ⟨_,Y,λe O=>J4 (λz=>z.2.1 ?_) _ e (g.trans<|Ye O _) YZ⟩;have m:(Sum.inr G.1:Key)∈(kvC hd<|Z.take i).map (·.1):=Classical.not_not.mp λz=>nk<|WD z;rw[ke]at m;obtain⟨q1,N2,e1⟩:=ZU.mp m;cases e1;exact N2
  have nt:G.1∉(Z.take i).map (·.1):=λz=>by
   refine NI nk ?_;rw[ke];exact ZU.mpr ⟨_,z,Y⟩
  refine Y0 (by rw[nk];simp) ?_;refine⟨t,u,G.2,ks,c,d,ds,be.mono g,M.mono X,λH3 s3=>?_⟩;rw[eh];exists _,Y;have Z8:=g.trans s3
  cases ht:tdB ks hd G.2 with
  |false=>exact VH (by simp) ⟨_,Y,λe O=>J4 (λz=>by rw[z.2.2]at ht;cases ht) _ e (Z8.trans<|Ye O _) YZ⟩
  |true=>
  refine Y0 (by simp) ?_;have R3:=s3 _ _ G4;have lk:(kvC hd<|Z.take i).length<=30:=by unfold kvC;rw[ZA,ZL];omega
  refine⟨t,u,G.2,ks,c,d,ds,be.mono Z8,(M.mono X).mono s3,by rw[eh];exact ht,?_⟩;rw[eh];refine⟨_,UH.k (k:=Sum.inr G.1) R3<|Yi<|by omega,?_⟩;refine⟨Z8.putN G1,λj y hj hy=>?_,_,_,_,?_,Y⟩
  .rcases Nat.lt_succ_iff_lt_or_eq.mp hj with hj|rfl
   .exact good j y hj hy
   .rw [S]at hy
    cases hy;exact⟨hw,nt,ht⟩
  .rw [UO _ nk,take_snoc S]
   unfold kvC;rw[ZI];exact YZ
 .rintro U Hi ⟨si,good,z3,a,o,hk,rfl⟩
  rw[lx]at good;rw[Ze (by omega)]at hk;exists la,false,xs,Y,Z1<|si _ _ hl
  let J:kL:=λi U Hj=>Same Hi Hj/\GZ hd Z i/\∃(z3 a o:kO),U=[some (.ref t),some<|.ref la,some<|.ref sd,z3,a,o]
  refine Gx (tp:=false) (xs:=xs) J ⟨Z6 _,λi x hi=>Zp hi<|Zu _,_,_,_,rfl⟩ (λi U Hj _ z=>Z1<|z.1 _ _<|si _ _ hl) ?_ ?_
  .rintro BB' RR i x U Hj r hxi ⟨sj,nams,z3,a,o,rfl⟩ hr'
   obtain⟨G,S,J2⟩:=getD hx hxi;have hm:=ZH S;refine up_in hr' _ λHR sR gR=>?_;have L:=(si.trans sj).trans sR;obtain⟨ta,u,rfl,J1,M⟩:=U3<|J2.mono L;have G3:=sR _ _<|sj _ _ hk
   have G5:S6 hd Z G->GZ hd Z (i+1):=λnn j y hj hy=>by
    rcases Nat.lt_succ_iff_lt_or_eq.mp hj with hj|rfl
    .exact nams j y hj hy
    .rw [S]at hy
     cases hy;exact nn
   refine⟨_,Z0 gR,Y,⟨_,Z0 J1,Y,?_⟩⟩;obtain⟨nm,td⟩:=G
   cases td with
   |tg k w'=>
    obtain⟨b,rfl,hb⟩:=Tw M;refine⟨_,.str "tag",Z0 hb,Ya (j:=0) Y,Y,_,Y,Y0 (by decide +kernel) ?_⟩;exact⟨sj.trans sR,G5 (λf v e=>nomatch e),_,_,_,Y⟩
   |ak fn v=>
    obtain⟨b,n2,rfl,hb,G2⟩:=Tx M;have o1:=good i _ (by have:=(ZE.mp S).1;omega) S;refine⟨_,.str "ask",Z0 hb,Ya (j:=0) Y,Y,_,Y,VH (by decide +kernel) ?_⟩;exists _,.ref n2,Z0 hb,Ya (j:=2) Y,⟨_,Z0 G2⟩
    cases e:hd fn with
    |none=>have:=o1.2.2;rw[Xx e]at this;cases this
    |some pp=>
    obtain⟨ps,y⟩:=pp;have o2:=o1.2.2;rw[Xy e]at o2;have ln:=Zr (zx.mp o2).1
    have l3:ps.length<=3:=by
     obtain⟨x',Z9,ex⟩:=Nv (show Y1 (ds.map (·.1)) fn=_ by rw[eh];exact e);have:=be.pl x' Z9;rw[ex]at this;exact this
    refine Uq (us:=v) (D:=Dat.str) (E:=λn=>X6<|JF hd Z n) (itt<|Z0 G2) (VT v) (by omega) (λz x R R7 Z9 rT=>?_) λvs l H' fl s' R1 J5=>?_
    .obtain rfl:=has_str Z9
     exists .inl ⟨_,Or.inl G3⟩,_,V2.k (k:=Sum.inr z) G3;rw[Gr];refine rT _ ?_;cases JF hd Z z <;> (unfold Has;rfl)
    .have s0':=L.trans s'
     refine⟨_,.str fn,Z0<|s' _ _ hb,Ya (j:=1) rfl,t,fn,ps,y,ks,c,d,ds,be.mono s0',by rw[eh];exact e,λl2 H2 f2 X g2=>?_⟩;have e2:(v.map λn=>X6<|JF hd Z n)=(v.map<|JF hd Z).map X6:=by rw[zf];rfl
     rw[e2]at J5;exists .lst<|(v.map<|JF hd Z).map X6,.lst<|(ps.map (·.2)).map Dat.str,VB (X _ _ R1)<|J5.mono X,VB g2<|VT _,Og _,_,rfl;rw[Q0];have pk:psK hd fn=ps.map (·.2):=by simp only[psK,e]
     by_cases ce:v.map (JF hd Z)=(ps.map (·.2)).map some
     .rw [decide_eq_true ce]
      exact Y0 (by simp) ⟨((sj.trans sR).trans s').trans X,G5 (λf' R5 z=>by cases z;rw[pk];exact ce),_,_,_,Y⟩
     .rw [Zw ce]
      exact VH (by simp) ⟨_,Y,λe' O=>qx i (.inr<|.inr<|.inr ⟨by omega,good,_,S,nams,λz=>ce (by rw[<-pk];exact z fn v Y)⟩) _ e' ((s0'.trans X).trans<|Ye O _) YZ⟩
  .rintro U Hj ⟨sj,nams,z3,a,o,rfl⟩
   rw[lx]at nams;exact q (by omega) (by omega) good nams Hj<|si.trans sj
end
end K4
namespace L2
open PySem PySem.Spec PyProof.Rows
section
def itV(a d:Addr):HO:=.ext λh=>h.IsItemsView a d
def Kv:MtR X "dict.items" (λx J H Q=>∃d Z,x=.ref d/\J=[]/\H d=some (.dK Z)/\∀a,H a=none->Q (.ref a) (upd H a<|itV a d)):=by
 intro G s U H x J v T Q I N r h;obtain⟨d,Z,rfl,rfl,R,q⟩:=h;cases N;cases r;obtain⟨D,O,M,B,L⟩:=Xw I.hok<|.of R;refine call_meetsIn PySem.F.slot_dict_items L.typeIs PySem.F.entry_dict_items (PySem.F.args_dict_items_1 _) (meets_dict_items (VC X.prog X.w) d O) ⟨⟨M,L⟩,?_⟩;refine⟨.ref s.heap.objs.size,_,I.laid (t':=s.toks) (o:=itV s.heap.objs.size d) (λb o e=>ZD _ e) (ZF _) ⟨⟨_,ZW _ Y,Y,Y⟩,⟨_,ZW _ Y⟩,λF E z k=>?_⟩,Y,q _<|I.hok.fresh<|ZF _⟩;obtain⟨o,e,c⟩:=z;exact⟨o,k o e,c⟩
theorem Ky:∀{Z:kF}{J:List β}{j:Nat}{a:Addr}{k:β},Z.Pairwise (· < ·)->Z[j]?=some a->J[j]?=some k->(Z.zip J).lookup a=some k
 |[],_,_,_,_,_,h,_=>by simp at h
 |_::_,[],_,_,_,_,_,h=>by simp at h
 |b::Z,y::J,0,a,k,_,h,h'=>by
  simp only[ja,Option.some.injEq]at h h';subst h;subst h';simp[List.lookup]
 |b::Z,y::J,j+1,a,k,p,h,h'=>by
  rw[List.getElem?_cons_succ]at h h';have L:=List.pairwise_cons.mp p;have G:(a==b)=false:=beq_eq_false_iff_ne.mpr<|yh<|L.1 a<|ZH h;simp only[List.zip_cons_cons,List.lookup,G];exact Ky L.2 h h'
theorem Kz:∀{J:kF}{Z:List β}{a:Addr}{k:β},(J.zip Z).lookup a=some k->∃j:Nat,J[j]?=some a/\Z[j]?=some k
 |[],_,_,_,h=>by simp at h
 |_::_,[],_,_,h=>by simp at h
 |b::J,y::Z,a,k,h=>by
  simp only[List.zip_cons_cons,List.lookup]at h
  cases e:a==b with
  |true=>
   rw[e]at h;cases h;exact⟨0,by rw[beq_iff_eq.mp e];rfl,Y⟩
  |false=>
   rw[e]at h;obtain⟨j,L,G⟩:=Kz h;exact⟨j+1,L,G⟩
theorem Ud{R:α->β->Prop}:∀{Z:List α}{ys:List β},Z.length=ys.length->(∀(j:Nat)(x:α)(y:β),Z[j]?=some x->ys[j]?=some y->R x y)->Paired R Z ys
 |[],[],_,_=>.nil
 |[],_::_,h,_=>by cases h
 |_::_,[],h,_=>by cases h
 |x::Z,y::ys,h,f=>.cons (f 0 x y rfl rfl)<|Ud (by simpa using h) λj x y e J=>f (j+1) x y e J
theorem Xv{R:α->β->Prop}:∀{Z:List α}{ys:List β},Paired R Z ys->∀(j:Nat)(x:α)(y:β),Z[j]?=some x->ys[j]?=some y->R x y
 |_,_,.nil,j,_,_,h,_=>by simp at h
 |_,_,.cons r t,0,x,y,h,h'=>by
  simp only[ja,Option.some.injEq]at h h';subst h;subst h';exact r
 |_,_,.cons r t,j+1,x,y,h,h'=>Xv t j x y h h'
def Np(H:Hp)(n:Nat)(o:HO)(as:kF)(kvs:kJ):Hp:=λb=>if b<n then H b else if b=n then some o else((as.zip kvs).lookup b).map λZ=>.tup [kV Z.1,Z.2]
abbrev ItQ(H:Hp)(kvs:kJ)(Q:VK):Prop:=∀l as H',H l=none->Same H H'->H' l=some (.lst (as.map V.ref))->Paired (λa (kv:Key×V)=>H' a=some (.tup [kV kv.1,kv.2])) as kvs->Q (.ref l) H'
def Gc(hc:X.calm=true):Jr X (.type "list") (λE H Q=>∃a d kvs,E=[.ref a]/\H a=some (itV a d)/\Rd H d (.dK kvs)/\ItQ H kvs Q):=by
 intro w s U H E us Q I r h;obtain⟨a,d,kvs,rfl,ha,hd,q⟩:=h;obtain⟨u,rfl,ru⟩:=vals1 r;cases ru;obtain⟨l,lo,vs,f,dd⟩:=Xw I.hok hd;obtain⟨ep,A⟩:=dd.dictAt;have G:=f.length;obtain⟨hv,_⟩:=I.hok a _ ha;refine W.kdx_call (knd:=VC X.prog X.w) (kvs:=vs) (ep:=ep) (I.ok.hd hc) hv A (by rw[<-G];exact l) λh' tk p c J F hS hl S B=>?_;have Z:∀b o,H b=some o->b<s.heap.objs.size:=λb o e=>I.hok.lt e;have hold:∀b,b<s.heap.objs.size->Np H s.heap.objs.size (.lst<|J.map V.ref) J kvs b=H b:=λb e=>Zn e;have T:Np H s.heap.objs.size (.lst<|J.map V.ref) J kvs s.heap.objs.size=some (.lst<|J.map V.ref):=by unfold Np;rw[Zo (zX _),Zn rfl]
 have tp:∀(j:Nat)(b:Addr)(L:Key×V),J[j]?=some b->kvs[j]?=some L->VN X.prog X.w (Np H s.heap.objs.size (.lst<|J.map V.ref) J kvs) h' b (.tup [kV L.1,L.2]):=λj b L R D=>by
  obtain⟨N,k,x,e3,e4,e5⟩:=S.pairs j b R;obtain⟨M,O⟩:=Xv f j L (k,x) D e3
  have e6:RelV (kV L.1) N:=by
   have m:JY L.1 N=true:=by rw[M];exact e4
   rcases Va m with⟨i,t,P,C⟩|⟨z,t,P,C⟩
   .rw [P,C];exact⟨t,Y⟩
   .rw [P,C];exact⟨t,Y⟩
  exact⟨by rw[vv];show 2<=_;omega,[N,x],.cons e6<|.cons O .nil,_,e5,rfl,rfl,_,rfl⟩
 refine⟨.ref s.heap.objs.size,Np H s.heap.objs.size (.lst<|J.map V.ref) J kvs,I.un (t':=tk) (h':=h') ?_ ?_,rfl,q _ J _ (I.hok.fresh<|ZF _) (λb o e=>?_) T<|Ud (by rw[hl,G]) λj b L R D=>?_⟩
 .exact ⟨λb o q _ _ _=>F b o q,λb o q _ _ _=>⟨o.slots,F b o q⟩,λb o e n _=>(hold b<|ZN e).trans n,λb o q _=>⟨o,F b o q⟩,λb E e=>(hold b<|Z b _ e).trans e,λb o u e=>(hold b<|Z b _ e).trans e,
   λb ps e=>⟨#[],by rw[hold b (Z b _ e),e];simp⟩⟩
 .intro b o e
  by_cases hb:b<s.heap.objs.size
  .rw [hold b hb]at e
   exact(I.hok b o e).stay (λc v _ z=>F c v z) (λc z=>(hold c<|Z c _ z).trans z) λc E z=>(hold c<|Z c _ z).trans z
  .by_cases hb':b=s.heap.objs.size
   .subst hb'
    rw[T]at e;cases e;refine⟨by rw[ZA,hl,<-G];exact l,p.toList,c,?_,by rw[Array.toArray_toList];exact hS⟩;rw[B]
    exact Ud (by simp) λj x y M O=>by
     rw[ZG]at M O
     cases g:J[j]? with
     |none=>rw[g]at M;cases M
     |some z=>rw[g]at M O;cases M;cases O;rfl
   .unfold Np at e
    rw[Zo hb,Zo hb']at e;obtain⟨L,R,D⟩:=Zh.mp e;obtain⟨j,M,O⟩:=Kz R;subst D;exact tp j b L M O
 .exact (hold b<|Z b o e).trans e
 .have g:=S.above b<|ZH R
  show Np _ _ _ _ _ _=_;unfold Np;rw[Zo (Nat.not_lt.mpr<|Zf g),Zo<|yh g,Ky S.rise R D];rfl
end
end L2
namespace L2
open PySem
structure SA where
 t:Addr
 dx:Addr
 bk:Addr
 td:Addr
 kp:Addr
def Ps(A:SA):List (Str×V):=[("book",.ref A.bk),("told",.ref A.td),("moment",.int 0),("kept",.ref A.kp)]
structure SD(H:Hp)(CS:Addr)(A:SA)(kv:List (Key×V))(cs:List Ce):Prop where
 ins:H A.t=some (.ins CS A.dx (Ps A))
 td:H A.td=some (.dK kv)
 ke:kv.map (·.1)=cs.map (λx=>(Sum.inr x.1:Key))
 va:HasL H (kv.map (·.2)) (cs.map λx=>x.2.dat)
def SD.mono(r:SD H CS A Z cs)(s:Same H J):SD J CS A Z cs:=⟨s _ _ r.ins,s _ _ r.td,r.ke,r.va.mono s⟩
structure SCl(K:W.Frag)(CS:Addr):Prop where
 cl:Cls K CS
 bk:V6 K CS "book"
 td:V6 K CS "told"
 mo:V6 K CS "moment"
 kp:V6 K CS "kept"
def C1(A:SA):(Ps A).lookup ("told":Str)=some (V.ref A.td):=rfl
theorem El:∀{L:List Ce}{G:kK},HasL H G (L.map ceD)->∃(J:kF)(Z:kJ),G=J.map V.ref/\J.length=Z.length/\(∀(i:Nat)(a:Addr)(k:Key)(y:V),J[i]?=some a->Z[i]?=some (k,y)->H a=some (.tup [kV k,y]))/\Z.map (·.1)=L.map (λx=>(Sum.inr x.1:Key))/\HasL H (Z.map (·.2)) (L.map λx=>x.2.dat)
 |[],G,h=>by
  obtain rfl:=VS h;exact⟨[],[],Y,Y,λi a k y e=>by simp at e,Y,Z4⟩
 |x::L,G,h=>by
  obtain⟨v,r,rfl,D,B⟩:=Yh h;obtain⟨t,u,rfl,T,R⟩:=U3 D;obtain⟨J,Z,rfl,l,p,k,O⟩:=El B;refine⟨t::J,(Sum.inr x.1,u)::Z,Y,by simp[l],λi a k y N M=>?_,by simp[k],Z2 R O⟩
  cases i with
  |zero=>
   simp only[ja,Option.some.injEq]at N M;cases N;cases M;exact T
  |succ i=>exact p i a k y N M
theorem EI:∀{J:List Ce}{L:kF}{Z:kJ},Z.map (·.1)=J.map (λx=>(Sum.inr x.1:Key))->HasL H (Z.map (·.2)) (J.map λx=>x.2.dat)->Paired (λa (Z:Key×V)=>H a=some (.tup [kV Z.1,Z.2])) L Z->HasL H (L.map V.ref) (J.map ceD)
 |[],_,[],_,_,.nil=>Z4
 |[],_,_::_,e,_,_=>by cases e
 |_::_,_,[],e,_,_=>by cases e
 |x::J,_,Z::kvs,e,h,.cons r t=>by
  simp only[ZT,List.cons.injEq]at e;obtain⟨v,T,G,N,M⟩:=Yh h;simp only[ZT,List.cons.injEq]at G;obtain⟨R,O⟩:=G;subst R;subst O;rw[e.1]at r;exact Z2 (by unfold ceD;exact Yx r<|Z2 Yz<|Z3 N)<|EI e.2 M t
def Uc.names(h:Uc G L cs cs.length):(cs.map (·.1)).Nodup:=by
 suffices z:∀n,((cs.take n).map (·.1)).Nodup by have:=z cs.length;rw[yJ]at this;exact this
 intro n
 induction n with
 |zero=>rw[vk];exact vh
 |succ n ih=>
  cases e:cs[n]? with
  |none=>rw[Ze (by rw[zg]at e;omega)]at ih |-;exact ih
  |some x=>
   rw[take_snoc e,ZI];refine yC.mpr ⟨ih,zW.mpr ⟨yn,vh⟩,λa J b Z z=>?_⟩;rw[List.map_singleton,ZO]at Z;rw[z,Z]at J;exact(h n x (ZE.mp e).1 e).2.1 J
def Xo(f:Jv G J cs k)(N:1<=cs.length)(O:cs.length<=30)(M:Uc G J cs cs.length)(L:GZ J cs cs.length):False:=by
 rcases f with⟨rfl,_⟩|⟨l,_⟩|⟨_,x,Z,_,n⟩|⟨_,_,x,Z,_,n⟩
 .cases N
 .omega
 .exact n (M k x (ZE.mp Z).1 Z)
 .exact n (L k x (ZE.mp Z).1 Z)
def W6(a:Jv E F cs k)(b:Jv E F cs j):k=j:=by
 rcases a with⟨rfl,A⟩|⟨T,A⟩|⟨T,x,M,B,R⟩|⟨T,D,x,M,B,R⟩
 .rcases b with⟨_,N⟩|⟨J,N⟩|⟨J,y,Z,L,G⟩|⟨J,O,y,Z,L,G⟩
  .omega
  .cases J
  .cases Z
  .cases Z
 .rcases b with⟨rfl,N⟩|⟨J,N⟩|⟨J,y,Z,L,G⟩|⟨J,O,y,Z,L,G⟩
  .cases T
  .omega
  .omega
  .omega
 .rcases b with⟨rfl,N⟩|⟨J,N⟩|⟨J,y,Z,L,G⟩|⟨J,O,y,Z,L,G⟩
  .cases M
  .omega
  .rcases vo k j with h|h|h
   .exact Zp (L k x h M) R
   .exact h
   .exact Zp (B j y h Z) G
  .exact Zp (O k x (ZE.mp M).1 M) R
 .rcases b with⟨rfl,N⟩|⟨J,N⟩|⟨J,y,Z,L,G⟩|⟨J,O,y,Z,L,G⟩
  .cases M
  .omega
  .exact Zp (D j y (ZE.mp Z).1 Z) G
  .rcases vo k j with h|h|h
   .exact Zp (L k x h M) R
   .exact h
   .exact Zp (B j y h Z) G
end L2
namespace K4
open PySem L2
section
variable{C CK CS N:Addr}
def DfX(P:Program)(w:World)(K:W.Frag)(mg:Str->Option Value)(base:Heap)(n:Nat)(x:Str)(ps:ky)(sp:Sp):Prop:=
 ∃(g:Addr)(Z:FuncData),mg x=some (.ref g)/\W.keepIn K (.ref g)=true/\Binds K Z ps []/\Ym P w K mg base (CX1 P w) n g Z ps sp
def B5{X:Cx}(D:DfX X.prog X.w X.K X.mg X.base k x A M)(R:VW k X.A)(O:Je (CX1 X.prog X.w) X E)(F:PA X (e::Z) t)(T:Gl X x:=by exact Y)(L:(x==("__debug__":Str))=false:=by decide)(B:starEach (e::Z) X.env=(false,eval e X.env)::starEach Z X.env:=by rfl)(J:(backTo pos<|starEach Z X.env).any (·.1)=false:=by rfl):
  PE X (.Call (.Name x p) (e::Z) [] pos) (RT M [] E t):=let⟨_,_,m,k,b,G⟩:=D;Xg G R T m k b .nil O F L B J
def KM{X:Cx}{E:St->XK}(D:DfX X.prog X.w X.K X.mg X.base k x A M)(R:VW k X.A)(O:∀U,U6 (CX1 X.prog X.w) X U<|E U)(F:PA X (e::Z) t)(T:Gl X x:=by exact Y)(L:(x==("__debug__":Str))=false:=by decide)(B:starEach (e::Z) X.env=(false,eval e X.env)::starEach Z X.env:=by rfl)(J:(backTo pos<|starEach Z X.env).any (·.1)=false:=by rfl):
  PE X (.Call (.Name x p) (e::Z) [] pos) (R0 M [] E t):=let⟨_,_,m,k,b,G⟩:=D;KQ G R T m k b .nil O F L B J
def Cu:Yq ["self","book","cells"] ["self","book","cells"] (Yb MQ):=Y6
inductive SSI(CS C CK N:Addr)(H:Hp)(Q:VK)(E:XK):List V->Prop
 |mk (Hm:Hp) (x dx bk la:Addr) (xs:List V) (cs:List Ce) (ks:List (Str×Shp)) (c d:Str->Nat) (ds:List Dd) (hx:H x=some (.ins CS dx [])) (sm:Same Hm H) (xm:Hm x=none) (be:BE Hm C CK bk ks c d ds) (hl:Hm la=some (.lst xs)) (hc:HasL Hm xs (cs.map ceD)) (l40:cs.length<=40) (tx:∀x∈cs,x.1.length<=20)
  (q:1<=cs.length->cs.length<=30->Uc ks (Y1 (ds.map (·.1))) cs cs.length->GZ (Y1 (ds.map (·.1))) cs cs.length->∀H' A kw,Same Hm H'->A.t=x->Hm A.td=none->SD H' CS A kw cs->Q .non H') (qx:∀k,Jv ks (Y1 (ds.map (·.1))) cs k->Nk N Hm E k):SSI CS C CK N H Q E [.ref x,.ref bk,.ref la]
def IT(CS C CK N:Addr):Sp:=λZ H Q E=>SSI CS C CK N H Q E Z
def Ad(B:Blt r)(T:SCl K CS)(F:Fun K "__init__" "Sheet.__init__" MQ f fd)(DC:DfX P w K r base n "check_cells" ["book","cells"] (IX C CK N)):
  Ym P w K r base (CX1 P w) (n+1) f fd ["self","book","cells"] (IT CS C CK N):=by
 refine Fun.oiX F Cu λJ1 A L s H vs Q E hr h=>?_;obtain⟨I,x,Z,J,la,xs,cs,ks,c,d,ds,hx,O,xm,be,hl,hc,l,tx,q,qx⟩:=h;have ps:Je (CX1 P w) (Vg (CX1 P w) P w K r base ["self","book","cells"] "Sheet.__init__" (Yb MQ) f J1 A L s H E) E:=Uz.passes rfl;refine⟨_,YW (VF<|B5 DC hr ps<|pa2 (pv 1)<|pv 2)
  (YW (Jj (pv 0) (pv 1) rfl)<|YW (Jj (pv 0) (VM (Gd rfl) rfl B.dict WB (pa1<|pv 2)) rfl)<|YW (Jj (pv 0) YX rfl)<|YY<|Jj (pv 0) JE rfl),?_⟩
 dsimp only[Vg,Cx.nox,Cx.wish];show let T0:=_;let T1:=Yg _ T0;let T2:=Yg _ T1;let T3:=Yg _ T2;Yg _ T3 _ _ _
 intros
 refine⟨J,la,xs,cs,ks,c,d,ds,be.mono O,O _ _ hl,hc.mono O,l,tx,λl1 Z8 on nm g s0=>?_,λk fc H4 e s4 he=>qx k fc H4 e (O.trans s4) he⟩;have p:=O.trans s0;refine⟨x,CS,Z,_,Y,s0 _ _ hx,T.cl,T.bk,by decide,?_⟩;have S:upd g x (.ins CS Z<|VG "book" (.ref J) []) x=some (.ins CS Z<|VG "book" (.ref J) []):=YZ;have r9:∀b o,b≠x->g b=some o->upd g x (.ins CS Z<|VG "book" (.ref J) []) b=some o:=λb o n e=>by rw[Yc n];exact e
 generalize upd g x (.ins CS Z<|VG "book" (.ref J) [])=H9 at S r9 |-;have X:∀{b o},I b=some o->b≠x:=λ{b o} h z=>by rw[z,xm]at h;cases h
 have t:Same I H9:=λb o h=>r9 b o (X h)<|p b o h;obtain⟨ts,j,rfl,le,pr,ke,va⟩:=El hc;refine⟨la,ts,j,Y,Z1<|t _ _ hl,⟨le,λi a k y m D=>Z0<|t _ _<|pr i a k y m D⟩,?_,λG M=>?_⟩
 .rw [ke]
  have v:=on.names;unfold List.Nodup at v |-;rw[vm]at v |-;exact v.imp λZ9 z=>Z9<|Sum.inr.inj z
 refine⟨x,CS,Z,_,Y,by rw[Yc (Yk S M)];exact S,T.cl,T.td,(by show 1<1000;decide),?_⟩;obtain⟨x1,a1,n1,m⟩:=JP (f:="told") (o:=.dK j) S M;generalize upd (upd H9 G<|.dK j) x (.ins CS Z<|VG "told" (.ref G)<|VG "book" (.ref J) [])=H1 at x1 a1 m |-;refine⟨x,CS,Z,_,Y,x1,T.cl,T.mo,(by show 2<1000;decide),?_⟩;have U:upd H1 x (.ins CS Z<|VG "moment" (.int 0)<|VG "told" (.ref G)<|VG "book" (.ref J) []) x=some (.ins CS Z<|VG "moment" (.int 0)<|VG "told" (.ref G)<|VG "book" (.ref J) []):=YZ;have D:∀b o,b≠x->H1 b=some o->upd H1 x (.ins CS Z<|VG "moment" (.int 0)<|VG "told" (.ref G)<|VG "book" (.ref J) []) b=some o:=λb o n e=>by rw[Yc n];exact e
 generalize upd H1 x (.ins CS Z<|VG "moment" (.int 0)<|VG "told" (.ref G)<|VG "book" (.ref J) [])=H2 at U D |-;intro u R;refine⟨x,CS,Z,_,Y,by rw[Yc (Yk U R)];exact U,T.cl,T.kp,(by show 3<1000;decide),?_⟩;obtain⟨x3,a3,n3,e3⟩:=JP (f:="kept") (o:=.dK []) U R;generalize upd (upd H2 u<|.dK []) x (.ins CS Z<|VG "kept" (.ref u)<|VG "moment" (.int 0)<|VG "told" (.ref G)<|VG "book" (.ref J) [])=H3 at x3 a3 e3 |-;have s3:Same I H3:=λb o h=>e3 b o (X h)<|D b o (X h)<|m b o (X h)<|t b o h
 have fr:I G=none:=by
  cases e:I G with
  |none=>rfl
  |some o=>have:=t _ _ e;rw[M]at this;cases this
 refine q l1 Z8 on nm H3 ⟨x,Z,J,G,u⟩ j s3 Y fr ⟨x3,e3 _ _ n1<|D _ _ n1 a1,ke,va.mono s3⟩
def Cv:Yq ["self"] ["self"] (Yb MR):=Y6
inductive SSC(CS:Addr)(H:Hp)(Q:VK):List V->Prop
 |mk (A:SA) (kv:List (Key×V)) (cs:List Ce) (sd:SD H CS A kv cs) (q:∀l xs H',H l=none->Same H H'->H' l=some (.lst xs)->HasL H' xs (cs.map ceD)->Q (.ref l) H'):SSC CS H Q [.ref A.t]
def QU(CS:Addr):Sp:=λZ H Q _=>SSC CS H Q Z
def Ae(B:Blt D)(T:SCl K CS)(F:Fun K "cells" "Sheet.cells" MR f X):Ym P w K D base CX0 (n+1) f X ["self"] (QU CS):=by
 refine F.oi Cv λj A G s H z Q E t h=>?_;obtain⟨M,I,m,b,q⟩:=h;exists _,YY<|Ys<|VM (Gc rfl) rfl B.list Vo (pa1<|KU PySem.F.plainAttrs_dict PySem.F.slot_dict_items PySem.F.type_dict_items Kv<|VE (pv 0) rfl);refine⟨CS,_,_,_,b.ins,T.cl,T.td,C1 _,.inr<|.inr<|.inl ⟨rfl,.inl ⟨_,b.td⟩⟩,_,_,rfl,rfl,b.td,λa U=>?_⟩;have J:=Ye U<|itV a M.td;refine⟨a,M.td,I,Y,YZ,.inl<|J _ _ b.td,λl g y S O L R=>?_⟩;have Z:=J.trans O;exact q l _ y (J.free S) Z L<|EI b.ke (b.va.mono Z) R
inductive SLe(C CK N:Addr)(H:Hp)(E:XK):List V->Prop
 |mk (t la:Addr) (xs:List V) (cs:List Ce) (ks:List (Str×Shp)) (c d:Str->Nat) (ds:List Dd) (k:Nat) (be:BE H C CK t ks c d ds) (hl:H la=some (.lst xs)) (hx:HasL H xs (cs.map ceD)) (l40:cs.length<=40) (tx:∀x∈cs,x.1.length<=20) (fc:Jv ks (Y1 (ds.map (·.1))) cs k) (qx:Nk N H E k):SLe C CK N H E [.ref t,.ref la]
inductive CY(C CK N:Addr)(H:Hp)(E:XK):List V->Prop
 |mk (v:V) (h:SLe C CK N H E [.ref t,.ref la]):CY C CK N H E [.ref t,.ref la,v]
def OB(C CK N:Addr):Sp:=λZ H _ E=>SLe C CK N H E Z
def EB(C CK N:Addr):Sp:=λZ H _ E=>CY C CK N H E Z
def Cy:Yq ["book","cells","worths","ranks","rank","turned","came","name","worth"] ["book","cells"] (Yb MU):=Y6
def Ag(F:Fun K "least" "least" MU f g)(r:DfX P w K O base n "check_cells" ["book","cells"] (IX C CK N)):Ym P w K O base (CX1 P w) (n+1) f g ["book","cells"] (OB C CK N):=by
 refine Fun.oiX F Cy λM A Z s H l Q E q h=>?_;obtain⟨t,X,T,u,y,c,d,p,k,v,m,z,J,B,R,D⟩:=h;have I:Je (CX1 P w) (Vg (CX1 P w) P w K O base ["book","cells","worths","ranks","rank","turned","came","name","worth"] "least" (Yb MU) f M A Z s H E) E:=Uz.passes rfl;exists _,YW (VF<|B5 r q I<|pa2 (pv 0)<|pv 1) Ws;exact⟨t,X,T,u,y,c,d,p,v,m,z,J,B,λj G S U o b=>Xo R j G S U,λe L=>W6 R L ▸ D⟩
def Ct:Yq ["book","cells","rows","told"] ["book","cells","rows"] (Yb UV):=Y6
def Ac(F:Fun K "shows_least" "shows_least" UV f m)(r:DfX P w K O base n "check_cells" ["book","cells"] (IX C CK N)):Ym P w K O base (CX1 P w) (n+1) f m ["book","cells","rows"] (EB C CK N):=by
 refine Fun.oiX F Ct λM A Z s H l Q E z h=>?_;obtain⟨v,h⟩:=h;obtain⟨t,e,T,p,j,c,d,g,k,u,q,y,J,B,R,D⟩:=h;have I:Je (CX1 P w) (Vg (CX1 P w) P w K O base ["book","cells","rows","told"] "shows_least" (Yb UV) f M A Z s H E) E:=Uz.passes rfl;exists _,YW (VF<|B5 r z I<|pa2 (pv 0)<|pv 1) Ws;exact⟨_,_,T,p,j,c,d,g,u,q,y,J,B,λX G S U i b=>Xo R X G S U,λo L=>W6 R L ▸ D⟩
end
end K4
namespace L2
open PySem
def M4(Z:List Ce):(Dat.lst<|Z.map ceD).dep<=4:=by
 have one:∀x:Ce,(ceD x).dep<=3:=λx=>by
  obtain⟨n,G⟩:=x;unfold ceD Td.dat
  cases G with
  |tg k w=>cases w <;> simp[Dat.dep,Dat.deps,X6]
  |ak f L=>simp[Dat.dep,Dat.deps,Wf]
 have J:∀Z:List Ce,Dat.deps (Z.map ceD)<=3:=λZ=>by
  induction Z with
  |nil=>unfold List.map Dat.deps;decide
  |cons x Z ih=>rw[ZT];unfold Dat.deps;exact vP.mpr ⟨one x,ih⟩
 unfold Dat.dep;have:=J Z;omega
structure XR(K:W.Frag)(mg:Str->Option Value)(aW N a1 a2 a3 a4 a5 a6 a7 a8 a9 b1 b2:Addr):Prop where
 mW:mg "WantError"=some (.ref aW)
 mN:mg "NoSheet"=some (.ref N)
 m1:mg "NoAsking"=some (.ref a1)
 m2:mg "NoBook"=some (.ref a2)
 m3:mg "NoCell"=some (.ref a3)
 m4:mg "NoKinds"=some (.ref a4)
 m5:mg "NoMore"=some (.ref a5)
 m6:mg "NoMost"=some (.ref a6)
 m7:mg "NoNote"=some (.ref a7)
 m8:mg "NoPart"=some (.ref a8)
 m9:mg "NoRows"=some (.ref a9)
 n1:mg "NoWorth"=some (.ref b1)
 n2:mg "Torn"=some (.ref b2)
 mV:mg "ValueError"=none
 hand:QF K aW
 exc:W.ExcC K N
 sub:W.subIn K (.ref N) (.ref aW)=some true
 u1:W.kitAny K (.ref N) ([a1,a2,a3,a4,a5,a6,a7,a8,a9].map Value.ref)=some false
 u2:W.kitAny K (.ref N) ([b1,b2].map Value.ref)=some false
 u3:W.kitOne K (.ref N) (.ref N)=some true
 u4:W.kitOne K (.ref N) (.type "ValueError")=some true
 hd:W.hasDictIn K N=true
 fn:W.findIn K (.ref N) "number"=some none
def WC.mono(c:WC H ea C Z)(s:Same H J):WC J ea C Z:=⟨s _ _ c.at_,λd z=>let⟨o,h⟩:=c.dict d z;⟨o,s _ _ h⟩⟩
end L2
namespace K4
open PySem L2
section
variable{C CK CS aW N a1 a2 a3 a4 a5 a6 a7 a8 a9 b1 b2:Addr}
def Qi:Yq ["_law_e","_law_others"] ["_law_e"] (Yb Mo):=Y6
inductive SKE(N:Addr)(H:Hp)(Q:VK):List V->Prop
 |mk (ea:Addr) (dx:Option Addr) (h:WC H ea N dx) (q:∀H',Same H H'->Q (.bl true) H'):SKE N H Q [.ref ea]
def QW(N:Addr):Sp:=λZ H Q _=>SKE N H Q Z
def Ai(B:Blt U)(Z:XR K U aW N a1 a2 a3 a4 a5 a6 a7 a8 a9 b1 b2)(F:Fun K "_law_kind_of_fault" "_law_kind_of_fault" Mo f z):Ym P w K U base CX0 (n+1) f z ["_law_e"] (QW N):=by
 refine F.oi Qi λt A M s H k Q E p h=>?_;obtain⟨J,G,X,q⟩:=h;refine⟨_,YW (Yp 1 Qi.nd<|Yt (r:=NY K) Xr rfl B.isi Us (pa2 (pv 0)<|Yv<|VA (J9 rfl Z.m1)<|VA (J9 rfl Z.m2)<|VA (J9 rfl Z.m3)<|VA (J9 rfl Z.m4)<|VA (J9 rfl Z.m5)<|VA (J9 rfl Z.m6)<|VA (J9 rfl Z.m7)<|VA (J9 rfl Z.m8)<|VA (J9 rfl Z.m9) VR))
  (YW (Yp 1 Qi.nd<|AY (pv 1)<|X3<|Yt (r:=NY K) Xr rfl B.isi Us (pa2 (pv 0)<|Yv<|pa2 (J9 rfl Z.n1)<|J9 rfl Z.n2))
  (YY<|Ys<|X4 (Yt (r:=NY K) Xr rfl B.isi Us (pa2 (pv 0)<|J9 rfl Z.mN))<|X4 (Yt (r:=NY K) Xr rfl B.isi Us (pa2 (pv 0)<|EK (v:=.ty "ValueError") rfl Z.mV PyProof.Rows.Boot.«ValueError» rfl))<|X3<|Qy<|pv 1)),?_⟩
 show let g:=_;let m:=Yg _ g;Yg _ m _ _ _
 intros
 refine⟨sl 9,λI R=>?_⟩;refine up_in R _ λd L y=>?_;exists J,N,G,.ref I,false,Y,X.mono L,Z.exc,.inl ⟨I,[a1,a2,a3,a4,a5,a6,a7,a8,a9],Y,y,Z.u1⟩;refine⟨false,Y,Y0 Zg ⟨sl 2,λD O=>?_⟩⟩;refine up_in O _ λc S j=>?_;have T:=(X.mono L).mono S;exists J,N,G,.ref D,false,Y,T,Z.exc,.inl ⟨D,[b1,b2],Y,j,Z.u2⟩;refine⟨J,N,G,.ref N,true,Y,T,Z.exc,.inr<|.inl ⟨N,rfl,Z.u3⟩,⟨true,rfl,VH rfl ?_⟩⟩;refine⟨J,N,G,.ty "ValueError",true,Y,T,Z.exc,.inr<|.inr ⟨"ValueError",rfl,Z.u4⟩,⟨true,rfl,VH rfl ?_⟩⟩;exact⟨_,Y,q _<|L.trans S⟩
def TQ:Yq ["_law_book_here","_law_cells_here","_law_way","_law_found","_law_handed","e"] ["_law_book_here","_law_cells_here","_law_way"] (Yb To):=Y6
inductive SRf(C CK:Addr)(H:Hp)(Q:VK):List V->Prop
 |mk (bk la:Addr) (xs:List V) (cs:List Ce) (ks:List (Str×Shp)) (c d:Str->Nat) (ds:List Dd) (k way:Nat) (be:BE H C CK bk ks c d ds) (hl:H la=some (.lst xs)) (hcs:HasL H xs (cs.map ceD)) (l40:cs.length<=40) (tx:∀x∈cs,x.1.length<=20) (fr:Jv ks (Y1 (ds.map (·.1))) cs k) (wl:way<3) (q:∀H',Same H H'->Q (.int (k:Nat)) H'):SRf C CK H Q [.ref bk,.ref la,.int (way:Nat)]
def QV(C CK:Addr):Sp:=λZ H Q _=>SRf C CK H Q Z
def rfT(CS C CK N:Addr)(EX:St->XK):TS:=Y9 (D8<|tOp rEq (Xt 2)<|tC<|.int 0) (D9<|IN CS (IT CS C CK N) [] EX<|Vj (Xt 0)<|Vj (Xt 4) Xu)
 (Y9 (D8<|tOp rEq (Xt 2)<|tC<|.int 1) (D9<|R0 (OB C CK N) [] EX<|Vj (Xt 0)<|Vj (Xt 4) Xu)<|D9<|R0 (EB C CK N) [] EX<|Vj (Xt 0)<|Vj (Xt 4)<|Vj (AF Xu) Xu)
def Qp{Q:St->XK}{D:Ends}(X:BE H C CK bk R c d B)(A:H l1=some (.lst M))(L:HasL H M (cs.map ceD))(G:cs.length<=40)(E:∀x∈cs,x.1.length<=20)(T:Jv R (Y1<|B.map (·.1)) cs k)(j:J<3)(Z:Nk N H (Q [some (.ref bk),z1,some<|.int (J:Nat),z3,some<|.ref l1,z5]) k):rfT CS C CK N Q D [some (.ref bk),z1,some<|.int (J:Nat),z3,some<|.ref l1,z5] H:=by
 match J,j,Z with
 |0,_,Z=>
  refine⟨Y,_,Y,VH (by decide) ?_⟩;refine λx U P I q=>?_;have y:Same H (upd (upd H U<|.own x) x<|.ins CS U []):=λb o e=>by rw[Yc (Yk e P),Yc (Yk e I)];exact e
  exact⟨H,x,U,bk,l1,M,cs,R,c,d,B,YZ,y,P,X,A,L,G,E,λu f p g=>(Xo T u f p g).elim,λw S=>W6 T S ▸ Z⟩
 |1,_,Z=>
  refine⟨Y,_,Y,Y0 (by decide) ⟨Y,_,Y,VH (by decide) ?_⟩⟩;exact⟨bk,l1,M,cs,R,c,d,B,k,X,A,L,G,E,T,Z⟩
 |2,_,Z=>
  refine⟨Y,_,Y,Y0 (by decide) ⟨Y,_,Y,Y0 (by decide) ⟨sl 0,λt F=>?_⟩⟩⟩;have O:=Ye F<|.lst [];exact⟨.ref t,⟨bk,l1,M,cs,R,c,d,B,k,X.mono O,O _ _ A,L.mono O,G,E,T,λv e z m=>Z v e (O.trans z) m⟩⟩
def Af(hn:5<=n)(hm:m+1<=n)(B:Blt L)(Z:XR K L aW N a1 a2 a3 a4 a5 a6 a7 a8 a9 b1 b2)(F:Fun K "_law_refused" "_law_refused" To f fd)(o:Mk K CS gi)(mC:L "Sheet"=some (.ref CS))(GI:Ym P w K L base (CX1 P w) m gi y ["self","book","cells"] (IT CS C CK N))(bI:Binds K y ["self","book","cells"] [])(DL:DfX P w K L base n "least" ["book","cells"] (OB C CK N))(DS:DfX P w K L base n "shows_least" ["book","cells","rows"] (EB C CK N))(DK:Df P w K L base n "_law_kind_of_fault" ["_law_e"] (QW N)):
  Ym P w K L base CX0 (n+1) f fd ["_law_book_here","_law_cells_here","_law_way"] (QV C CK):=by
 refine F.oi TQ λZ9 A X s H vs Q E T h=>?_;obtain⟨bk,la,xs,b,ks,c,d,ds,k,Z8,be,x,R,j,tx,fr,wl,q⟩:=h;have g:VW (4+1) _:=T.mono hn;have t:VW (m+1) _:=T.mono hm;refine⟨_,YW (Yp 3 TQ.nd Vc)
  (YW (Yp 4 TQ.nd<|VM JB rfl B.list Vo (pa1<|pv 1))
  (YW (Qr (i:=5) rfl rfl TQ.nd rfl rfl rfl Z.mW Z.hand (tb:=rfT CS C CK N)
    (λEX pn W p=>YY (Y2 (Yn Vk (pv 2) YX<|Yu _) (YY<|VF<|KH o GI t rfl mC bI .nil p (pa2 (pv 0)<|pv 4))
     (YY<|Y2 (Yn Vk (pv 2) YX<|Yu _) (YY<|VF<|KM DL T p<|pa2 (pv 0)<|pv 4)<|YY<|VF<|KM DS T p<|pa3 (pv 0) (pv 4)<|Vf VR)))
    (λA'=>YY<|Yp 3 TQ.nd<|pv 5))
  (YW (Y2 (PW.pt<|Jq (Yn Tj (pv 3) Vc<|Yu _)<|Jq (Vx<|Vs<|Yy DK T<|pa1<|pv 3)<|Jc<|Yn (Ue g) (pv 4) (pv 1)<|Yu _) (YY<|Ys Vc) Yr)
  (YW (Y2 (PW.pt<|Jq (Vx<|Vs<|Wu rfl B.isi rfl B.int Fm (Tg K rfl (pv 3) rfl))<|Jc<|Vs<|Wu rfl B.isi rfl B.bool Dw (Tg K rfl (pv 3) rfl)) (YY<|Ys Vc) Yr)
  (YY<|Ys<|Tg K rfl (pv 3) rfl))))),?_⟩
 dsimp only[Vg,Cx.nox,Cx.wish];show let T0:=_;let T1:=_;let T2:=Yg (Y9 _ T1 _) T0;let T3:=_;let T4:=Yg (Y9 _ T3 _) T2;let T5:=Yg _ T4;let T6:=Yg _ T5;Yg _ T6 _ _ _
 intros
 refine⟨la,_,Y,.inl<|Z1 x,λl1 u=>?_⟩;refine up_in u _ λH1 U g1=>?_;refine Qp (be.mono U) g1 (R.mono U) j tx fr wl ?_;intro H2 e a he;refine⟨N,Y,Z.sub,λe' z=>by cases z;exact⟨_,he⟩,λG v=>?_⟩;have D:=Ye v<|XY G N<|some e;have r:upd H2 G (XY G N<|some e) G=some (XY G N<|some e):=YZ;have O:=D _ _ he;generalize upd H2 G (XY G N<|some e)=HE at D r O |-;have cE:WC HE G N (some e):=⟨r,λd z=>by cases z;exact⟨_,O⟩⟩;refine⟨Y,_,Y,Y0 (by simp) ?_⟩;refine⟨G,some e,cE,λH3 I=>?_⟩;have J:=((U.trans a).trans D).trans I;have S:=(a.trans D).trans I;refine⟨_,Y,Y0 (by decide) ?_⟩;refine⟨.lst<|b.map ceD,.lst<|b.map ceD,VB (S _ _ g1)<|R.mono J,VB (J _ _ x)<|R.mono J,M4 b,_,rfl,Y0 (by rw[Dat.pq_self];decide) ?_⟩;have l:=I _ _ r;have M:=I _ _ O;exists N,e,_,.int (k:Nat),l,M,Z.exc,Z.hd,Z.fn,Y;refine⟨_,_,_,_,Y,Xc.int _,XQ K "int",_,Y,Y0 (by decide) ?_⟩;exists N,e,_,.int (k:Nat),l,M,Z.exc,Z.hd,Z.fn,Y;refine⟨_,_,_,_,Y,Xc.int _,SV<|by decide,_,rfl,Y0 (by decide) ?_⟩;exact⟨N,e,_,.int (k:Nat),l,M,Z.exc,Z.hd,Z.fn,Y,q _ J⟩
def C0:Yq ["_law_book_here","_law_cells_here","_law_due"] ["_law_book_here","_law_cells_here","_law_due"] (Yb Mp):=Y6
def SE:List.Nodup [("_law_way":Str),"_law_book_here","_law_cells_here"]:=by decide +kernel
inductive SAR(C CK:Addr)(H:Hp)(Q:VK):List V->Prop
 |mk (bk la:Addr) (xs:List V) (cs:List Ce) (ks:List (Str×Shp)) (c d:Str->Nat) (ds:List Dd) (k:Nat) (be:BE H C CK bk ks c d ds) (hl:H la=some (.lst xs)) (hcs:HasL H xs (cs.map ceD)) (l40:cs.length<=40) (tx:∀x∈cs,x.1.length<=20) (fr:Jv ks (Y1 (ds.map (·.1))) cs k) (q:∀H',Same H H'->Q (.bl true) H'):SAR C CK H Q [.ref bk,.ref la,.int (k:Nat)]
def Qc(C CK:Addr):Sp:=λZ H Q _=>SAR C CK H Q Z
def Ar(b:2<=n)(B:Blt j)(F:Fun K "_law_all_refuse" "_law_all_refuse" Mp f fd)(DR:Df P w K j base n "_law_refused" ["_law_book_here","_law_cells_here","_law_way"] (QV C CK)):Ym P w K j base CX0 (n+1) f fd ["_law_book_here","_law_cells_here","_law_due"] (Qc C CK):=by
 refine F.oi C0 λZ8 A M s H Z Q E y h=>?_;obtain⟨bk,u,t,cs,r,c,d,ds,k,be,e,U,O,m,fr,q⟩:=h;have T:VW (1+1) _:=y.mono b;refine⟨_,YY<|Ys<|UC (B9 T) (Vq ["_law_way"] [0,1] (Jt rfl B.range (pa1 YX)) (VP (i:=0)<|by decide) (λcl C fp s H=>Yd 0 SE rfl (Or.inl rfl) (Or.inr rfl)) λcl C fp s H=>Yy DR y<|pa3 (pv 1) (pv 2)<|pv 0) (Y4 KY (Vf<|pa1<|pv 2) YX)<|Yu _,?_⟩;refine⟨3,Y,by decide,by decide,?_⟩;refine Vu 3 (Yi<|by decide) (λi Z G=>Same H G/\Z=List.replicate i (V.int (k:Nat))) ⟨Z6 _,rfl⟩ (λi Z G z=>by rw[z.2,yt]) (λi Z G S z=>S) (λZ G z=>ZF _) ?_ ?_
 .intro i Z G x H'' R S z yl hR
  obtain⟨rfl,rfl⟩:=yl;obtain⟨J,rfl⟩:=z;have e0:(0:Int)+(i:Int)=((i:Nat):Int):=by omega
  rw[e0];exact⟨bk,u,t,cs,r,c,d,ds,k,i,be.mono J,J _ _ e,U.mono J,O,m,fr,S,λH3 L=>hR _ _ ⟨J.trans L,List.replicate_succ'.symm⟩⟩
 intro Z H1 pl z D;obtain⟨J,rfl⟩:=z;refine up_in D _ λH2 g a=>?_;refine⟨sl 1,λv I=>?_⟩;refine up_in I _ λH3 L o=>?_;refine⟨v,3,_,Y,Y,o,by decide,by decide,Zf<|Yi (by show 3<=1000;decide),λp l=>?_⟩;have X:=Ye l<|.lst (List.replicate (3:Int).toNat [V.int (k:Nat)]).flatten;exists .lst<|List.replicate 3<|Dat.int (k:Nat),.lst<|List.replicate 3<|Dat.int (k:Nat),VB (X _ _<|L _ _ a) ?_,VB YZ ?_,by simp[Dat.dep,Dat.deps,List.replicate]
 .exact Z2 (by unfold Has;rfl) (Z2 (by unfold Has;rfl)<|Z3 (by unfold Has;rfl))
 .exact Z2 (by unfold Has;rfl) (Z2 (by unfold Has;rfl)<|Z3 (by unfold Has;rfl))
 .rw [Dat.pq_self]
  exact q _<|((J.trans g).trans L).trans X
end
end K4
namespace L2
open PySem
def SD.lst(r:SD H CS A J cs)(h:H l=some (.lst Z)):SD (upd H l<|.lst ys) CS A J cs:=by
 refine⟨?_,?_,r.ke,JL (J3 h λZ z=>nomatch z) _ (Vp (f:=λx:Ce=>x.2.dat) (λx=>x.2.tn) cs) r.va⟩
 .rw [Yc (V8 r.ins h λz=>nomatch z)];exact r.ins
 .rw [Yc (V8 r.td h λz=>nomatch z)];exact r.td
end L2
namespace K4
open PySem L2
section
variable{C CK CS N:Addr}
def Gm:Yq ["_law_book_here","_law_cells_here","_law_handed","_law_found","_law_told"] ["_law_book_here","_law_cells_here"] (Yb Da):=Y6
structure GoodC(ks:List (Str×Shp))(hd:Hds)(cs:List Ce):Prop where
 l1:1<=cs.length
 l30:cs.length<=30
 on:Uc ks hd cs cs.length
 nm:GZ hd cs cs.length
 tx:∀x∈cs,x.1.length<=20
inductive CU(C CK:Addr)(H:Hp)(Q:VK):List V->Prop
 |mk (bk la:Addr) (xs:List V) (cs:List Ce) (ks:List (Str×Shp)) (c d:Str->Nat) (ds:List Dd) (be:BE H C CK bk ks c d ds) (hl:H la=some (.lst xs)) (hcs:HasL H xs (cs.map ceD)) (g:GoodC ks (Y1 (ds.map (·.1))) cs) (q:∀H',Same H H'->Q (.bl true) H'):CU C CK H Q [.ref bk,.ref la]
def IU(C CK:Addr):Sp:=λZ H Q _=>CU C CK H Q Z
def Q4(hn:5<=n)(hm:m+1<=n)(B:Blt u)(T:SCl K CS)(F:Fun K "_law_right" "_law_right" Da f fd)(L1:Mk K CS gi)(mC:u "Sheet"=some (.ref CS))(GI:Ym P w K u base (CX1 P w) m gi J2 ["self","book","cells"] (IT CS C CK N))(bI:Binds K J2 ["self","book","cells"] [])(mH:V1 K CS "cells" g)(GH:Ym P w K u base CX0 n g gd ["self"] (QU CS))(bH:Binds K gd ["self"] []):Ym P w K u base CX0 (n+1) f fd ["_law_book_here","_law_cells_here"] (IU C CK):=by
 refine F.oi Gm λR1 A Z8 s H vs Q E v h=>?_;obtain⟨bk,la,xs,R,ks,c,d,ds,be,hl,O,z,q⟩:=h;have U:VW (4+1) _:=v.mono hn;have G1:VW (m+1) _:=v.mono hm;refine⟨_,YW (Yp 2 Gm.nd<|VM JB rfl B.list Vo (pa1<|pv 1))
  (YW (Yp 3 Gm.nd<|Me L1 GI G1 rfl mC bI .nil AZ (pa2 (pv 0)<|pv 2))
  (YW (VF<|KU Zx PySem.F.slot_list_clear PySem.F.type_list_clear Kw<|pv 2)
  (YW (Yp 4 Gm.nd<|Vh (pv 3) T.cl mH GH v bH .nil VQ)
  (YW (Y2 (PW.pt<|Jq (Vx<|Vs<|Wu rfl B.isi rfl B.list Vo (pv 4))<|Jc<|Yn (Ue U) (pv 4) (pv 1)<|Yu _) (YY<|Ys U8) Yr)
  (YW (Vz (Yv<|pa2 Y3<|Yv VR)<|XI (pv 4) YX set_list)
  (YY<|Ys<|UC (B9 U) (Vh (pv 3) T.cl mH GH v bH .nil VQ) (pv 1)<|Yu _)))))),?_⟩
 dsimp only[Vg,Cx.nox,Cx.wish];show let T0:=_;let T1:=Yg _ T0;let T2:=_;let T3:=Yg (Y9 _ T2 _) T1;let T4:=Yg _ T3;let T5:=Yg _ T4;let T6:=Yg _ T5;Yg _ T6 _ _ _
 intros
 have l1:=z.l1;have J1:=z.l30;refine⟨la,_,Y,.inl<|Z1 hl,λr y=>?_⟩;refine up_in y _ λH1 s1 l=>?_;refine λx dx hx G4 M2=>?_;have sX:Same H1 (upd (upd H1 dx<|.own x) x<|.ins CS dx []):=λb o e=>by rw[Yc (Yk e hx),Yc (Yk e G4)];exact e
 refine⟨H1,x,dx,bk,r,xs,R,ks,c,d,ds,YZ,sX,hx,be.mono s1,l,O.mono s1,by omega,z.tx,λ_ _ _ _ H2 A' kw p eA _ rd=>⟨Y,?_⟩,λk fr=>(Xo fr l1 J1 z.on z.nm).elim⟩;subst eA;exists .inl ⟨Y,_,Z1<|p _ _ l⟩,r,_,rfl,rfl,p _ _ l;have Z:=rd.lst (ys:=[])<|p _ _ l;have s3:Same H (upd H2 r<|.lst []):=(s1.trans p).putN y;generalize upd H2 r (.lst [])=H3 at Z s3 |-;refine⟨_,_,Z.ins,Y,A',kw,R,Z,λnl ns H5 G5 a M X=>?_⟩;have S:=s3.trans a;have J:Has H5 (.ref nl) (.lst<|R.map ceD):=VB M X;have Z9:=X.length;rw[ZA]at Z9;refine⟨_,_,_,_,Y,Si J,XQ K "list",_,Y,Y0 (by decide) ?_⟩;refine⟨_,_,J,VB (S _ _ hl)<|O.mono S,M4 R,_,rfl,Y0 (by rw[Dat.pq_self];decide) ?_⟩;refine⟨sl 0,λi J5=>⟨sl 2,λt J4=>?_⟩⟩;have D:=(Ye J5<|.tup []).trans<|Ye J4<|.tup [.str "",.ref i];generalize upd (upd H5 i<|.tup []) t (.tup [.str "",.ref i])=H6 at D |-;refine⟨nl,_,0,0,Y,Y,D _ _ M,Tt (j:=0)<|by omega,?_⟩;have L:=(((Z.mono a).mono D).lst (ys:=ns.set 0<|.ref t)<|D _ _ M);have I:=(a.trans D).putN (o:=.lst<|ns.set 0<|.ref t) G5;generalize upd H6 nl (.lst<|ns.set 0<|.ref t)=H7 at L I |-;refine⟨_,_,L.ins,Y,A',kw,R,L,λn2 ms H8 N2 s8 G2 G3=>?_⟩;have G:=(s3.trans I).trans s8;exists _,_,VB G2 G3,VB (G _ _ hl)<|O.mono G,M4 R;rw[Dat.pq_self];exact q _ G
end
end K4
namespace L2
open PySem PySem.Spec PyProof.Rows
section
def DQ:fillsNumberSlot (.type "tuple") "mul"=pure false:=
 PySem.fillsNumberSlot_seq (id:="tuple.__mul__") (r:=some<|.builtin "tuple.__rmul__") F.slot_tuple_mul.lookup (by decide +kernel) F.slot_tuple_rmul.lookup (by decide +kernel)
def B1:seqRepeat? (.type "tuple")=pure (some<|.builtin "tuple.__mul__"):=by
 unfold seqRepeat?;rw[PySem.seqSlot_of (T:="tuple") (name:="__mul__") (id:="tuple.__mul__") F.slot_tuple_mul.lookup (by decide +kernel),PySem.seqSlot_of (T:="tuple") (name:="__rmul__") (id:="tuple.__rmul__") F.slot_tuple_rmul.lookup (by decide +kernel)]
 rfl
def Iw(a:Int)(t:Tok)(l:Addr)(o:Obj)(items:kI)(n:Nat)(M:o.cls=.type "tuple")(L:o.data=.seq items n):
  Meets (Builtin.«int.__rmul__» ⟨[.int a t,.ref l],[]⟩) (λ_ R s=>s.heap.get? l=some o/\R (.ok<|.ret Value.notImplemented) s):=
 .of_wp λG w A R s h=>by
  obtain⟨J,dict,data,Z⟩:=o;obtain rfl:J=.type "tuple":=M;obtain rfl:data=.seq items n:=L;obtain⟨T,g,d,N,O⟩:=s;obtain⟨B,h⟩:=h
  wp_walk
  exact⟨_,Y,h⟩
def O8(k:Nat)(t:Tok)(l:Addr)(o:Obj)(x:Value)(n:Nat)(U:k<=100)(T:o.cls=.type "tuple")(O:o.data=.seq #[x] n):
  Meets (Builtin.«tuple.__mul__» ⟨[.ref l,.int k t],[]⟩) (λ_ R s=>s.heap.get? l=some o/\if k=1 then R (.ok<|.ret<|.ref l) s else R (.ok<|.ret<|.ref s.heap.objs.size) {s with heap:=s.heap.push {cls:=.type "tuple",data:=.seq (List.replicate k x).toArray}}):=
 .of_wp λL w A R s h=>by
  obtain⟨Z,dict,data,J⟩:=o;obtain rfl:Z=.type "tuple":=T;obtain rfl:data=.seq #[x] n:=O;obtain⟨S,g,d,F,I⟩:=s;obtain⟨G,h⟩:=h
  wp_walk
  rw[Zo (by simp only[Bool.or_eq_true,decide_eq_true_eq];omega)];dsimp only
  by_cases k1:k=1
  .rw [Zn k1]at h
   have e:(((k:Nat):Int)==1)=true:=by simp[k1]
   wp_walk using wpAny_loadPart' G
   exact⟨_,Y,h⟩
  .rw [Zo k1]at h
   have e:(((k:Nat):Int)==1)=false:=by
    rw[beq_eq_false_iff_ne];omega
   by_cases k0:k=0
   .subst k0
    wp_walk using wpAny_loadPart' G
    exact⟨_,Y,h⟩
   .have e2:decide (((k:Nat):Int)<=0)=false:=Zw<|by omega
    have E:¬(((#[x]:kI).size:Nat):Int)*(k:Int) > (2 ^ 63-1) / 8:=by show ¬((1:Nat):Int)*(k:Int) > (2 ^ 63-1) / 8;omega
    have D:Builtin.Tuple.tupleTooMany ((((#[x]:kI).size:Nat):Int)*(k:Int))=false:=by show Builtin.Tuple.tupleTooMany (((1:Nat):Int)*(k:Int))=false;unfold Builtin.Tuple.tupleTooMany;rw[vv];exact Zw<|by omega
    have B:List.foldl (λN M=>N++ M) #[] (List.replicate k #[x])=(List.replicate k x).toArray:=by
     have:=foldl_rep [x] k [];rw[List.nil_append]at this;rw[show(#[x]:kI)=[x].toArray from rfl];refine this.trans ?_
     congr 1
     simp
    wp_walk using wpAny_loadPart' G
    rw[Zo E,Zo (by rw[D];exact Zg),yN,B];unfold Builtin.Tuple.tupleExact;refine Zj<|yk (Zk ⟨_,rfl,h⟩) ?_;simp only[sizeOk,ZM,yt,vv];omega
def AS:R2:=λx y H Q=>∃(a:Addr)(k:Nat)(z:V),x=.ref a/\y=.int (k:Nat)/\H a=some (.tup [z])/\k<=100/\∀p Z,Same H Z->Z p=some (.tup<|List.replicate k z)->Q (.ref p) Z
def Mh:OpR X (binaryOp .Mult) AS:=by
 intro J s U H x y v u Q I O N h;obtain⟨a,k,z,rfl,rfl,L,G,q⟩:=h;cases O;obtain⟨t,rfl⟩:=N;obtain⟨_,B,r,o,e,E,Z,n,hdat⟩:=I.hok a _ L;obtain⟨b,rfl,R⟩:=vals1 r;refine wpAny_binaryOp_repeat_ref (T:="tuple") (U:="int") (by decide) ⟨_,e,Z⟩ (λM=>typeIs_int M k t) DQ F.fills_int_mul jn B1 F.slot_int_index.lookup
  (vp jn (typeIs_int s k t) F.entry_int_rmul (F.args_int_rmul_2 _ _) (Iw k t a o #[b] n Z hdat)
   ⟨e,rfl,⟨_,e,Z⟩,vp F.slot_tuple_mul ⟨_,e,Z⟩ F.entry_tuple_mul (F.args_tuple_mul_2 _ _) (O8 k t a o b n G Z hdat) ⟨e,?_⟩⟩)
 by_cases k1:k=1
 .rw [Zn k1]
  exact⟨.ref a,H,I,Y,q a H (Z6 _) (by rw[k1];exact L)⟩
 .rw [Zo k1]
  refine⟨.ref s.heap.objs.size,_,I.laid (t':=s.toks) (o:=.tup<|List.replicate k z) (λb D q=>ZD _ q) (ZF _) ⟨?_,List.replicate k b,?_,GG.new _ _⟩,rfl,q _ _ (Ye (I.hok.fresh<|ZF _) _) YZ⟩
  .rw [yt,vv];omega
  .clear k1 G q
   induction k with
   |zero=>exact .nil
   |succ k ih=>exact .cons R ih
end
end L2
namespace L2
open PySem
structure Lt(K:W.Frag)(sa:Addr)(H0:Hp)(p l:Addr)(ds:List Dat)(H:Hp):Prop where
 p0:Pen K sa H0 p
 fl:H0 l=none
 sb:SameB p H0 H
 pn:Pen K sa H p
 zs:∃zs,H l=some (.lst zs)/\HasL H zs ds/\Dat.tns ds=true
def Lt.np(b:Lt K sa H0 p l Z H):l≠p:=b.p0.ne b.fl
def Lt.new(J:Pen K sa H p)(Z:H l=none):Lt K sa H p l [] (upd H l<|.lst []):=⟨J,Z,(Ye Z _).sb,J.same<|Ye Z _,[],YZ,Z4,by unfold Dat.tns;rfl⟩
def Lt.mv(b:Lt K sa H0 p l O H)(s:SameB p H J)(L:Pen K sa J p):Lt K sa H0 p l O J:=
 let⟨G,N,M,Z⟩:=b.zs;⟨b.p0,b.fl,b.sb.trans s,L,G,s _ _ b.np N,JL (b.pn.tk s) _ Z M,Z⟩
def Lt.sm(b:Lt K sa H0 p l Z H)(s:Same H J):Lt K sa H0 p l Z J:=b.mv s.sb<|b.pn.same s
def F0(h:Dat.tns Z=true)(e:d.tn=true):Dat.tns (Z++[d])=true:=by
 induction Z with
 |nil=>show Dat.tns [d]=true;unfold Dat.tns;rw[e];unfold Dat.tns;rfl
 |cons x Z ih=>
  unfold Dat.tns at h;have J:=zx.mp h;show Dat.tns (x::(Z++[d]))=true;unfold Dat.tns;rw[J.1,ih J.2];rfl
def Lt.ap{Z:kK}(b:Lt K sa H0 p l R H)(h:H l=some (.lst Z))(N:Has H v d)(e:d.tn=true):Lt K sa H0 p l (R++[d]) (upd H l<|.lst<|Z++[v]):=by
 obtain⟨M,L,O,G⟩:=b.zs;rw[h]at L;cases L;have J:TK H (upd H l<|.lst<|Z++[v]):=J3 h λT z=>nomatch z
 exact⟨b.p0,b.fl,b.sb.put b.fl,b.p0.put b.sb b.pn b.fl b.np,_,YZ,Z5 (JL J _ G O)<|Z3<|Jd J _ e N,F0 G e⟩
def JI:ky:=(List.range 30).map λk=>one (97+k / 26)++ one (97+k % 26)
def Fv{i:Nat}(h:i<30):JI[i]?=some (one (97+i / 26)++ one (97+i % 26)):=by
 unfold JI;rw[ZG,vJ h];rfl
def UI:JI.length=30:=by unfold JI;rw[ZA,yF]
def NE:JI.Nodup:=by decide +kernel
def ND:∀x∈JI,JX 97 x=true:=by decide +kernel
def CQ:∀i:Fin 2,atI ("ab":Str).cps.toList ((i.val:Nat):Int)=some (97+i.val):=by decide +kernel
end L2
namespace K4
open PySem L2
section
def Ia:Yq ["_law_letters"] [] (Yb K1):=Y6
def A0:List.Nodup [("_law_k":Str),"_law_letters"]:=by decide +kernel
inductive QA(H:Hp)(Q:VK):List V->Prop
 |mk (q:∀l H',H l=none->Same H H'->H' l=some (.lst (JI.map V.str))->Q (.ref l) H'):QA H Q []
def MB:Sp:=λZ H Q _=>QA H Q Z
def Om(B:Blt M)(F:Fun K "_law_wide_names" "_law_wide_names" K1 f T):Ym P w K M base CX0 (n+1) f T [] MB:=by
 refine F.oi Ia λX A L s H Z Q E y h=>?_;obtain⟨q⟩:=h;refine⟨_,YW (Yp 0 Ia.nd Y3 (hx:=Or.inr Y)) (YY (Ys (Vq ["_law_k"] [0] (Jt Y B.range (pa1 YX)) (VP (i:=0)<|by decide) (λU C O s H=>Yd 0 A0 rfl (Or.inl rfl) (Or.inr rfl))
  (λU C O s H=>Y4 UQ (Yf Mr Y3<|Y4 WT (pv 0) YX)<|Yf Mr (pv 1)<|Y4 Ux (pv 0) YX)))),?_⟩
 show let j:=_;Yg _ j _ _ _
 intros
 refine⟨30,Y,by decide,by decide,?_⟩;refine Vu 30 (Yi<|by decide) (λi Z J=>i<=30/\J=H/\Z=(JI.take i).map V.str) ⟨by decide,rfl,rfl⟩ (λi Z J z=>?_) (λi Z J G z=>G) (λZ J z=>ZF _) ?_ ?_
 .rw [z.2.2,ZA,ZL,UI];have:=z.1;omega
 .intro i Z J x H'' R G z yl hR
  obtain⟨rfl,rfl⟩:=yl;obtain⟨N,rfl,rfl⟩:=z;have D:(0:Int)+(i:Int)=((i:Nat):Int):=by omega
  have S:((i:Nat):Int) / 26=((i / 26:Nat):Int):=by omega
  have I:((i:Nat):Int) % 26=((i % 26:Nat):Int):=by omega
  rw[D];refine⟨⟨by decide,by decide⟩,?_⟩;exists "ab",_,97+i / 26,Y,Y,Zf<|Yi<|by decide,?_
  .rw [S]
   exact CQ ⟨i / 26,by omega⟩
  refine⟨show(0:Int)<26 by decide,?_⟩;exists _,_,97+i % 26,Y,Y,Zf<|Yi<|by decide,?_
  .rw [I,Um]
   exact Wx 97<|by omega
  refine⟨_,_,Y,Y,Zf<|Yi (by show 1+1<=1000;decide),hR _ _ ⟨G,rfl,?_⟩⟩;rw[take_snoc (Fv G),ZI];rfl
 .intro Z H1 pl z hpl
  obtain⟨N,rfl,rfl⟩:=z;rw[Ze (by rw[UI];decide)];exact q _ _ hpl (Ye hpl _) YZ
def Gk:Yq ["_law_flat_here","_law_found","_law_kind","_law_shape"] ["_law_flat_here"] (Yb Wz):=Y6
inductive Lu(H:Hp)(Q:VK):List V->Prop
 |mk (fa:Addr) (xf:List V) (fl:List (Str×Shp)) (hfa:H fa=some (.lst xf)) (hxf:HasL H xf (fl.map Vv)) (hn:fl.length<=6) (ht:∀y s,(y,s)∈fl->∃ts,s=.tags ts/\ts.length<=4) (q:∀l H',Same H H'->H' l=some (.lst ((WF fl).map V.str))->Q (.ref l) H'):Lu H Q [.ref fa]
def MD:Sp:=λZ H Q _=>Lu H Q Z
def KZ(F:Fun K "_law_tags_told" "_law_tags_told" Wz f fd):Ym P w K mg base CX0 (n+1) f fd ["_law_flat_here"] MD:=by
 refine F.oi Gk λZ8 A R s H vs Q E hr h=>?_;obtain⟨X,j,fl,Z,G,hn,S,q⟩:=h;refine⟨_,YW (Yp 1 Gk.nd<|Vf VR)
  (YW (Vy Zt rfl (VL<|pv 0) (VI (n:=2) rfl (Yj (Yd 2 Gk.nd)<|Yj (Yd 3 Gk.nd) Y7))
   (YY<|VF<|Jm Zx PySem.F.slot_list_extend PySem.F.type_list_extend PB (pv 1)<|pa1<|Yf Yl (pv 3) YX))
  (YY<|Ys<|pv 1)),?_⟩
 dsimp only[Vg,Cx.nox,Cx.wish];show let T0:=_;let T1:=_;let T2:=Yg (J6 _ _ T1) T0;Yg _ T2 _ _ _
 intros
 refine⟨sl 0,λl M=>?_⟩;refine up_in M _ λH1 L g1=>?_;have T:X≠l:=Yk Z M;have c:=G.length;rw[ZA]at c;have d:=We S;exists ⟨_,Z1<|L _ _ Z⟩
 let I:kL:=λi U J=>(∀b o,b≠l->H1 b=some o->J b=some o)/\J l=some (.lst<|(WF<|fl.take i).map V.str)/\∃O N:kO,U=[some (.ref X),some<|.ref l,O,N]
 refine UZ (xs:=j) I ⟨λb o _ e=>e,g1,_,_,Y⟩ (λi U J _ z=>Z1<|z.1 _ _ T<|L _ _ Z) ?_ ?_
 .rintro BB RR i x U J hx ⟨fi,hli,O,N,rfl⟩
  obtain⟨k,C,B⟩:=getD G hx;obtain⟨y,p⟩:=k;obtain⟨ts,rfl,t4⟩:=S y p<|ZH C;have g:TK H J:=λb us h=>fi b _ (Yk h M)<|L _ _ h;obtain⟨a,w',rfl,r,u⟩:=Vw<|XT g _ (VZ _) B;obtain⟨b,t,rfl,v,D⟩:=J0 u;exists _,Z0 r,Y;exists .inl ⟨Y,_,Z1 hli⟩,_,_,Z0 v,Y,l,t,_,_,Y,Y,hli,D,?_
  .have:=We (fl:=fl.take i) λy s m=>S y s<|Zi m
   rw[ZL]at this;rw[ZA,ZA];exact Zf<|Yi<|by omega
  .refine ⟨λb o n e=>by rw[Yc n];exact fi b o n e,?_,_,_,Y⟩
   rw[YZ,take_snoc C,BQ,ZI]
 .rintro U J ⟨fi,hli,O,N,rfl⟩
  rw[Ze (by omega)]at hli;exact q l J (λb o e=>fi b o (Yk e M)<|L _ _ e) hli
end
end K4
namespace L2
open PySem
def Pg:(Str.ofString "ABCDEFGHIJKLMNOPQRSTUVWXYZ")=alpha 65:=by decide +kernel
def P5(h:y∉Z.map (·.1)):kT Z y=false:=by
 unfold kT
 cases e:VX Z y with
 |none=>rfl
 |some s=>exact Zp (ZU.mpr ⟨_,Jx e,Y⟩) h
def ES(h:VX Z y=some (.pair a b)):kT Z y=false:=by unfold kT;rw[h]
def II(h:VX J y=some (.tags Z)):tgs J y=Z:=by unfold tgs;rw[h]
def GJ(ks:kQ)(hd:Hds)(t:Td):Prop:=tdB ks hd t=false
def M5(h:kT Z y=false):GJ Z J (.tg y w):=by unfold GJ;rw[G6,h];rfl
def Du(h:VX J y=some (.tags Z))(m:x∉Z):GJ J G (.tg y<|some x):=by
 unfold GJ;rw[G6,II h];show(kT J y && decide (x∈Z))=false;rw[Zw m,vN]
def CP(h:Z f=none):GJ G Z (.ak f J):=Xx h
def Ln(h:G f=some (Z,y))(n:J.length≠Z.length):GJ L G (.ak f J):=by unfold GJ;rw[Xy h,Zw n];rfl
def Pf(h:G f=some (Z,y))(m:z∈y::Z.map (·.2))(k:kT J z=false):GJ J G (.ak f L):=by
 unfold GJ;rw[Xy h]
 have:(y::Z.map (·.2)).all (kT J)=false:=by
  rw[List.all_eq_false];exact⟨z,m,by rw[k];exact Zg⟩
 rw[this,vN]
def S8(h:Wds 65 Z):("notag":Str)∉Z:=λm=>by
 have:=h.abc _ m 110 (by decide +kernel);omega
def QK(h:Wds 97 Z):("NoKind":Str)∉Z:=λm=>by
 have:=h.abc _ m 78 (by decide +kernel);omega
def XA.sh(J:XA Z c d)(h:(y,s)∈Z):VX Z y=some s:=MN J.nd h
def XW(h:(y,s)∈flat Z):(y,s)∈Z:=(zh.mp h).1
def BP(R:XA L c d)(B:(y,Shp.tags G)∈L)(T:(z,Shp.tags J)∈L)(N:z≠y)(m:x∈J):x∉G:=λO=>by
 obtain⟨i,M⟩:=zi.mp B;obtain⟨j,Z⟩:=zi.mp T;have:=R.kg.ap i j y z G J x M Z O m;subst this;rw[M]at Z;cases Z;exact N Y
structure Bds(K:W.Frag)(sa:Addr)(H0:Hp)(p l:Addr)(ks:List (Str×Shp))(hd:Hds)(n:Nat)(H:Hp):Prop where
 ex:∃ts:List Td,Lt K sa H0 p l (ts.map Td.dat) H/\(∀t∈ts,GJ ks hd t)/\1<=ts.length/\ts.length<=n
def Bds.sm(b:Bds K sa H0 p l J G n H)(s:Same H L):Bds K sa H0 p l J G n L:=let⟨Z,h,r⟩:=b.ex;⟨Z,h.sm s,r⟩
def Bds.up(b:Bds K sa H0 p l J G n H)(h:n<=m):Bds K sa H0 p l J G m H:=let⟨Z,N,M,L,O⟩:=b.ex;⟨Z,N,M,L,by omega⟩
def Bds.at(b:Bds K sa H0 p l M N n H):∃Z,H l=some (.lst Z)/\Z.length<=n:=by
 obtain⟨L,h,_,_,O⟩:=b.ex;obtain⟨Z,G,J,_⟩:=h.zs;have:=J.length;rw[ZA]at this;exact⟨Z,G,by omega⟩
def Bds.sb(b:Bds K sa H0 p l Z J n H):SameB p H0 H:=let⟨_,h,_⟩:=b.ex;h.sb
def Bds.pn(b:Bds K sa H0 p l Z J n H):Pen K sa H p:=let⟨_,h,_⟩:=b.ex;h.pn
def Bds.ap{Z:kK}(b:Bds K sa H0 p l J G n H)(h:H l=some (.lst Z))(M:Has H v t.dat)(R:GJ J G t):Bds K sa H0 p l J G (n+1) (upd H l<|.lst<|Z++[v]):=by
 obtain⟨L,O,N,B,T⟩:=b.ex;refine⟨L++[t],?_,λx m=>?_,by rw[ZJ];omega,by rw[ZJ,ze];omega⟩
 .rw [ZI]
  exact O.ap h M t.tn
 .rcases ZV.mp m with m|m
  .exact N x m
  .rw [ZO.mp m];exact R
def UF(h:H t=some (.tup [.str "tag",.str k,UD w])):Has H (.ref t) (Td.tg k w).dat:=by
 unfold Td.dat;refine Yx h<|Z2 Yz<|Z2 Yz<|Z3 ?_;cases w <;> (show Has _ _ _;unfold X6;unfold Has;rfl)
def Xn(h:H t=some (.tup [.str "ask",.str f,.ref a]))(Z:H a=some (.tup<|ns.map V.str)):Has H (.ref t) (Td.ak f ns).dat:=by
 unfold Td.dat;exact Yx h<|Z2 Yz<|Z2 Yz<|Z3<|Yx Z<|VT _
end L2
namespace K4
open PySem L2
section
def TR:Yq ["_law_pen","_law_kinds_here","_law_defined","_law_name","_law_flat_here","_law_kind","_law_shape","_law_small","_law_some","_law_other","_law_head","_law_many","_law_inner"] ["_law_pen","_law_kinds_here","_law_defined","_law_name"] (Yb Tq):=Y6
def Mj:List.Nodup [("_law_one":Str)]:=by decide +kernel
inductive SBT(K:W.Frag)(H:Hp)(Q:VK):List V->Prop
 |mk (p sa kl dl:Addr) (nm:Str) (ks:List (Str×Shp)) (c d:Str->Nat) (ds:List Dd) (pn:Pen K sa H p) (hk:Has H (.ref kl) (.lst (ks.map Vv))) (hdf:Has H (.ref dl) (.lst (ds.map Jp))) (kS:XA ks c d) (l8:ds.length<=8) (nd:(ds.map λx=>x.1.1).Nodup) (p3:∀x∈ds,x.1.2.1.length<=3)
  (q:∀u td H',SameB p H H'->Pen K sa H' p->Has H' u (Td.dat td)->GJ ks (Y1 (ds.map (·.1))) td->Q u H'):SBT K H Q [.ref p,.ref kl,.ref dl,.str nm]
def TZ{z:Str}{o:Nat}(e:z=alpha o)(p J:Addr)(v:V)(Z:ky)(L:Pen K J H p)(M:Has H v (.lst<|Z.map Dat.str))(G:Z.length<=12)(q:FQ K J p o Z H Q):Lw K H Q [.ref p,v,.str z]:=by
 subst e;exact⟨p,J,v,o,Z,L,M,G,q⟩
def Ml{xs:kK}(h:0<xs.length):∃x,atI xs (-1)=some x/\xs[xs.length-1]?=some x:=by
 have e:=List.dropLast_concat_getLast<|List.ne_nil_of_length_pos h;refine⟨_,by rw[<-e];exact BF _ _,?_⟩;rw[List.getLast?_eq_getElem?.symm,List.getLast?_eq_some_getLast (List.ne_nil_of_length_pos h)]
def OD(K:W.Frag):Sp:=λZ H Q _=>SBT K H Q Z
def Ao(B:Blt mg)(F:Fun K "_law_bad_told" "_law_bad_told" Tq f fd)(DN:Df P w K mg base n "_law_next" pnm (J7 K))(DL:Df P w K mg base n "_law_flat_kinds" ["_law_kinds_here"] MI)(DT:Df P w K mg base n "_law_tags_told" ["_law_flat_here"] MD)(DF:Df P w K mg base n "_law_free" ["_law_pen","_law_taken","_law_letters"] (BX K)):Ym P w K mg base CX0 (n+1) f fd ["_law_pen","_law_kinds_here","_law_defined","_law_name"] (OD K):=by
 refine F.oi TR λcdv A outer s H vs Q E hr h=>?_;obtain⟨p,sa,kl,dl,nm,O,c,d,ds,pn,hk,hdf,L,l8,nd,p3,q⟩:=h;refine⟨_,YW (Yp 4 TR.nd<|Yy DL hr<|pa1<|pv 1)
  (YW (Vz (Yf Yw (pv 4)<|Yy DN hr<|pa2 (pv 0)<|Yt Yo rfl B.len Zs (pa1<|pv 4))<|VI (n:=2) rfl (Yj (Yd 5 TR.nd)<|Yj (Yd 6 TR.nd) Y7))
  (YW (Yp 7 TR.nd Y3)
  (YW (Yp 8 TR.nd (Vf (pa5
   (Yv<|pa3 Y3 (Yy DF hr<|pa3 (pv 0) (Vq ["_law_one"] [] (VL<|pv 1) (VP (i:=0)<|by decide) (λcl C fp s H=>Yd 0 Mj rfl (Or.inl rfl) (Or.inr rfl)) λcl C fp s H=>Yf (r:=UB K) Yl (pv 0) YX)<|pv 7) Vc)
   (Yv<|pa3 Y3 (pv 5)<|Yy DF hr<|pa3 (pv 0) (Yy DT hr<|pa1<|pv 4) Y3)
   (Yv<|pa3 Y3 (Yy DF hr<|pa3 (pv 0) (Vq ["_law_one"] [] (VL<|pv 2) (VP (i:=0)<|by decide) (λcl C fp s H=>Yd 0 Mj rfl (Or.inl rfl) (Or.inr rfl)) λcl C fp s H=>Yf (r:=UB K) Yl (pv 0) YX)<|pv 7)<|Yv VR)
   (Yv<|pa3 Y3 (pv 5) Y3)
   (Yv<|pa3 Y3 Y3 Vc))))
  (YW (Vy Zt rfl (VL<|pv 1) (VI (n:=2) rfl (Yj (Yd 9 TR.nd)<|Yj (Yd 6 TR.nd) Y7))
   (YY (Y2 (Yn Vk (Yf Yl (pv 6) YX) Y3<|Yu _) (YY<|VF<|Jm Zx Zy Zz VY (pv 8)<|pa1<|Yv<|pa3 Y3 (pv 9) Vc)
    (YY<|Y2 (Yn GQ (pv 9) (pv 5)<|Yu _) (YY<|VF<|Jm Zx Zy Zz VY (pv 8)<|pa1<|Yv<|pa3 Y3 (pv 5)<|Yf Yl (Yf Yl (pv 6) YX) YX) Yr))))
  (YW (Vy Zt rfl (VL<|pv 2) (Yd 10 TR.nd)
   (YW (Yp 11 TR.nd<|Yt Yo rfl B.len Zs (pa1<|Yf Yl (pv 10) YX))
   (YW (VF<|Jm Zx Zy Zz VY (pv 8)<|pa1<|Yv<|pa3 Y3 (Yf Yl (pv 10) YX)<|Y4 Mh (Yv<|pa1<|pv 3)<|Y4 Vt (pv 11) YX)
   (YW (Y2 (Yn UX (pv 11) YX<|Yu _) (YY<|VF<|Jm Zx Zy Zz VY (pv 8)<|pa1<|Yv<|pa3 Y3 (Yf Yl (pv 10) YX)<|Y4 Mh (Yv<|pa1<|pv 3)<|Y4 Mg (pv 11) YX) Yr)
   (YW (Yp 12 TR.nd<|Y4 Mi (Vq ["_law_one"] [] (Js<|Yf Yl (pv 10) YX) (VP (i:=0)<|by decide) (λcl C fp s H=>Yd 0 Mj rfl (Or.inl rfl) (Or.inr rfl)) λcl C fp s H=>Yf (r:=UB K) Yl (pv 0) YX)<|Vf<|pa1<|Yf Yl (pv 10) YX)
   (YY (Y2 (PW.pt<|XH (Yn Vk (Yf Yl (Yf Yl (Yf Yw (pv 1)<|RZ Wd YX) YX) YX) Y3<|Yu _)<|UW<|Yn Uo (Yf Yl (Yf Yw (pv 1)<|RZ Wd YX) YX) (pv 12) rfl)
    (YY<|VF<|Jm Zx Zy Zz VY (pv 8)<|pa1<|Yv<|pa3 Y3 (Yf Yl (pv 10) YX)<|Y4 Mh (Yv<|pa1<|pv 3)<|pv 11) Yr)))))))
  (YY<|Ys<|Yf Yw (pv 8)<|Yy DN hr<|pa2 (pv 0)<|Yt Yo rfl B.len Zs (pa1<|pv 8))))))),?_⟩
 dsimp only[Vg,Cx.nox,Cx.wish];show let T0:=_;let T1:=_;let T2:=Y9 _ T1 _;let T3:=Yg _ T2;let T4:=_;let T5:=Yg (Y9 _ T4 _) T3;let T6:=Yg _ T5;let T7:=Yg _ T6;let T8:=Yg (J6 _ _ T7) T0;let T9:=_;let T10:=_;let T11:=Y9 _ T10 _;let T12:=Y9 _ T9 T11;let T13:=Yg (J6 _ _ T12) T8;let T14:=Yg _ T13;let T15:=Yg _ T14;let T16:=Yg _ T15;Yg _ T16 _ _ _
 intros
 obtain⟨_,xk,e,G2,J2⟩:=Vr hk;cases e;obtain⟨_,xd,e,N2,M2⟩:=Vr hdf;cases e;have G4:=pn.lst G2 J2<|Dat.nis_of<|VO VZ O;have F3:=pn.lst N2 M2<|Dat.nis_of<|VO Jo ds;have k6:=L.k6;have k0:=L.k0;have f0:=L.f0;have f3:=L.f3;have lxk:=J2.length;rw[ZA]at lxk;have lxd:=M2.length;rw[ZA]at lxd;refine⟨.ref kl,O,hk,by omega,λfa xf H1 ffa s1 F9 F6=>?_⟩;have S2:fa≠p:=pn.ne ffa;have F2:=pn.same s1;have lxf:=F6.length;rw[ZA]at lxf;exists fa,_,Y,.inl<|Z1 F9;refine Ji p sa xf.length Y F2 (by omega) (by omega) λr H2 rl b2 pn2=>?_;have F1:SameB p H H2:=s1.sb.trans b2.sb;obtain⟨⟨y,sh⟩,hy,hyx⟩:=getD F6<|ZC rl;have ym:=ZH hy;obtain⟨ts,rfl,_,t1,t4,tnd⟩:=L.fl.ok y sh ym;have D3:=L.sh<|XW ym;obtain⟨ka,kw,ekv,hka,hkw⟩:=Vw<|Vm b2.sb F2 _ (Dat.ni_of<|VZ _) hyx;refine⟨_,.ref ka,Z1<|b2.sb _ _ S2 F9,Ya (by rw[ZC rl,ekv]),?_⟩;exists _,Z0 hka,Y;have R6:=F1 _ _ G4 G2;have hxk2:=JA F1 pn _ (Dat.nis_of<|VO VZ O) J2;exists ⟨_,Z1 R6⟩;refine Uq (us:=O) (D:=Vv) (E:=λk=>.str k.1) (itl<|Z1 R6) hxk2 (by omega) (λu x R hm hu rT=>?_) λvs l1 H3 fl1 s3 hl1 hvs=>?_
 .obtain ⟨a,v,rfl,ha,_⟩:=Vw hu
  exact⟨_,.str u.1,Z0 ha,Ya (j:=0) Y,rT _ Yz⟩
 obtain rfl:=XU (ns:=O.map (·.1)) (by rw[zf];exact hvs);have pn3:=pn2.same s3;refine TZ Um p sa (.ref l1) (O.map (·.1)) pn3 (VB hl1<|VT _) (by rw[ZA];omega) λx1 H4 I3 pn4 nx1 wx1=>?_;refine⟨sl 3,λt1 F8=>?_⟩;refine up_in F8 _ λH5 s5 g5=>?_;have I9:=pn4.same s5;have sb5:SameB p H H5:=((F1.trans s3.sb).trans I3).trans s5.sb;have d5:Has H5 (.ref t1) (Td.tg x1 none).dat:=UF g5;have R3:SameB p H1 H5:=((b2.sb.trans s3.sb).trans I3).trans s5.sb;refine⟨fa,xf,flat O,R3 _ _ S2 F9,JA R3 F2 _ (Dat.nis_of<|VO VZ _) F6,by omega,λy s m=>?_,λl2 H6 s6 hl2=>?_⟩
 .obtain ⟨ts,e1,_,_,e4,_⟩:=L.fl.ok y s m
  exact⟨ts,e1,e4⟩
 have tl12:=We (fl:=flat O) λy s m=>by
  obtain⟨ts,e1,_,_,e4,_⟩:=L.fl.ok y s m;exact⟨ts,e1,e4⟩
 refine TZ Pg p sa (.ref l2) (WF<|flat O) (I9.same s6) (VB hl2<|VT _) (by omega) λx2 H7 sb7 pn7 nx2 wx2=>?_;refine⟨sl 3,λt2 ht2=>?_⟩;refine up_in ht2 _ λH8 s8 g8=>?_;have I8:=pn7.same s8;have R1:SameB p H5 H8:=(s6.sb.trans sb7).trans s8.sb;have G3:=sb5.trans R1;have d8:Has H8 (.ref t2) (Td.tg y<|some x2).dat:=UF g8;have R7:=G3 _ _ F3 N2;exists ⟨_,Z1 R7⟩;refine Uq (us:=ds) (D:=Jp) (E:=λx=>.str x.1.1) (itl<|Z1 R7) (JA G3 pn _ (Dat.nis_of<|VO Jo ds) M2) (by omega) (λu x R hm hu rT=>?_) λvs l3 H9 fl3 s9 hl3 hvs3=>?_
 .obtain ⟨a,u',w',rfl,ha,_⟩:=Xm hu
  exact⟨_,.str u.1.1,Z0 ha,Ya (j:=0) Y,rT _ Yz⟩
 obtain rfl:=XU (ns:=ds.map λx=>x.1.1) (by rw[zf];exact hvs3);refine TZ Um p sa (.ref l3) (ds.map λx=>x.1.1) (I8.same s9) (VB hl3<|VT _) (by rw[ZA];omega) λx3 HA I2 pnA nx3 wx3=>?_;refine⟨sl 0,λt3 F7=>?_⟩;refine up_in F7 _ λHB sB gB=>?_;refine⟨sl 3,λt4 J5=>?_⟩;refine up_in J5 _ λHC sC gC=>?_;have dC:Has HC (.ref t4) (Td.ak x3 []).dat:=Xn gC<|sC _ _ gB;refine⟨sl 3,λt5 J4=>?_⟩;refine up_in J4 _ λHD sD gD=>?_;have dD:Has HD (.ref t5) (Td.tg y<|some "notag").dat:=UF gD;refine⟨sl 3,λt6 ht6=>?_⟩;refine up_in ht6 _ λHE sE gE=>?_;have dE:Has HE (.ref t6) (Td.tg "NoKind" none).dat:=UF gE;refine⟨sl 5,λl hl=>?_⟩;refine up_in hl _ λHF sF gF=>?_;have I5:=(sD.trans sE).trans sF;have Z8:SameB p H8 HF:=(((s9.sb.trans I2).trans sB.sb).trans sC.sb).trans I5.sb;have I1:=G3.trans Z8;have I7:=(((pnA.same sB).same sC).same sD).same sE;have lp:l≠p:=I7.ne hl;have sbE:SameB p H HE:=G3.trans<|(((s9.sb.trans I2).trans sB.sb).trans sC.sb).trans (sD.trans sE).sb
 have bd:Bds K sa H p l O (Y1<|ds.map (·.1)) 5 HF:=by
  refine⟨[.tg x1 none,.tg y<|some x2,.ak x3 [],.tg y<|some "notag",.tg "NoKind" none],⟨pn,sbE.free lp hl,I1,I7.same sF,_,gF,?_,?_⟩,λt m=>?_,by show 1<=5;decide,ZF _⟩
  .exact Z2 (Jd (I9.tk<|R1.trans Z8) _ (Td.tn _) d5) (Z2 (Jd (I8.tk Z8) _ (Td.tn _) d8)<|Z2 (dC.mono I5)<|Z2 (dD.mono<|sE.trans sF)<|Z3<|dE.mono sF)
  .exact Vp Td.tn _
  .simp only[Zb,yn,or_false]at m
   rcases m with rfl|rfl|rfl|rfl|rfl
   .exact M5 (P5 nx1)
   .exact Du D3 λm=>nx2<|E4 ym m
   .exact CP (LG (by rw[zf];exact nx3))
   .exact Du D3 (S8<|L.kg.tw _ _<|XW ym)
   .exact M5 (P5<|QK L.kg.nm)
 clear dC dD dE d5 d8;have nd':((ds.map (·.1)).map (·.1)).Nodup:=by rw[zf];exact nd
 have hat:∀x∈ds,Y1 (ds.map (·.1)) x.1.1=some x.1.2:=λx m=>XS nd'<|ZU.mpr ⟨x,m,rfl⟩;generalize Y1 (ds.map (·.1))=hd at bd q hat;exists ⟨_,Z1<|I1 _ _ G4 G2⟩
 let I:kL:=λi U Hi=>Bds K sa H p l O hd (5+i) Hi/\∃z6 z9:kO,U=[some (.ref p),some<|.ref kl,some<|.ref dl,some<|.str nm,some<|.ref fa,some<|.str y,z6,some<|.str "abcdefghijklmnopqrstuvwxyz",some<|.ref l,z9,none,none,none]
 refine UZ (xs:=xk) I ⟨bd,_,_,Y⟩ (λi U Hi _ z=>Z1<|z.1.sb _ _ G4 G2) ?_ ?_
 .rintro BB RR i x U Hi hx ⟨bi,z6,z9,rfl⟩
  obtain⟨⟨z,T⟩,hz,F4⟩:=getD J2 hx;have zm:=ZH hz;have il:=(ZE.mp hx).1;obtain⟨za,zw,rfl,L1,F5⟩:=Vw<|Vm bi.sb pn _ (Dat.ni_of<|VZ _) F4;obtain⟨zb,zu,zy,rfl,G5,hzu⟩:=Mt (y:=z) F5;obtain⟨zs,Z,lzs⟩:=bi.at;exists _,Z0 L1,Y;exists _,.str<|shW T,Z0 G5,Ya (j:=0) rfl,rfl,_,rfl
  cases T with
  |pair a b=>
   refine VH (show decide (V.str "pair"=V.str "pair")=true by decide +kernel) ?_;refine⟨.inl ⟨Y,_,Z1 Z⟩,sl 3,λt ht=>?_⟩;refine up_in ht _ λHG sG gG=>?_;exact⟨l,_,_,Y,Y,sG _ _ Z,Yi<|by omega,((bi.sm sG).ap (sG _ _ Z) (UF (w:=none) gG)<|M5<|ES<|L.sh zm),_,_,rfl⟩
  |tags us=>
   refine Y0 (show ¬decide (V.str "tags"=V.str "pair")=true by decide +kernel) ?_;exists Y,_,Y
   by_cases ce:z=y
   .exact Y0 (by simp[ce]) ⟨bi.up<|yS _,_,_,rfl⟩
   .refine VH (by simp[ce]) ?_
    obtain⟨ut,uxs,rfl,hut,hux⟩:=Y5 (show Has Hi zu (.tup<|us.map Dat.str)from hzu);obtain rfl:=XU hux;obtain⟨us',e1,_,u1,_⟩:=L.fl.ok z _<|zh.mpr ⟨zm,rfl⟩;cases e1;obtain⟨u0,hu0⟩:∃u0,us[0]?=some u0:=⟨_,ZC<|by omega⟩;refine⟨.inl ⟨Y,_,Z1 Z⟩,_,_,Z0 G5,Ya (j:=1) Y,_,.str u0,Z0 hut,Ya (j:=0) (by rw[ZG,hu0];rfl),sl 3,λt ht=>?_⟩;refine up_in ht _ λHG sG gG=>?_;exact⟨l,_,_,Y,Y,sG _ _ Z,Yi<|by omega,((bi.sm sG).ap (sG _ _ Z) (UF (w:=some u0) gG)<|Du D3<|BP L (XW ym) zm ce<|ZH hu0),_,_,rfl⟩
 .rintro U Hi ⟨bi,z6,z9,rfl⟩
  exists ⟨_,Z1<|bi.sb _ _ F3 N2⟩
  let J:kL:=λi U Hi=>Bds K sa H p l O hd (11+3*i) Hi/\∃R8 X M:kO,U=[some (.ref p),some<|.ref kl,some<|.ref dl,some<|.str nm,some<|.ref fa,some<|.str y,z6,some<|.str "abcdefghijklmnopqrstuvwxyz",some<|.ref l,z9,R8,X,M]
  refine UZ (xs:=xd) J ⟨bi.up<|by omega,_,_,_,rfl⟩ (λi U Hi _ z=>Z1<|z.1.sb _ _ F3 N2) ?_ ?_
  .rintro BB RR i x U Hj hx ⟨bj,R8,X,M,rfl⟩
   obtain⟨G,hdx,hxx⟩:=getD M2 hx;have dm:=ZH hdx;have il:=(ZE.mp hx).1;have hh:=hat G dm;have x3:=p3 G dm;obtain⟨a,u,w',rfl,ha,hu,_⟩:=Xm<|Vm bj.sb pn _ (Dat.ni_of<|Jo _) hxx;obtain⟨ua,us,rfl,hua,hus⟩:=Y5 (show Has Hj u (.tup<|G.1.2.1.map prD)from hu);have lus:=hus.length;rw[ZA]at lus;obtain⟨zs,Z,lzs⟩:=bj.at;exists _,.ref ua,Z0 ha,Ya (j:=1) Y,ua,_,Y,.inr<|Z0 hua;refine⟨.inl ⟨Y,_,Z1 Z⟩,_,.str G.1.1,Z0 ha,Ya (j:=0) Y,sl 1,λt1 F8=>?_⟩;refine up_in F8 _ λHG sG gG=>?_;refine⟨t1,us.length+1,.str nm,Y,Y,gG,by omega,λrp HH sH hrp=>?_⟩;refine⟨sl 3,λt3 F7=>?_⟩;refine up_in F7 _ λHI sI gI=>?_;have D0:=(sG.trans sH).trans sI;have hz1:=D0 _ _ Z;refine⟨l,_,_,Y,Y,hz1,Yi<|by omega,?_⟩;have b1:=(bj.sm D0).ap hz1 (Xn (ns:=List.replicate (us.length+1) nm) gI (by rw[vR];exact sI _ _ hrp)) (Ln hh (by rw[yt];omega));have o:TK Hj (upd HI l<|.lst<|zs++[.ref t3]):=λb xs h=>by rw[Yc (V8 h Z λz=>nomatch z)];exact D0 _ _ h
   generalize upd HI l (.lst<|zs++[.ref t3])=HK at b1 o |-;dsimp only[Vi]
   let S:Option V->Option V->St:=λX M=>[some (.ref p),some<|.ref kl,some<|.ref dl,some<|.str nm,some<|.ref fa,some<|.str y,z6,some<|.str "abcdefghijklmnopqrstuvwxyz",some<|.ref l,z9,some<|.ref a,X,M]
   refine Ve (λU' H'=>Bds K sa H p l O hd (11+3*i+2) H'/\TK Hj H'/\U'=S (some<|.int (us.length:Nat)) M) ?_ ?_
   case refine_2=>
    intro NN C2;exists _,Y
    by_cases c0:0<us.length
    .refine VH (by exact decide_eq_true<|by omega) ?_
     obtain⟨zs2,Z9,lzs2⟩:=b1.at;refine⟨.inl ⟨Y,_,Z1 Z9⟩,_,.str G.1.1,Z0<|o _ _ ha,Ya (j:=0) rfl,sl 1,λt4 J5=>?_⟩;refine up_in J5 _ λHL sL gL=>?_;refine⟨t4,us.length-1,.str nm,Y,congrArg V.int<|by omega,gL,by omega,λrp2 HM sM G1=>?_⟩;refine⟨sl 3,λt5 J4=>?_⟩;refine up_in J4 _ λHN sN gN=>?_;have N:=(sL.trans sM).trans sN;have J1:=N _ _ Z9;refine⟨l,_,_,Y,Y,J1,Yi<|by omega,C2 _ _ ⟨(b1.sm N).ap J1 (Xn (ns:=List.replicate (us.length-1) nm) gN (by rw[vR];exact sN _ _ G1)) (Ln hh (by rw[yt];omega)),λb xs h=>?_,rfl⟩⟩;rw[Yc (V8 (o _ _ h) Z9 λz=>nomatch z)];exact N _ _<|o _ _ h
    .exact Y0 (λz=>c0 (by have:=Zr z;omega)) (C2 _ _ ⟨b1.up<|yS _,o,rfl⟩)
   rintro U' HO ⟨b2,g,rfl⟩;have R5:=g _ _ hua;exists _,.ref ua,Z0<|g _ _ ha,Ya (j:=1) rfl,⟨_,Z0 R5⟩;refine Uq (us:=G.1.2.1) (D:=prD) (E:=λp=>.str p.2) (itt<|Z0 R5) (JM g _ (VO Wt _) hus) (by omega) (λu x R hm hu rT=>?_) λvs l4 HP fl4 sP hl4 hvs4=>?_
   .obtain ⟨t8,rfl,ht8⟩:=W5 hu
    exact⟨_,.str u.2,Z0 ht8,Ya (j:=1) Y,rT _ Yz⟩
   obtain rfl:=XU (ns:=G.1.2.1.map (·.2)) (by rw[zf];exact hvs4);refine⟨_,.str G.1.2.2,Z0<|sP _ _<|g _ _ ha,Ya (j:=2) rfl,sl 1,λl5 hl5=>?_⟩;refine up_in hl5 _ λHQ sQ gQ=>?_;refine⟨l4,l5,_,_,Y,Y,sQ _ _ hl4,gQ,Zf (Yi (by rw[ZA,ZA];show _+1<=1000;omega)),λl6 hl6=>?_⟩;refine up_in hl6 _ λHR sR gR=>?_;have I4:=(sP.trans sQ).trans sR;have b3:=b2.sm I4;obtain⟨xl,I0,xl2⟩:=Ml (xs:=xk) (by omega);obtain⟨⟨z,T⟩,hz,F4⟩:=getD J2 xl2;have zm:=ZH hz;obtain⟨za,zw,rfl,L1,F5⟩:=Vw<|Vm b3.sb pn _ (Dat.ni_of<|VZ _) F4;obtain⟨zb,zu,zy,rfl,G5,hzu⟩:=Mt (y:=z) F5;have hkR:=b3.sb _ _ G4 G2;exists _,Y,_,_,Z1 hkR,I0,_,_,Z0 L1,Ya (j:=1) Y,_,.str<|shW T,Z0 G5,Ya (j:=0) rfl,rfl,_,rfl;have fin:J (i+1) (S (some<|.int (us.length:Nat))<|some<|.ref l6) HR:=⟨b3.up<|by omega,_,_,_,rfl⟩
   cases T with
   |tags us'=>exact Y0 (show ¬decide (V.str "tags"=V.str "pair")=true by decide +kernel) fin
   |pair a' b'=>
    refine VH (show decide (V.str "pair"=V.str "pair")=true by decide +kernel) ?_;have e12:(G.1.2.1.map (·.2)).map V.str++[V.str G.1.2.2]=(G.1.2.1.map (·.2)++[G.1.2.2]).map V.str:=by rw[ZI];rfl
    rw[e12]at gR;exists _,Y,_,_,Z1 hkR,I0,_,.str z,Z0 L1,Ya (j:=0) Y,l6,_,Y,.inl<|Z1 gR,rfl,JG _,_,rfl;rw[JZ]
    by_cases mz:z∈G.1.2.1.map (·.2)++[G.1.2.2]
    .refine VH (by simpa using mz) ?_
     obtain⟨zs3,R4,lzs3⟩:=b3.at;have haR:=I4 _ _<|g _ _ ha;refine⟨.inl ⟨Y,_,Z1 R4⟩,_,.str G.1.1,Z0 haR,Ya (j:=0) Y,sl 1,λt4 J5=>?_⟩;refine up_in J5 _ λHL sL gL=>?_;refine⟨t4,us.length,.str nm,Y,Y,gL,by omega,λrp2 HM sM G1=>?_⟩;refine⟨sl 3,λt5 J4=>?_⟩;refine up_in J4 _ λHN sN gN=>?_;have N:=(sL.trans sM).trans sN;have J1:=N _ _ R4;refine⟨l,_,_,Y,Y,J1,Yi<|by omega,?_,_,_,_,rfl⟩;refine((b3.sm N).ap J1 (Xn (ns:=List.replicate us.length nm) gN (by rw[vR];exact sN _ _ G1))<|Pf hh ?_<|ES<|L.sh zm).up (by omega);rcases ZV.mp mz with m|m
     .exact ZK _ m
     .rw [ZO.mp m];exact ZY
    .exact Y0 (by simpa using mz) fin
  .rintro U Hj ⟨bj,R8,X,M,rfl⟩
   obtain⟨ts9,lt,bad,l1',l2'⟩:=bj.ex;obtain⟨zs,Z,hh,tn⟩:=lt.zs;have lz:=hh.length;rw[ZA]at lz;exists l,_,Y,.inl<|Z1 Z;refine Ji p sa zs.length Y bj.pn (by omega) (by omega) λr9 HS I6 b9 pn9=>?_;obtain⟨td,htd,hv⟩:=getD hh<|ZC I6;exists _,_,Z1<|b9.sb _ _ lp Z,Ya<|ZC I6;exact q _ td HS (bj.sb.trans b9.sb) pn9 (Jd (bj.pn.tk b9.sb) _ td.tn hv)<|bad td<|ZH htd
end
end K4
namespace L2
open PySem
structure D4(ks:List (Str×Shp))(hd:Hds)(seen:List Str)(x:Ce):Prop where
 no:¬Pl ks hd seen x
 tx:x.1.length<=20
def Ph(h:GJ Z J t)(l:n.length<=20):D4 Z J seen (n,t):=⟨λo=>Bool.noConfusion<|h.symm.trans o.2.2,l⟩
def Gz(h:JX 97 n=false)(l:n.length<=20):D4 Z J seen (n,t):=⟨λo=>Bool.noConfusion<|h.symm.trans o.1,l⟩
def Pi(h:n∈seen)(l:n.length<=20):D4 Z J seen (n,t):=⟨λo=>o.2.1 h,l⟩
def NB{x:Str}(h:JX 97 x=true):1<=x.length/\x.length<=8/\∀c∈x.cps.toList,97<=c/\c<97+26:=by
 unfold JX at h;rw[ZX,ZX]at h;refine⟨Zr h.1,Zr h.2.1,λc m=>?_⟩;have:=vy.mp h.2.2 c m;unfold Tu at this;rw[ZX]at this;exact⟨Zr this.1,Zr this.2⟩
def NC(n:¬(1<=x.length/\x.length<=8/\∀c∈x.cps.toList,97<=c/\c<97+26)):JX 97 x=false:=by
 cases e:JX 97 x with
 |false=>rfl
 |true=>exact Zp (NB e) n
def str_len(a b:Str):(a++ b).length=a.length+b.length:=by show(a.cps++ b.cps).size=_;rw[Array.size_append];rfl
def zS(n:Str):JX 97 (n++ "1")=false:=NC λh=>by
 have:=h.2.2 49 (by show 49∈(n.cps++ ("1":Str).cps).toList;rw[Array.toList_append];exact ZV.mpr<|.inr<|by decide +kernel);omega
def zR(h:1<=n.length):JX 97 (n++ "abcdefgh")=false:=NC λz=>by
 have:=z.2.1;rw[str_len,show("abcdefgh":Str).length=8 by decide +kernel]at this;omega
end L2
namespace K4
open PySem L2
section
def OQ:Yq ["_law_pen","_law_kinds_here","_law_defined","_law_cells_here","_law_at","_law_name","_law_told","_law_ahead"] ["_law_pen","_law_kinds_here","_law_defined","_law_cells_here","_law_at"] (Yb Tr):=Y6
inductive SBS(K:W.Frag)(H:Hp)(Q:VK):List V->Prop
 |mk (p sa kl dl la:Addr) (ks:List (Str×Shp)) (c d:Str->Nat) (ds:List Dd) (cs:List Ce) (k:Nat) (x:Ce) (pn:Pen K sa H p) (hk:Has H (.ref kl) (.lst (ks.map Vv))) (hdf:Has H (.ref dl) (.lst (ds.map Jp))) (kS:XA ks c d) (l8:ds.length<=8) (nd:(ds.map λx=>x.1.1).Nodup) (p3:∀x∈ds,x.1.2.1.length<=3)
  (hl:Has H (.ref la) (.lst (cs.map ceD))) (hx:cs[k]?=some x) (l30:cs.length<=30) (wd:∀x∈cs,1<=x.1.length/\x.1.length<=8) (q:∀u x' H',SameB p H H'->Pen K sa H' p->Has H' u (ceD x')->D4 ks (Y1 (ds.map (·.1))) ((cs.take k).map (·.1)) x'->Q u H'):SBS K H Q [.ref p,.ref kl,.ref dl,.ref la,.int (k:Nat)]
def OE(K:W.Frag):Sp:=λZ H Q _=>SBS K H Q Z
def Ap(F:Fun K "_law_bad_self" "_law_bad_self" Tr f fd)(DN:Df P w K mg base n "_law_next" pnm (J7 K))(DB:Df P w K mg base n "_law_bad_told" ["_law_pen","_law_kinds_here","_law_defined","_law_name"] (OD K)):Ym P w K mg base CX0 (n+1) f fd ["_law_pen","_law_kinds_here","_law_defined","_law_cells_here","_law_at"] (OE K):=by
 refine F.oi OQ λR1 A Z8 s H vs Q E g h=>?_;obtain⟨p,B,kl,dl,la,ks,c,d,ds,cs,k,x,O,hk,G4,kS,l8,nd,p3,hl,hx,L1,wd,q⟩:=h;refine⟨_,YW (Vz (Yf Yw (pv 3)<|pv 4)<|VI (n:=2) rfl (Yj (Yd 5 OQ.nd)<|Yj (Yd 6 OQ.nd) Y7))
  (YW (Y2 (Yn UX (Yy DN g<|pa2 (pv 0) YX) YX<|Yu _) (YY<|Ys<|Yv<|pa2 (pv 5)<|Yy DB g<|pa4 (pv 0) (pv 1) (pv 2)<|pv 5) Yr)
  (YW (Yp 7 OQ.nd<|KJ (Yn Vk (pv 4) YX<|Yu _) Y3<|Yf Yl (Yf Yw (pv 3)<|Yy DN g<|pa2 (pv 0)<|pv 4) YX)
  (YY<|Ys<|Yv<|pa2 (Yf Yw (Vf<|pa4 Y3 (Y4 UQ (pv 5) Y3) (Y4 UQ (pv 5) Y3)<|pv 7) (Yy DN g<|pa2 (pv 0) YX) λ_ _=>rfl)<|pv 6))),?_⟩
 dsimp only[Vg,Cx.nox,Cx.wish];show let T0:=_;let T1:=Yg _ T0;let T2:=_;let T3:=Yg (Y9 _ T2 _) T1;Yg _ T3 _ _ _
 intros
 obtain⟨_,xs,e,M,G⟩:=Vr hl;cases e;have G5:=Dat.nis_tn<|Vp V5 cs;have Z9:=O.lst M G G5;have J2:=G.length;rw[ZA]at J2;have M2:=(ZE.mp hx).1;obtain⟨w1,w8⟩:=wd x<|ZH hx;obtain⟨v0,C⟩:∃v,xs[k]?=some v:=⟨_,ZC<|by omega⟩;obtain⟨x0,e0,hv⟩:=getD G C;rw[hx]at e0;cases e0;obtain⟨t,u,rfl,ht,hu⟩:=U3 hv;exists _,_,Z1 M,Ya C,_,Z0 ht,Y;refine⟨p,B,3,O,by decide,by decide,λr H1 r3 y L=>⟨_,Y,?_⟩⟩
 by_cases r0:0<r
 .refine VH (by exact decide_eq_true<|by omega) ?_
  refine⟨p,B,kl,dl,x.1,ks,c,d,ds,L,Vm y.sb O _ (XN<|VO VZ ks) hk,Vm y.sb O _ (XN<|VO Jo ds) G4,kS,l8,nd,p3,λub td H2 Z J J4 bt=>?_⟩;refine⟨sl 2,λt2 G2=>?_⟩;refine up_in G2 _ λH3 N g3=>?_;exact q _ (x.1,td) H3 ((y.sb.trans Z).trans N.sb) (J.same N) (Yx g3<|Z2 Yz<|Z3<|J4.mono N)<|Ph bt<|by omega
 refine Y0 (λz=>r0 (by have:=Zr z;omega)) ?_;dsimp only[IL]
 let S:Option V->St:=λz7=>[some (.ref p),some<|.ref kl,some<|.ref dl,some<|.ref la,some<|.int (k:Nat),some<|.str x.1,some u,z7]
 refine Ve (λU' H'=>∃a:Str,SameB p H H'/\Pen K B H' p/\a.length<=20/\(JX 97 a=false\/a∈(cs.take k).map (·.1))/\U'=S (some<|.str a)) ?_ ?_
 case refine_2=>
  intro NN I;exists Y,_,Y
  by_cases k0:k=0
  .subst k0
   exact VH (by decide)<|I _ _ ⟨"",y.sb,L,by decide,.inl<|by decide +kernel,rfl⟩
  .refine Y0 (λz=>k0 (by have z1:=Zr z;injection z1 with z2;omega)) ?_
   refine⟨p,B,k,L,by omega,by omega,λj H2 jl b2 J=>?_⟩;have Z:=y.sb.trans b2.sb;obtain⟨vj,U⟩:∃v,xs[j]?=some v:=⟨_,ZC<|by omega⟩;obtain⟨R,ej,hj⟩:=getD G U;obtain⟨tj,uj,rfl,J5,N2⟩:=U3<|Jd (O.tk Z) _ (V5 R) hj;refine⟨_,_,Z1<|Z _ _ Z9 M,Ya U,_,.str R.1,Z0 J5,Ya (j:=0) rfl,I _ _ ⟨R.1,Z,J,?_,.inr ?_,rfl⟩⟩
   .have:=wd R<|ZH ej;omega
   .exact ZU.mpr ⟨R,ZH (i:=j) (by rw[ya,Zn jl];exact ej),rfl⟩
 rintro U' H2 ⟨a,Z,J,m,aw,rfl⟩;have l1:(x.1++ "1").length<=20:=by rw[str_len,show("1":Str).length=1 by decide +kernel];omega
 have l2:(x.1++ "abcdefgh").length<=20:=by rw[str_len,show("abcdefgh":Str).length=8 by decide +kernel];omega
 refine⟨_,_,Y,Y,Zf<|Yi (by rw[show("1":Str).length=1 by decide +kernel];omega),_,_,rfl,rfl,Zf<|Yi (by rw[show("abcdefgh":Str).length=8 by decide +kernel];omega),sl 4,λl4 X=>?_⟩;refine up_in X _ λH3 N g3=>?_;have J1:l4≠p:=J.ne X;refine⟨p,B,4,J.same N,by decide,by decide,λr4 H4 b b4 o=>?_⟩;have T:=(Z.trans N.sb).trans b4.sb
 obtain⟨D,G3,bw⟩:∃D:Str,[V.str "",.str<|x.1++ "1",.str<|x.1++ "abcdefgh",.str a][r4]?=some (.str D)/\D4 ks (Y1<|ds.map (·.1)) ((cs.take k).map (·.1)) (D,x.2):=by
  match r4,b with
  |0,_=>exact⟨_,Y,Gz (by decide +kernel)<|by decide⟩
  |1,_=>exact⟨_,Y,Gz (zS _) l1⟩
  |2,_=>exact⟨_,Y,Gz (zR w1) l2⟩
  |3,_=>
   exists _,Y;rcases aw with z|z
   .exact Gz z m
   .exact Pi z m
 refine⟨_,.str D,Z1<|b4.sb _ _ J1 g3,Ya G3,sl 2,λt5 G1=>?_⟩;refine up_in G1 _ λH5 l g5=>?_;exact q _ (D,x.2) H5 (T.trans l.sb) (o.same l) (Yx g5<|Z2 Yz<|Z3<|(Jd (O.tk T) _ x.2.tn hu).mono l) bw
def Qd:Yq ["_law_pen","_law_kinds_here","_law_defined","_law_cells_here","_law_low","_law_high","_law_spoilt","_law_name"] ["_law_pen","_law_kinds_here","_law_defined","_law_cells_here","_law_low","_law_high"] (Yb K2):=Y6
inductive STW(K:W.Frag)(H:Hp)(Q:VK):List V->Prop
 |mk (p sa kl dl la:Addr) (ks:List (Str×Shp)) (c d:Str->Nat) (ds:List Dd) (cs:List Ce) (k j:Nat) (pn:Pen K sa H p) (hk:Has H (.ref kl) (.lst (ks.map Vv))) (hdf:Has H (.ref dl) (.lst (ds.map Jp))) (kS:XA ks c d) (l8:ds.length<=8) (nd:(ds.map λx=>x.1.1).Nodup) (p3:∀x∈ds,x.1.2.1.length<=3)
  (hl:Has H (.ref la) (.lst (cs.map ceD))) (kl':k<cs.length) (jl:j<cs.length) (kj:k<=j) (l30:cs.length<=30) (wd:∀x∈cs,1<=x.1.length/\x.1.length<=8)
  (q:∀l xs' x' td H',SameB p H H'->Pen K sa H' p->H' l=some (.lst xs')->HasL H' xs' ((if k<j then(cs.set k x').set j td else cs.set k x').map ceD)->D4 ks (Y1 (ds.map (·.1))) ((cs.take k).map (·.1)) x'->td.1.length<=8->Q (.ref l) H'):STW K H Q [.ref p,.ref kl,.ref dl,.ref la,.int (k:Nat),.int (j:Nat)]
def QT(K:W.Frag):Sp:=λZ H Q _=>STW K H Q Z
def Gy(Z:List Ce)(k:Nat)(x:Ce):(Z.set k x).map ceD=(Z.map ceD).set k (ceD x):=List.map_set
def Aa(B:Blt mg)(F:Fun K "_law_two_wrong" "_law_two_wrong" K2 f fd)(DS:Df P w K mg base n "_law_bad_self" ["_law_pen","_law_kinds_here","_law_defined","_law_cells_here","_law_at"] (OE K))(DB:Df P w K mg base n "_law_bad_told" ["_law_pen","_law_kinds_here","_law_defined","_law_name"] (OD K)):Ym P w K mg base CX0 (n+1) f fd ["_law_pen","_law_kinds_here","_law_defined","_law_cells_here","_law_low","_law_high"] (QT K):=by
 refine F.oi Qd λR3 A J2 s H vs Q E hr h=>?_;obtain⟨p,x,kl,dl,la,ks,c,d,ds,T,k,j,O,hk,r,kS,l8,nd,p3,hl,G3,jl,kj,G1,i,q⟩:=h;refine⟨_,YW (Yp 6 Qd.nd<|VM JB rfl B.list Vo (pa1<|pv 3))
  (YW (Vz (Yy DS hr<|pa5 (pv 0) (pv 1) (pv 2) (pv 3)<|pv 4)<|XI (pv 6) (pv 4) set_list)
  (YW (Y2 (Yn Th (pv 4) (pv 5)<|Yu _)
   (YW (Yp 7 Qd.nd<|Yf Yl (Yf Yw (pv 3)<|pv 5) YX)
   (YY<|Vz (Yv<|pa2 (pv 7)<|Yy DB hr<|pa4 (pv 0) (pv 1) (pv 2)<|pv 7)<|XI (pv 6) (pv 5) set_list)) Yr)
  (YY<|Ys<|pv 6))),?_⟩
 dsimp only[Vg,Cx.nox,Cx.wish];show let T0:=_;let T1:=_;let T2:=Yg _ T1;let T3:=Yg (Y9 _ T2 _) T0;let T4:=Yg _ T3;Yg _ T4 _ _ _
 intros
 obtain⟨_,G,e,I,R⟩:=Vr hl;cases e;have b:=Dat.nis_tn<|Vp V5 T;have J4:=O.lst I R b;have J5:=R.length;rw[ZA]at J5;have G2:=XN<|VO VZ ks;have M2:=XN<|VO Jo ds;have N2:(Dat.lst<|T.map ceD).ni=true:=by unfold Dat.ni;exact b
 refine⟨la,_,Y,.inl<|Z1 I,λl J=>?_⟩;refine up_in J _ λH1 t g1=>?_;have m:l≠p:=O.ne J;have J1:=O.same t;refine⟨p,x,kl,dl,la,ks,c,d,ds,T,k,T[k],J1,hk.mono t,r.mono t,kS,l8,nd,p3,hl.mono t,ZC G3,G1,i,λu o S D Z9 hu bx=>?_⟩;refine⟨l,_,(k:Nat),k,Y,Y,D _ _ m g1,Tt<|by omega,?_⟩;have M:=t.sb.trans D;have g2:=D _ _ m g1;have X:TK S (upd S l<|.lst<|G.set k u):=J3 g2 λG z=>nomatch z
 have h3:HasL (upd S l<|.lst<|G.set k u) (G.set k u) ((T.set k o).map ceD):=by
  rw[Gy];exact HasL.set (JL X _ (Vp V5 T)<|JL (O.tk M) _ (Vp V5 T) R)<|Jd X _ (V5 o) hu
 have Z:SameB p H (upd S l<|.lst<|G.set k u):=M.put J;have N:Pen K x (upd S l<|.lst<|G.set k u) p:=O.put M Z9 J m;have g3:upd S l (.lst<|G.set k u) l=some (.lst<|G.set k u):=YZ;generalize upd S l (.lst<|G.set k u)=H3 at h3 Z N g3 |-;exists _,Y
 by_cases c1:k<j
 case neg=>
  refine Y0 (λz=>c1 (by have:=Zr z;omega)) ?_;exact q l _ o T[k] H3 Z N g3 (by rw[Zo c1];exact h3) bx (i _<|yX _).2
 refine VH (by exact decide_eq_true<|by omega) ?_;obtain⟨v0,g⟩:∃v,G[j]?=some v:=⟨_,ZC<|by omega⟩;obtain⟨U,ej,hj⟩:=getD R g;obtain⟨tj,uj,rfl,G5,R1⟩:=U3<|Jd (O.tk Z) _ (V5 U) hj;exists _,_,Z1<|Z _ _ J4 I,Ya g,_,.str U.1,Z0 G5,Ya (j:=0) rfl;refine⟨p,x,kl,dl,U.1,ks,c,d,ds,N,Vm Z O _ G2 hk,Vm Z O _ M2 r,kS,l8,nd,p3,λub td H4 a Z8 G4 bt=>?_⟩;refine⟨sl 2,λt5 L1=>?_⟩;refine up_in L1 _ λH5 s5 g5=>?_;have L:=a.trans s5.sb;have y:=Z.trans L;have gl:=L _ _ m g3;refine⟨l,_,(j:Nat),j,Y,Y,gl,Tt (by rw[zp];omega),?_⟩;have C:TK H5 (upd H5 l<|.lst<|(G.set k u).set j<|.ref t5):=J3 gl λG z=>nomatch z
 refine q l _ o (U.1,td) _ (y.put J) (O.put y (Z8.same s5) J m) YZ ?_ bx (i U<|ZH ej).2;rw[Zn c1,Gy];exact HasL.set (JL C _ (Vp V5 _)<|JL (N.tk L) _ (Vp V5 _) h3)<|Jd C _ (V5 (U.1,td))<|Yx g5<|Z2 Yz<|Z3<|G4.mono s5
end
end K4
namespace L2
open PySem
def FD{Z:kJ}(h:VD Z k=none):putK (Z++[(k,v)]) k J=Z++[(k,J)]:=by
 have G:=NI h;unfold putK;rw[Zn (by rw[List.any_append];simp),ZI]
 congr 1
 .refine (vL λL m=>?_).trans (List.map_id _)
  rw[Zo λz=>G (ZU.mpr ⟨L,m,z⟩)];rfl
 .simp
def itd{Z:kJ}(h:H d=some (.frz o<|.dK Z)):Itx (Itd d o Z) H (Z.map λJ=>kV J.1):=⟨λi G=>⟨h,by rw[ZA]at G;exact G⟩,⟨h,by rw[ZA]⟩,λi x M y=>by
 obtain⟨e,J,L,rfl⟩:=y;exact⟨e,by rw[ZG,L];rfl⟩⟩
def EV{ds:List Dd}(h:Y1 (ds.map (·.1)) f=some pp):∃x r,ds.filter (λx=>decide<|x.1.1=f)=x::r/\x∈ds/\x.1=(f,pp):=by
 unfold Y1 at h;rw[List.find?_map]at h
 cases e:ds.find? ((λh=>decide<|h.1=f) ∘ λx:Dd=>x.1)with
 |none=>rw[e]at h;cases h
 |some x=>
  rw[e]at h;obtain⟨r,Z⟩:=K4.find_filter e;have L:=List.find?_some e;have G:x.1.1=f:=Zr L;exists x,r,Z,zz e;have J:x.1.2=pp:=ZP h;rw[<-G,<-J]
def Gs{Z:List Ce}(J:(Z.map (·.1)).Nodup)(m:x∈Z):JF hd Z x.1=some (tdK hd x.2):=by
 induction Z with
 |nil=>cases m
 |cons y Z ih=>
  rw[ZT,zW]at J;unfold JF;rw[zo];rcases Zb.mp m with rfl|m
  .rw [decide_eq_true rfl];rfl
  .rw [Zw λz=>J.1 (by rw[z];exact ZU.mpr ⟨x,m,Y⟩)]
   exact ih J.2 m
def LB{Z:List Ce}(h:z∉Z.map (·.1)):JF J Z z=none:=by
 unfold JF;rw[Option.map_eq_none_iff,vO];intro x m e;exact h<|ZU.mpr ⟨x,m,Zr e⟩
def Kx{α β:Type}{g:α->β}{Z:List α}{z:α}{J:List β}{k:β}(e:(Z++[z]).map g=J++[k]):g z=k:=by
 rw[ZI]at e;exact(List.cons.inj (List.append_inj' e rfl).2).1
def Lh(Z:kK)(x:V):U4 (Z++[x]) none (some<|-1)=Z:=by
 unfold U4 HT.sIx;rw[ZJ,ze];simp;rw[show((-1:Int)+((Z.length:Int)+1)).toNat=Z.length by omega,List.take_left]
end L2
namespace K4
open PySem L2
section
def KN{X:Cx}(D:Df X.prog X.w X.K X.mg X.base k x [] J)(L:VW k X.A)(M:Gl X x:=by exact Y)(Z:(x==("__debug__":Str))=false:=by decide):PE X (.Call (.Name x p) [] [] pos) (RT J [] E0 Xu):=let⟨_,_,m,k,b,G⟩:=D;KS G L M m k b .nil VQ Z
def MP:Yq ["_law_pen","_law_defined","_law_cells_here","_law_at","_law_kinds_told","_law_name","_law_told","_law_wanted","_law_others","_law_strange"] ["_law_pen","_law_defined","_law_cells_here","_law_at"] (Yb W0):=Y6
def P1:List.Nodup [("_law_row":Str),"_law_told"]:=by decide +kernel
def SH:List.Nodup [("_law_one":Str),"_law_kinds_told","_law_wanted"]:=by decide +kernel
def SM:List.Nodup [("_law_one":Str),"_law_kinds_told"]:=by decide +kernel
inductive Cb(K:W.Frag)(H:Hp)(Q:VK):List V->Prop
 |mk (p sa dl la:Addr) (ks:List (Str×Shp)) (ds:List Dd) (cs:List Ce) (k:Nat) (x:Ce) (pn:Pen K sa H p) (hdf:Has H (.ref dl) (.lst (ds.map Jp))) (l8:ds.length<=8) (p3:∀x∈ds,x.1.2.1.length<=3) (hl:Has H (.ref la) (.lst (cs.map ceD))) (hx:cs[k]?=some x) (l26:cs.length<=26) (g:GoodC ks (Y1 (ds.map (·.1))) cs)
  (qn:∀H',SameB p H H'->Pen K sa H' p->Q .non H')
  (q:∀u f ns ns' H',SameB p H H'->Pen K sa H' p->x.2=.ak f ns->ns'.length=ns.length->Has H' u (ceD (x.1,.ak f ns'))->ns'.map (JF (Y1 (ds.map (·.1))) cs)≠(psK (Y1 (ds.map (·.1))) f).map some->Q u H'):Cb K H Q [.ref p,.ref dl,.ref la,.int (k:Nat)]
def IZ(K:W.Frag):Sp:=λZ H Q _=>Cb K H Q Z
def Q9(hn:2<=n)(B:Blt mg)(F:Fun K "_law_bad_names" "_law_bad_names" W0 f G)(DN:Df P w K mg base n "_law_next" pnm (J7 K))(DW:Df P w K mg base n "_law_wide_names" [] MB):Ym P w K mg base CX0 (n+1) f G ["_law_pen","_law_defined","_law_cells_here","_law_at"] (IZ K):=by
 refine F.oi MP λcdv A outer s H vs Q E hr h=>?_;obtain⟨p,sa,dl,la,ks,ds,Z,k,x,pn,hdf,l8,p3,hl,hx,l26,gc,qn,q⟩:=h;have t:=Jz hr;have hr2:VW (1+1) _:=hr.mono hn;refine⟨_,YW (Yp 4 MP.nd (JE) (hx:=Or.inr Y))
  (YW (Vy Zt rfl (VL<|pv 2) (VI (n:=2) rfl (Yj (Yd 5 MP.nd)<|Yj (Yd 6 MP.nd (hx:=Or.inr rfl)) Y7))
   (YW (V3 t (pv 4) (pv 5) (Yf Yl (pv 6)<|YX) rfl)
  (YY<|Y2 (Yn Vk (Yf Yl (pv 6)<|YX) Y3<|Yu _) (YY<|V3 t (pv 4) (pv 5) (Yf Yw (Xf ["_law_row"] [6] (VL<|pv 1) (VP (i:=0)<|by decide) (λcl C l s H=>Yd 0 P1 rfl (Or.inl rfl) (Or.inr rfl)) (λcl C l s H=>Yn Vk (Yf (r:=UB K) Yl (pv 0)<|YX) (Yf (r:=UB K) Yl (pv 1)<|YX)<|Yu _) λcl C l s H=>Yf (r:=UB K) Yl (pv 0)<|YX)<|YX) rfl) Yr)))
  (YW (Vz (Yf Yw (pv 2)<|pv 3)<|VI (n:=2) rfl (Yj (Yd 5 MP.nd)<|Yj (Yd 6 MP.nd (hx:=Or.inr rfl)) Y7))
  (YW (Y2 (PW.pt<|Jq (Yn Vk (Yf Yl (pv 6)<|YX) Y3<|Yu _)<|Jc<|Yn (B9 hr2) (Yf Yl (pv 6)<|YX) (Yv VR)<|Yu _) (YY<|Ys<|Vc) Yr)
  (YW (Yp 7 MP.nd (Yf Yw (Xf ["_law_row"] [6] (VL<|pv 1) (VP (i:=0)<|by decide) (λcl C l s H=>Yd 0 P1 rfl (Or.inl rfl) (Or.inr rfl)) (λcl C l s H=>Yn Vk (Yf (r:=UB K) Yl (pv 0)<|YX) (Yf (r:=UB K) Yl (pv 1)<|YX)<|Yu _) λcl C l s H=>Yf (r:=UB K) Yl (pv 0)<|YX)<|YX) (hx:=Or.inr rfl))
  (YW (Xe (i0:=8) ["_law_one"] [4,7] MP.nd rfl (Or.inl rfl) (OY<|pv 4) (VP (i:=0)<|by decide) (λcl C l s H=>Yd 0 SH rfl (Or.inl rfl) (Or.inr rfl)) (λcl C l s H=>Yn GQ (Ja t (pv 1) (pv 0) λ_ _=>rfl) (Yf (r:=UB K) Yl (Yf (r:=UB K) Yl (pv 2)<|RZ Wd YX)<|YX)<|Yu _) (λcl C l s H=>pv 0))
  (YW (VF<|Jm Zx Zy Zz VY (pv 8)<|pa1<|Yf Yw (Xf ["_law_one"] [4] (VL<|KN DW hr) (VP (i:=0)<|by decide) (λcl C l s H=>Yd 0 SM rfl (Or.inl rfl) (Or.inr rfl)) (λcl C l s H=>UP<|Xh t (pv 0)<|pv 1) λcl C l s H=>pv 0)<|YX)
  (YW (Yp 9 MP.nd<|Yf Yw (pv 8)<|Yy DN hr<|pa2 (pv 0)<|Yt Yo rfl B.len Zs (pa1<|pv 8))
  (YY<|Ys<|Yv<|pa2 (pv 5)<|Yv<|pa3 (Y3) (Yf Yl (pv 6)<|YX)<|Y4 EM (JO Bb (Yf Yl (pv 6)<|YX) Jl<|Jk<|RZ Wd YX)<|Yv<|pa1<|pv 9)))))))),?_⟩
 dsimp only[Vg,Cx.nox,Cx.wish];show let T0:=_;let T1:=Yg _ T0;let T2:=Yg _ T1;let T3:=Yg _ T2;let T4:=Yg _ T3;let T5:=_;let T6:=Yg (Y9 _ T5 _) T4;let T7:=Yg _ T6;let T8:=_;let T9:=Y9 _ T8 _;let T10:=Yg _ T9;let T11:=Yg (J6 _ _ T10) T7;Yg _ T11 _ _ _
 intros
 obtain⟨_,xs,e,J1,Z9⟩:=Vr hl;cases e;obtain⟨_,xd,e,J2,M2⟩:=Vr hdf;cases e;have cni:=Dat.nis_tn<|Vp V5 Z;have npl:=pn.lst J1 Z9 cni;have lxs:=Z9.length;rw[ZA]at lxs;have lxd:=M2.length;rw[ZA]at lxd;have G5:=gc.on.names;have on:=gc.on;have nam:=gc.nm;generalize eh:Y1 (ds.map (·.1))=hd at q on nam;intro G d;have s1:=Ye d<|.dK [];have g1:upd H G (.dK []) G=some (.dK []):=YZ;generalize upd H G (.dK [])=H1 at s1 g1 |-;exists ⟨_,Z1<|s1 _ _ J1⟩
 let I:kL:=λi U Hi=>Same H Hi/\∃(z5 z6:kO),Hi G=some (.dK<|kvC hd<|Z.take i)/\U=[some (.ref p),some<|.ref dl,some<|.ref la,some<|.int (k:Nat),some<|.ref G,z5,z6,none,none,none]
 refine UZ (xs:=xs) I ⟨s1,_,_,g1,Y⟩ (λi U Hi _ z=>Z1<|z.1 _ _ J1) ?_ ?_
 .rintro BB RR i v U Hi hv ⟨si,z5,z6,hk,rfl⟩
  obtain⟨dx,hc,hdv⟩:=getD Z9 hv;have il:=(ZE.mp hc).1;obtain⟨ta,u,rfl,R1,M⟩:=U3<|hdv.mono si;have o1:=on i dx il hc;have ke:(kvC hd<|Z.take i).map (·.1)=((Z.take i).map (·.1)).map λn=>(Sum.inr n:Key):=by unfold kvC;rw[zf,zf];rfl
  have nk:VD (kvC hd<|Z.take i) (Sum.inr dx.1)=none:=WD λm=>by
   rw[ke]at m;obtain⟨q1,hq1,e1⟩:=ZU.mp m;cases e1;exact o1.2.1 hq1
  have lk:(kvC hd<|Z.take i).length<=30:=by unfold kvC;rw[ZA,ZL];omega
  have I5:kvC hd (Z.take i)++[(Sum.inr dx.1,V.str<|tdK hd dx.2)]=kvC hd (Z.take<|i+1):=by
   rw[take_snoc hc];unfold kvC;rw[ZI];rfl
  exists _,Z0 R1,Y;obtain⟨g,td⟩:=dx
  cases td with
  |tg y w'=>
   obtain⟨b,rfl,O⟩:=Tw M;refine⟨_,.str y,Z0 O,Ya (j:=1) Y,_,UH.k (k:=Sum.inr g) hk<|Yi<|by omega,?_⟩;rw[UO _ nk,show V.str y=V.str (tdK hd<|Td.tg y w')from rfl,I5];have T:=si.putN (o:=.dK<|kvC hd<|Z.take<|i+1) d;have N:upd Hi G (.dK<|kvC hd<|Z.take<|i+1) b=some (.tup [.str "tag",.str y,UD w']):=by rw[Yc (V8 O hk λz=>nomatch z)];exact O
   refine⟨_,.str "tag",Z0 N,Ya (j:=0) Y,Y,_,Y,Y0 (by decide +kernel) ?_⟩;exact⟨T,_,_,YZ,Y⟩
  |ak J ns=>
   obtain⟨b,n2,rfl,O,R3⟩:=Tx M;refine⟨_,.str J,Z0 O,Ya (j:=1) Y,_,UH.k (k:=Sum.inr g) hk<|Yi<|by omega,?_⟩;rw[UO _ nk];have T:=si.putN (o:=.dK<|kvC hd (Z.take i)++[(Sum.inr g,V.str J)]) d;have N:upd Hi G (.dK<|kvC hd (Z.take i)++[(Sum.inr g,V.str J)]) b=some (.tup [.str "ask",.str J,.ref n2]):=by rw[Yc (V8 O hk λz=>nomatch z)];exact O
   have I1:upd Hi G (.dK<|kvC hd (Z.take i)++[(Sum.inr g,V.str J)]) G=some (.dK<|kvC hd (Z.take i)++[(Sum.inr g,V.str J)]):=YZ;generalize upd Hi G (.dK<|kvC hd (Z.take i)++[(Sum.inr g,V.str J)])=Hj at T N I1 |-;refine⟨_,.str "ask",Z0 N,Ya (j:=0) Y,Y,_,Y,VH (by decide +kernel) ?_⟩
   cases e:hd J with
   |none=>have:=o1.2.2;rw[Xx e]at this;cases this
   |some pp=>
   obtain⟨xr,r,ef,xm,ex⟩:=EV (ds:=ds) (f:=J) (pp:=pp) (by rw[eh];exact e);exists ⟨_,Z1<|T _ _ J2⟩;refine JQ (us:=ds) (D:=Jp) (E:=λx=>.str x.1.2.2) (λx=>decide<|x.1.1=J) (itl<|Z1<|T _ _ J2) (M2.mono T) (by omega) (λu x R hm t rT rF=>?_) λvs l3 H3 fl3 s3 R5 c=>?_
   .obtain ⟨a,u',w',rfl,ha,_⟩:=Xm t
    exists _,.str u.1.1,Z0 ha,Ya (j:=0) Y,_,.str J,Z0 N,Ya (j:=1) Y,Y,_,Y
    by_cases c1:u.1.1=J
    .exact VH (by simp[c1]) ⟨_,.str u.1.2.2,Z0 ha,Ya (j:=2) rfl,rT _ (decide_eq_true c1) Yz⟩
    .exact Y0 (by simp[c1]) (rF<|Zw c1)
   rw[ef]at c;obtain⟨v1,r1,rfl,h1,_⟩:=Yh c;obtain rfl:=has_str h1;refine⟨_,_,Z1 R5,Ya (j:=0) Y,_,UH.k (k:=Sum.inr g) (s3 _ _ I1) (Yi (by rw[ZJ,ze];omega)),?_⟩;rw[FD nk]
   have ey:xr.1.2.2=tdK hd (Td.ak J ns):=by
    obtain⟨ps,y⟩:=pp;rw[BO e,ex]
   rw[ey,I5];exact⟨(T.trans s3).putN d,_,_,YZ,Y⟩
 .rintro U Hi ⟨si,z5,z6,hk,rfl⟩
  rw[Ze (by omega)]at hk;have kl':=(ZE.mp hx).1;obtain⟨v0,F5⟩:∃v,xs[k]?=some v:=⟨_,ZC<|by omega⟩;obtain⟨x0,e0,hv⟩:=getD Z9 F5;rw[hx]at e0;cases e0;obtain⟨ta,u,rfl,R1,M⟩:=U3<|hv.mono si;have pni:=pn.same si;exists _,_,Z1<|si _ _ J1,Ya F5,_,Z0 R1,rfl;have o1:=on k x kl' hx;obtain⟨g,td⟩:=x
  cases td with
  |tg y w'=>
   obtain⟨b,rfl,O⟩:=Tw M;refine⟨_,.str "tag",Z0 O,Ya (j:=0) Y,Y,_,Y,VH (by decide +kernel) ?_⟩;exact qn _ si.sb pni
  |ak J ns=>
  obtain⟨b,n2,rfl,O,R3⟩:=Tx M;refine⟨_,.str "ask",Z0 O,Ya (j:=0) Y,Y,_,Y,Y0 (by decide +kernel) ?_⟩;refine⟨_,.ref n2,Z0 O,Ya (j:=2) Y,sl 0,λt0 ht0=>?_⟩;refine up_in ht0 _ λH2 T g2=>?_;have S:=si.trans T;exists .tup<|ns.map Dat.str,.tup [],Yx (T _ _ R3)<|VT ns,Yx g2 Z4,by unfold Dat.dep;rw[Wf];decide,_,rfl;rcases List.eq_nil_or_concat ns with rfl|⟨ni,nl,rfl⟩
  .exact VH (by simp[Dat.pq,Dat.pqs]) (qn _ S.sb<|pn.same S)
  rw[List.concat_eq_append]at *;refine Y0 ?_ ?_
  .cases ni <;> simp[Dat.pq,Dat.pqs]
  cases e:hd J with
  |none=>have:=o1.2.2;rw[Xx e]at this;cases this
  |some pp=>
  obtain⟨ps,y⟩:=pp;have o2:=o1.2.2;rw[Xy e]at o2;have ln:=Zr (zx.mp o2).1;rw[ZJ,ze]at ln;obtain⟨xr,r,ef,xm,ex⟩:=EV (ds:=ds) (f:=J) (pp:=(ps,y)) (by rw[eh];exact e);have x3:=p3 xr xm;rw[ex]at x3;replace x3:ps.length<=3:=x3;dsimp only[IL];exists ⟨_,Z1<|S _ _ J2⟩;have N:=T _ _ O;refine JQ (us:=ds) (D:=Jp) (E:=λx=>psD x.1.2.1) (λx=>decide<|x.1.1=J) (itl<|Z1<|S _ _ J2) (M2.mono S) (by omega) (λu x R hm t rT rF=>?_) λvs l3 H3 fl3 s3 R5 c=>?_
  .obtain ⟨a,u',w',rfl,ha,M,_⟩:=Xm t
   exists _,.str u.1.1,Z0 ha,Ya (j:=0) Y,_,.str J,Z0 N,Ya (j:=1) Y,Y,_,Y
   by_cases c1:u.1.1=J
   .exact VH (by simp[c1]) ⟨_,u',Z0 ha,Ya (j:=1) rfl,rT _ (decide_eq_true c1) M⟩
   .exact Y0 (by simp[c1]) (rF<|Zw c1)
  rw[ef]at c;obtain⟨v1,r1,rfl,h1,_⟩:=Yh c;exists _,_,Z1 R5,Ya (j:=0) Y
  replace h1:Has H3 v1 (.tup<|ps.map prD):=by
   have h:=h1;dsimp only at h;rw[ex,Md]at h;exact h
  obtain⟨wa,wx,rfl,hwa,N2⟩:=Y5 h1;have L1:=N2.length;rw[ZA]at L1;obtain⟨wl,I8,I7⟩:=Ml (xs:=wx) (by omega);obtain⟨X,F6,hwl⟩:=getD N2 I7;obtain⟨wt,rfl,hwt⟩:=W5 hwl;have s03:=S.trans s3;have I0:=s3 _ _<|T _ _ hk;refine⟨G,_,Y,I0,λo=>?_⟩;have G4:Same H (upd H3 G<|.frz o<|.dK<|kvC hd Z):=s03.putN d;have g4:upd H3 G (.frz o<|.dK<|kvC hd Z) G=some (.frz o<|.dK<|kvC hd Z):=YZ;have Z8:TK H3 (upd H3 G<|.frz o<|.dK<|kvC hd Z):=J3 I0 λxs z=>nomatch z
  generalize upd H3 G (.frz o<|.dK<|kvC hd Z)=H4 at G4 g4 Z8 |-;have F4:=Z8 _ _ hwa;have F3:=Z8 _ _ hwt;have ek:((kvC hd Z).map λkv=>kV kv.1)=(Z.map (·.1)).map V.str:=by unfold kvC;rw[zf,zf];rfl
  have F2:=itd g4;rw[ek]at F2;refine JQ (us:=Z) (D:=λx=>.str x.1) (E:=λx=>.str x.1) (λx=>decide<|tdK hd x.2≠X.2) F2 (by rw[show Z.map (λx=>Dat.str x.1)=(Z.map (·.1)).map Dat.str by rw[zf];rfl];exact VT _) (by omega) (λu x R hm t rT rF=>?_) λvs lo H5 flo s5 R4 hvo=>?_
  .obtain rfl:=has_str t
   exists V.str<|tdK hd u.2,.inl ⟨kvC hd Z,Sum.inr u.1,.inr ⟨_,g4⟩,rfl,?_⟩
   .rw [Gr,Gs G5 hm];rfl
   exists _,Y,_,_,Z0 F4,I8,_,.str X.2,Z0 F3,Ya (j:=1) Y,Y,_,Y
   by_cases c1:tdK hd u.2=X.2
   .exact Y0 (by simp[c1]) (rF<|by simp[c1])
   .exact VH (by simp[c1]) (rT _ (by simp[c1]) Yz)
  obtain rfl:=XU (ns:=(Z.filter λx=>decide<|tdK hd x.2≠X.2).map (·.1)) (by rw[zf];exact hvo)
  have G1:∀z∈(Z.filter λx=>decide<|tdK hd x.2≠X.2).map (·.1),JF hd Z z≠some X.2:=λz m=>by
   obtain⟨x,m1,rfl⟩:=ZU.mp m;obtain⟨m2,m3⟩:=zh.mp m1;rw[Gs G5 m2];exact λe=>Zr m3<|ZP e
  have lb1:((Z.filter λx=>decide<|tdK hd x.2≠X.2).map (·.1)).length<=26:=by
   rw[ZA];exact ZZ (yu _ _) l26
  generalize (Z.filter λx=>decide<|tdK hd x.2≠X.2).map (·.1)=os at R4 G1 lb1;refine⟨.inl ⟨Y,_,Z1 R4⟩,⟨λlw H6 flw s6 F8=>⟨⟨_,Z1 F8⟩,?_⟩⟩⟩;have g6:=s6 _ _<|s5 _ _ g4;refine JQ (us:=JI) (D:=Dat.str) (E:=Dat.str) (λz=>decide<|z∉Z.map (·.1)) (itl<|Z1 F8) (VT JI) (by rw[UI];decide) (λu x R hm t rT rF=>?_) λvs l7 H7 fl7 s7 F9 hv7=>?_
  .obtain rfl:=has_str t
   exists _,.inl ⟨kvC hd Z,Sum.inr u,.inr ⟨_,g6⟩,Y,Y⟩,_,Y;rw[Gr]
   by_cases m:u∈Z.map (·.1)
   .obtain ⟨xu,mu,rfl⟩:=ZU.mp m
    rw[Gs G5 mu];exact Y0 (by simp)<|rF<|Zw λz=>z m
   .rw [LB m]
    exact VH (by simp)<|rT _ (decide_eq_true m) Yz
  obtain rfl:=XU hv7
  obtain⟨L,r7,e7⟩:∃L r,JI.filter (λz=>decide<|z∉Z.map (·.1))=L::r:=by
   cases e:JI.filter (λz=>decide<|z∉Z.map (·.1))with
   |cons L r=>exact⟨L,r,Y⟩
   |nil=>
    have:JI.length<=(Z.map (·.1)).length:=WV NE λx hx=>Classical.not_not.mp λm=>by
     have:x∈JI.filter λz=>decide (z∉Z.map (·.1)):=zh.mpr ⟨hx,decide_eq_true m⟩;rw[e]at this;cases this
    rw[UI,ZA]at this;omega
  have I6:JF hd Z L≠some X.2:=by
   have:L∈JI.filter (λz=>decide<|z∉Z.map (·.1)):=by rw[e7];exact ZY
   rw[LB (Zr (zh.mp this).2)];exact λz=>nomatch z
  rw[e7]at F9;exists _,.str L,Z1 F9,Ya (j:=0) Y;have I3:=s7 _ _<|s6 _ _ R4;refine⟨lo,_,_,Y,Y,I3,Yi (by rw[ZA];omega),?_⟩;have C2:=s6.trans s7;have D0:=s5.trans C2;have s07:=G4.trans D0;have J4:=G4.free flo;have eo:os.map V.str++[V.str L]=(os++[L]).map V.str:=by rw[ZI];rfl
  rw[eo]
  have J5:∀z∈os++[L],JF hd Z z≠some X.2:=λz m=>by
   rcases ZV.mp m with m|m
   .exact G1 z m
   .rw [ZO.mp m];exact I6
  have R7:TK H7 (upd H7 lo<|.lst<|(os++[L]).map V.str):=J3 I3 λxs z=>nomatch z
  have G3:Same H (upd H7 lo<|.lst<|(os++[L]).map V.str):=s07.putN J4;have g8:upd H7 lo (.lst<|(os++[L]).map V.str) lo=some (.lst<|(os++[L]).map V.str):=YZ;generalize upd H7 lo (.lst<|(os++[L]).map V.str)=H8 at R7 G3 g8 |-;have lo2:(os++[L]).length=os.length+1:=by rw[ZJ,ze]
  generalize os++[L]=os2 at g8 J5 lo2;have D3:=pn.same G3;have F1:lo≠p:=pn.ne J4;exists lo,_,Y,.inl<|Z1 g8;refine Ji p sa os2.length (congrArg (λn:Nat=>V.int (n:Int))<|ZA _) D3 (by omega) (by omega) λr9 H9 rl9 b9 pn9=>?_;obtain⟨z,hz⟩:∃z,os2[r9]?=some z:=⟨_,ZC rl9⟩;have bz:=J5 z<|ZH hz;refine⟨_,.str z,Z1<|b9.sb _ _ F1 g8,Ya (by rw[ZG,hz];rfl),?_⟩;have R6:TK Hi H9:=λb xs h=>D3.tk b9.sb _ _<|R7 _ _<|D0 _ _<|Z8 _ _<|s3 _ _<|T _ _ h;have I9:SameB p H H9:=G3.sb.trans b9.sb;have I2:=R6 _ _ O;have F7:=R6 _ _ R3;have ek2:psK hd J=ps.map (·.2):=by simp only[psK,e]
  have epl:ps.map (λp=>some p.2)=(ps.map λp=>some p.2).dropLast++[some X.2]:=by
   have hq:=F6;rw[<-L1]at L1
   have e1:(ps.map λp=>some p.2).getLast?=some (some X.2):=by
    rw[List.getLast?_eq_getElem?,ZA,ZG];rw[show ps.length-1=wx.length-1 by have:=N2.length;rw[ZA]at this;omega,F6];rfl
   obtain⟨r,er⟩:=List.getLast?_eq_some_iff.mp e1;rw[er,List.dropLast_concat]
  have ne2:(ni++[z]).map (JF hd Z)≠(psK hd J).map some:=λee=>by
   rw[ek2,zf,show(some ∘ λx:Str×Str=>x.2)=(λp=>some p.2)from rfl,epl]at ee;exact bz<|Kx ee
  rw[ZI]at F7;exists _,.str J,Z0 I2,Ya (j:=1) Y,_,.ref n2,Z0 I2,Ya (j:=2) Y;refine⟨_,Y,_,Y,n2,_,Y,Z0 F7,?_,λt5 ht5=>?_⟩
  .rintro ⟨_,h2⟩
   unfold HT.sIx at h2;rw[ZJ]at h2;simp at h2;omega
  rw[show[nl].map V.str=[V.str nl]from rfl,Lh];refine up_in ht5 _ λHA sA gA=>?_;refine⟨sl 1,λt6 ht6=>?_⟩;refine up_in ht6 _ λHB sB gB=>?_;have S2:=sA.trans sB;have I4:=sB _ _ gA
  have last:∀(tt:Addr)(HC:Hp),Same HB HC->HC tt=some (.tup<|(ni++[z]).map V.str)->∀t7,HC t7=none->∀t8,upd HC t7 (.tup [.str "ask",.str J,.ref tt]) t8=none->Q (.ref t8) (upd (upd HC t7<|.tup [.str "ask",.str J,.ref tt]) t8<|.tup [.str g,.ref t7]):=λtt HC sC hC t7 h7 t8 h8=>by
   have R8:=Ye h7<|.tup [.str "ask",.str J,.ref tt];have G2:=Ye h8<|.tup [.str g,.ref t7];have sD:=(S2.trans sC).trans<|R8.trans G2;refine q _ J _ (ni++[z]) _ (I9.trans sD.sb) (pn9.same sD) Y (by rw[ZJ,ZJ];rfl) ?_ ne2;unfold ceD;exact Yx YZ<|Z2 Yz<|Z3<|Xn (G2 _ _ YZ)<|G2 _ _<|R8 _ _ hC
  cases ni with
  |nil=>exact .inl ⟨t5,t6,_,Y,Y,Z0 I4,Z0 gB,sl 3,λt7 h7=>⟨sl 2,λt8 h8=>last t6 HB (Z6 _) gB t7 h7 t8 h8⟩⟩
  |cons n0 nr=>
   refine .inr ⟨t5,t6,_,_,Y,Y,Z0 I4,Z0 gB,by simp,Zf<|Yi ?_,(λz=>nomatch z),λ_ t9 h9=>?_⟩
   .rw [ZA];show _+1<=1000;omega
   .have s9':=Ye h9<|.tup<|(n0::nr).map V.str++[.str z]
    exact⟨sl 3,λt7 h7=>⟨sl 2,λt8 h8=>last t9 _ s9' (by rw[YZ,ZI];rfl) t7 h7 t8 h8⟩⟩
end
end K4
namespace L2
open PySem
abbrev Tp:=Str×Td×Option Hd
def hdO:Option Hd->Dat
 |none=>.tup []
 |some h=>hdT h
def Rz(t:Tp):Dat:=.tup [.str t.1,t.2.1.dat,hdO t.2.2]
def S9:∀{d:Dat},d.st=true->d.tn=true:=by
 intro d
 induction d using Dat.rec (motive_2:=λZ=>Dat.sts Z=true->Dat.tns Z=true)with
 |str _=>intro _;unfold Dat.tn;rfl
 |tup Z ih=>intro h;unfold Dat.st at h;unfold Dat.tn;exact ih h
 |non=>intro h;unfold Dat.st at h;cases h
 |bl _=>intro h;unfold Dat.st at h;cases h
 |int _=>intro h;unfold Dat.st at h;cases h
 |lst _ _=>intro h;unfold Dat.st at h;cases h
 |nil=>unfold Dat.tns;rfl
 |cons d Z G J=>
  unfold Dat.sts at a;have L:=zx.mp a;unfold Dat.tns;rw[G L.1,J L.2];rfl
def Sf(o:Option Hd):(hdO o).tn=true:=by
 cases o with
 |none=>unfold hdO Dat.tn Dat.tns;rfl
 |some h=>exact S9<|U2 h
def Gg(t:Tp):(Rz t).tn=true:=by unfold Rz;simp[Dat.tn,Dat.tns,Td.tn,Sf]
def EW(h:Has H v (Rz x)):∃t u w,v=.ref t/\H t=some (.tup [.str x.1,u,w])/\Has H u x.2.1.dat/\Has H w (hdO x.2.2):=by
 unfold Rz at h;obtain⟨t,D,rfl,N,O⟩:=Y5 h;obtain⟨E,I,rfl,B,G⟩:=Yh O;obtain⟨M,A,rfl,T,J⟩:=Yh G;obtain⟨L,F,rfl,R,Z⟩:=Yh J;obtain rfl:=VS Z;obtain rfl:=has_str B;exact⟨t,M,L,Y,N,T,R⟩
structure BJ(ks:List (Str×Shp))(hs:List Hd)(t:Tp):Prop where
 tg:∃ts w,VX ks t.1=some (.tags ts)/\t.2.1=.tg t.1 w/\wB ts w=true
 hd:∀h,t.2.2=some h->h∈hs/\h.2.2=t.1
def RJ(ys:ky)(tps:List Tp)(k:Nat)(x:Ce):Prop:=ys[k]?=some x.1/\∃t,tps[k]?=some t/\(x.2=t.2.1 \/ ∃(h:Hd)(Z:ky),t.2.2=some h/\x.2=.ak h.1 Z/\Z.length=h.2.1.length/\
 ∀(i:Nat)(n:Str)(G:Str×Str),Z[i]?=some n->h.2.1[i]?=some G->∃(j:Nat)(J:Tp),ys[j]?=some n/\tps[j]?=some J/\J.1=G.2)
def RJ.kind{G:Hds}(N:∀h∈M,G h.1=some h.2)(L:∀t∈tps,BJ T M t)(c:RJ ys tps k x):∃t,tps[k]?=some t/\tdK G x.2=t.1:=by
 obtain⟨_,t,J,c⟩:=c;have o:=L t<|ZH J;exists t,J;rcases c with e|⟨h,R,O,Z,_⟩
 .obtain ⟨ts,w,_,Z,_⟩:=o.tg
  rw[e,Z];rfl
 .obtain ⟨m,ey⟩:=o.hd h O
  rw[Z,BO (ps:=h.2.1) (y:=h.2.2)<|N h m,ey]
def PP{hd:Hds}{Z:List Ce}(w:Wds 97 ys)(l1:1<=ys.length)(c:ys.length<=26)(lc:Z.length=ys.length)(B:∀h∈X,hd h.1=some h.2)(v:∀h∈X,∀y∈h.2.2::h.2.1.map (·.2),kT C y=true)(N:∀t∈tps,BJ C X t)(J:∀k x,Z[k]?=some x->RJ ys tps k x):K4.GoodC C hd Z:=by
 have b:Z.map (·.1)=ys:=yE λi=>by
  rw[ZG]
  cases e:Z[i]? with
  |none=>
   rw[zg]at e
   symm
   show ys[i]?=none;rw[zg];omega
  |some x=>exact(J i x e).1.symm
 have p:(Z.map (·.1)).Nodup:=by rw[b];exact w.nd
 refine⟨by omega,by omega,λi x _ R=>?_,λi x _ R=>?_,λx m=>?_⟩
 .obtain ⟨I,t,T,A⟩:=J i x R
  have M:=ZH I;have o:=N t<|ZH T;exists Rw (w.len _ M).1 (w.len _ M).2<|w.abc _ M,λm=>?_
  .obtain ⟨x',m',e'⟩:=ZU.mp m
   obtain⟨j,G⟩:=zi.mp m'
   have L:j<i:=by
    have:=(ZE.mp G).1;rw[ZL]at this;omega
   rw[ya,Zn L]at G;have F:=(J j x' G).1;rw[e']at F;have O:=(ZE.mp F).1;have:=(List.getElem?_inj O w.nd).mp<|F.trans I.symm;omega
  .rcases A with e|⟨h,g,E,D,Q,_⟩
   .obtain ⟨ts,w',f1,f2,f3⟩:=o.tg
    rw[e,f2,G6,II f1,f3];unfold kT;rw[f1];rfl
   .obtain ⟨m,l⟩:=o.hd h E
    rw[D,Xy (ps:=h.2.1) (y:=h.2.2)<|B h m,decide_eq_true Q,vy.mpr (v h m)];rfl
 .intro f ns ef
  obtain⟨I,t,T,A⟩:=J i x R;have o:=N t<|ZH T;rcases A with e|⟨h,g,E,D,Q,e4⟩
  .obtain ⟨ts,w',f1,f2,f3⟩:=o.tg
   rw[e,f2]at ef;cases ef
  .rw [D]at ef
   cases ef;obtain⟨m,l⟩:=o.hd h E;have s:psK hd h.1=h.2.1.map (·.2):=by simp only[psK,B h m]
   rw[s];refine yE λr=>?_;rw[ZG,ZG,ZG]
   cases ep:ns[r]? with
   |none=>
    rw[zg]at ep;rw[show h.2.1[r]?=none by rw[zg];omega];rfl
   |some n=>
    have rl:=(ZE.mp ep).1;have P:h.2.1[r]?=some h.2.1[r]:=ZC (by omega);obtain⟨j,tj,S,q,u⟩:=e4 r n _ ep P;have L:j<Z.length:=by have:=(ZE.mp S).1;omega
    have G:Z[j]?=some Z[j]:=ZC L;have z:=J j _ G;obtain⟨t',U,d⟩:=z.kind B N;rw[q]at U;cases U;have a:Z[j].1=n:=ZP<|z.1.symm.trans S;have:=Gs (hd:=hd) p<|yX L;rw[a,d,u]at this;rw[P];exact congrArg some this
 .obtain ⟨i,hi⟩:=zi.mp m
  have:=w.len _<|ZH (J i x hi).1;omega
theorem CI:∀{J:List Nat}{Z:kK},HasL H Z (J.map λj=>Dat.int (j:Nat))->Z=J.map λj=>V.int (j:Nat)
 |[],Z,h=>VS h
 |n::ns,Z,h=>by
  obtain⟨x,r,rfl,G,L⟩:=Yh h;unfold Has at G;rw[G,CI L];rfl
theorem Xj:∀(Z:List Nat),HasL H (Z.map λj=>V.int (j:Nat))<|Z.map λj=>Dat.int (j:Nat)
 |[]=>Z4
 |n::ns=>Z2 (by unfold Has;rfl)<|Xj ns
def Nq(Z:List Nat):(Dat.lst<|Z.map λj=>Dat.int (j:Nat)).dep<=1:=by
 have:Dat.deps (Z.map λj=>Dat.int (j:Nat))=0:=by
  induction Z with
  |nil=>unfold List.map Dat.deps;rfl
  |cons j Z ih=>rw[ZT];unfold Dat.deps Dat.dep;rw[ih];rfl
 unfold Dat.dep;rw[this];decide
def EU(Z:List Nat):(Dat.lst<|Z.map λj=>Dat.int (j:Nat)).pq (.lst [])=decide (Z=[]):=by
 cases Z <;> simp[Dat.pq,Dat.pqs]
def PM(o:Option Hd):(hdO o).dep<=3:=by
 cases o with
 |none=>simp[hdO,Dat.dep,Dat.deps]
 |some h=>
  have:Dat.deps (h.2.1.map prD)<=1:=by
   generalize h.2.1=Z
   induction Z with
   |nil=>unfold List.map Dat.deps;decide
   |cons q Z ih=>rw[ZT];unfold Dat.deps;exact vP.mpr ⟨by unfold prD;simp[Dat.dep,Dat.deps],ih⟩
  show(hdT h).dep<=3;unfold hdT;rw[Md];simp[Dat.dep,Dat.deps];omega
def Sg(o:Option Hd):(hdO o).pq (.tup [])=decide (o=none):=by
 cases o with
 |none=>simp[hdO,Dat.pq,Dat.pqs]
 |some h=>simp[hdO,hdT,Dat.pq,Dat.pqs]
end L2
namespace K4
open PySem L2
section
def J8:Yq ["_law_pen","_law_world_here","_law_many","_law_flat_here","_law_heads_here","_law_names_here","_law_tops","_law_name","_law_kind","_law_shape","_law_top","_law_head","_law_tags","_law_straight","_law_found","_law_k","_law_own","_law_told","_law_picked","_law_word","_law_fit","_law_later"] ["_law_pen","_law_world_here","_law_many"] (Yb Dh):=Y6
def SR:List.Nodup [("_law_j":Str),"_law_tops","_law_kind"]:=by decide +kernel
def A2:List.Nodup [("_law_j":Str),"_law_k"]:=by decide +kernel
inductive SCD(K:W.Frag)(H:Hp)(Q:VK):List V->Prop
 |mk (p sa:Addr) (wv:V) (ks fl:List (Str×Shp)) (hs:List Hd) (c:Str->Nat) (hd:Hds) (many:Nat) (pn:Pen K sa H p) (w:Wld H wv ks fl hs c) (h0:0<hs.length) (hh:∀h∈hs,hd h.1=some h.2) (m1:1<=many) (m26:many<=26)
  (q:∀l xs cs H',SameB p H H'->Pen K sa H' p->H' l=some (.lst xs)->HasL H' xs (cs.map ceD)->cs.length=many->GoodC ks hd cs->(∀x∈cs,1<=x.1.length/\x.1.length<=8)->Q (.ref l) H'):SCD K H Q [.ref p,wv,.int (many:Nat)]
def QY(K:W.Frag):Sp:=λZ H Q _=>SCD K H Q Z
def Am(hn:4<=n)(B:Blt mg)(F:Fun K "_law_cells_drawn" "_law_cells_drawn" Dh f fd)(DN:Df P w K mg base n "_law_next" pnm (J7 K))(DW:Df P w K mg base n "_law_small_words" pnm (Uk K))(DT:Df P w K mg base n "_law_tags_of" ["_law_kinds_here","_law_kind"] XD):Ym P w K mg base CX0 (n+1) f fd ["_law_pen","_law_world_here","_law_many"] (QY K):=by
 refine F.oi J8 λcdv A outer s H vs Q E hr h=>?_;obtain⟨p,sa,wv,ks,fl,hs,c,hd,many,pn,wl,h0,hh,m1,m26,q⟩:=h;have hr4:VW (3+1) _:=hr.mono hn;have hr2:VW (1+1) _:=hr.mono<|ZZ (by decide) hn;refine⟨_,YW (Vz (pv 1)<|VI (n:=2) rfl (Yj (Yd 3 J8.nd)<|Yj (Yd 4 J8.nd) Y7))
  (YW (Yp 5 J8.nd<|Yy DW hr<|pa2 (pv 0)<|pv 2)
  (YW (Yp 6 J8.nd (Vf VR) (hx:=Or.inr rfl))
  (YW (Vy Zt rfl (VL<|pv 5) (Yd 7 J8.nd)
   (YW (Vz (Yf Yw (pv 3)<|Yy DN hr<|pa2 (pv 0)<|Yt Yo rfl B.len Zs (pa1<|pv 3))<|VI (n:=2) rfl (Yj (Yd 8 J8.nd (hx:=Or.inr rfl))<|Yj (Yd 9 J8.nd) Y7))
  (YW (Yp 10 J8.nd<|Yv<|pa3 (pv 8) (Yv<|pa3 (Y3) (pv 8)<|Yf Yl (Y4 WU (Yv<|pa1<|Vc)<|Yf Yl (pv 9)<|YX)<|Yy DN hr<|pa2 (pv 0)<|Y4 Vt YX<|Yt Yo rfl B.len Zs (pa1<|Yf Yl (pv 9)<|YX))<|Yv VR)
  (YW (Y2 (Yn UX (Yy DN hr<|pa2 (pv 0)<|YX) YX<|Yu _) (YW (Yp 11 J8.nd<|Yf Yw (pv 4)<|Yy DN hr<|pa2 (pv 0)<|Yt Yo rfl B.len Zs (pa1<|pv 4))
  (YW (Yp 12 J8.nd<|Yy DT hr<|pa2 (pv 3)<|Yf Yl (pv 11)<|YX)
  (YY<|Yp 10 J8.nd<|Yv<|pa3 (Yf Yl (pv 11)<|YX) (Yv<|pa3 (Y3) (Yf Yl (pv 11)<|YX)<|Yf Yl (pv 12)<|YX)<|pv 11))) Yr)
  (YY<|VF<|Jm Zx Zy Zz VY (pv 6)<|pa1<|pv 10)))))
  (YW (Yp 13 J8.nd<|UC Vk (Yy DN hr<|pa2 (pv 0)<|YX) YX<|Yu _)
  (YW (Yp 14 J8.nd<|Vf VR)
  (YW (Vy Zt rfl (Jt rfl B.range (pa1<|pv 2)) (Yd 15 J8.nd (hx:=Or.inr rfl))
   (YW (Vz (Yf Yw (pv 6)<|pv 15)<|VI (n:=3) rfl (Yj (Yd 16 J8.nd)<|Yj (Yd 17 J8.nd)<|Yj (Yd 11 J8.nd) Y7))
  (YW (Yp 18 J8.nd<|Vf VR)
  (YW (Y2 (Yn (Ue hr4) (pv 11) (Yv VR)<|Yu _) (YW (Vy Zt rfl (Js<|Yf Yl (pv 11)<|YX) (VI (n:=2) rfl (Yj (Yd 19 J8.nd)<|Yj (Yd 8 J8.nd (hx:=Or.inr rfl)) Y7))
   (YW (Xe (i0:=20) ["_law_j"] [6,8] J8.nd rfl (Or.inl rfl) (Jt rfl B.range (pa1<|pv 2)) (VP (i:=0)<|by decide) (λcl C fp s H=>Yd 0 SR rfl (Or.inl rfl) (Or.inr rfl)) (λcl C fp s H=>Yn Vk (Yf (r:=UB K) Yl (Yf (r:=B2 K) Yw (pv 1)<|pv 0)<|YX) (pv 2)<|Yu _) (λcl C fp s H=>pv 0))
  (YW (Xe (i0:=21) ["_law_j"] [15] J8.nd rfl (Or.inl rfl) (VL<|pv 20) (VP (i:=0)<|by decide) (λcl C fp s H=>Yd 0 A2 rfl (Or.inl rfl) (Or.inr rfl)) (λcl C fp s H=>Yn UX (pv 0) (pv 1)<|Yu _) (λcl C fp s H=>pv 0))
  (YW (Y2 (PW.pt<|XH (Vs<|pv 13)<|UW<|Yn (Ue hr2) (pv 21) (Vf VR)<|Yu _) (YY<|Yp 20 J8.nd<|pv 21) Yr)
  (YY<|Y2 (Yn (Ue hr2) (pv 20) (Vf VR)<|Yu _) (YY<|VF<|Jm Zx Zy Zz VY (pv 18)<|pa1<|Yf Yw (pv 5)<|Yf Yw (pv 20)<|Yy DN hr<|pa2 (pv 0)<|Yt Yo rfl B.len Zs (pa1<|pv 20)) Yr)))))
  (YY<|Y2 (Yn Vk (Yt Yo rfl B.len Zs (pa1<|pv 18)) (Yt Yo rfl B.len Zs (pa1<|Yf Yl (pv 11)<|YX))<|Yu _) (YY<|Yp 17 J8.nd<|Yv<|pa3 (Y3) (Yf Yl (pv 11)<|YX)<|VM V0 rfl B.tuple JR (pa1<|pv 18)) Yr)) Yr)
  (YY<|VF<|Jm Zx Zy Zz VY (pv 14)<|pa1<|Yv<|pa2 (Yf Yw (pv 5)<|pv 15)<|pv 17)))))
  (YY<|Ys<|pv 14))))))),?_⟩
 dsimp only[Vg,Cx.nox,Cx.wish];show let T0:=_;let T1:=_;let T2:=_;let T3:=Y9 _ T2 _;let T4:=_;let T5:=Y9 _ T4 _;let T6:=_;let T7:=Yg (Y9 _ T6 _) T5;let T8:=Yg _ T7;let T9:=Yg _ T8;let T10:=Yg (J6 _ _ T9) T3;let T11:=Yg (Y9 _ T10 _) T1;let T12:=Yg _ T11;let T13:=Yg _ T12;let T14:=Yg (J6 _ _ T13) T0;let T15:=Yg _ T14;let T16:=Yg _ T15;let T17:=_;let T18:=_;let T19:=Yg _ T18;let T20:=Yg _ T19;let T21:=Yg (Y9 _ T20 _) T17;let T22:=Yg _ T21;let T23:=Yg _ T22;let T24:=Yg (J6 _ _ T23) T16;let T25:=Yg _ T24;let T26:=Yg _ T25;Yg _ T26 _ _ _
 intros
 obtain⟨wa,fa,ha,xf,xh,rfl,hwa,F7,F3,hha,hxh⟩:=wl.at;have fst:=Dat.nis_of<|VO VZ fl;have hst:=Dat.nis_of<|VO U2 hs;have S2:=pn.lst F7 F3 fst;have nph:=pn.lst hha hxh hst;have f0:=wl.ok.f0;have f3:=wl.ok.f3;have h8:=wl.h8;have lxf:=F3.length;rw[ZA]at lxf;have lxh:=hxh.length;rw[ZA]at lxh;exists _,Z0 hwa,Y;refine⟨p,sa,many,pn,m26,λnl ys H1 sb1 pn1 fnl hnl lys wy=>?_⟩;have D3:nl≠p:=pn.ne fnl;refine⟨sl 0,λtl htl=>?_⟩;have lt0:=Lt.new pn1 htl;have s2:=Ye htl<|.lst [];generalize upd H1 tl (.lst [])=H2 at lt0 s2 |-;exists ⟨_,Z1<|s2 _ _ hnl⟩
 let S:(z7 z8 z9 g X M z13 z14 J2 J1 Z9 l T O G:kO)->St:=λz7 z8 z9 g X M z13 z14 J2 J1 Z9 l T O G=>[some (.ref p),some<|.ref wa,some<|.int (many:Nat),some<|.ref fa,some<|.ref ha,some<|.ref nl,some<|.ref tl,z7,z8,z9,g,X,M,z13,z14,J2,J1,Z9,l,T,O,G]
 let I:kL:=λi U Hi=>∃Z:List Tp,Lt K sa H1 p tl (Z.map Rz) Hi/\Z.length=i/\(∀t∈Z,BJ ks hs t)/\∃z7 z8 z9 g X M:kO,U=S z7 z8 z9 g X M none none none none none none none none none
 refine UZ (xs:=ys.map V.str) I ⟨[],lt0,Y,(λt m=>nomatch m),_,_,_,_,_,_,Y⟩ (λi U Hi _ ⟨_,lt,_⟩=>Z1<|lt.sb _ _ D3 hnl) ?_ ?_
 .rintro BB RR i x U Hi hx ⟨Z,lt,lti,ok,z7,z8,z9,g,X,M,rfl⟩
  have I8:=sb1.trans lt.sb;have pni:=lt.pn;exists fa,_,Y,.inl<|Z1<|I8 _ _ S2 F7;refine Ji p sa xf.length Y pni (by omega) (by omega) λr H3 rl b3 pn3=>?_;have sb3:=I8.trans b3.sb;obtain⟨⟨y,sh⟩,hy,hyx⟩:=getD F3<|ZC rl;have ym:=ZH hy;obtain⟨ts,rfl,_,t1,t4,tnd⟩:=wl.ok.ok y sh ym;have shy:=wl.sk y _ ym;obtain⟨ka,kw,ekv,hka,hkw⟩:=Vw<|Vm sb3 pn _ (Dat.ni_of<|VZ _) hyx;obtain⟨kb,kt,rfl,hkb,hkt⟩:=J0 hkw;exists _,.ref ka,Z1<|sb3 _ _ S2 F7,Ya (by rw[ZC rl,ekv]),_,Z0 hka,rfl;refine⟨sl 1,λtn htn=>?_⟩;refine up_in htn _ λH4 s4 g4=>?_;exists _,.ref kt,Z0<|s4 _ _ hkb,Ya (j:=1) rfl;refine⟨tn,kt,_,_,Y,Y,Z0 g4,Z0<|s4 _ _ hkt,by simp,Zf (Yi (by rw[ZA];show 1+_<=1000;omega)),(λz=>?_),λ_ tc htc=>?_⟩
  .have:=congrArg List.length z
   rw[ZA]at this;have:ts.length=0:=this;omega
  refine up_in htc _ λH5 s5 g5=>?_;have D0:=s4.trans s5;exists _,.ref kt,Z0<|D0 _ _ hkb,Ya (j:=1) rfl,kt,_,rfl,.inr<|Z0<|D0 _ _ hkt;have pn5:=pn3.same D0;refine Ji p sa (1+ts.length) (by rw[ZA];rfl) pn5 (by omega) (by omega) λr2 H6 rl2 b6 pn6=>?_
  obtain⟨w',hw',wb⟩:∃w':Option Str,([V.non]++ ts.map V.str)[r2]?=some (UD w')/\wB ts w'=true:=by
   cases r2 with
   |zero=>exact⟨none,Y,Y⟩
   |succ r2=>
    obtain⟨tg,htg⟩:∃tg,ts[r2]?=some tg:=⟨_,ZC<|by omega⟩;refine⟨some tg,?_,decide_eq_true<|ZH htg⟩;show(ts.map V.str)[r2]?=some (V.str tg);rw[ZG,htg];rfl
  refine⟨_,UD w',Z0<|pn5.tk b6.sb _ _ g5,Ya hw',sl 3,λti hti=>?_⟩;refine up_in hti _ λH7 s7 g7=>?_;refine⟨sl 0,λte hte=>?_⟩;refine up_in hte _ λH8 s8 g8=>?_;refine⟨sl 3,λtO hto=>?_⟩;refine up_in hto _ λH9 s9 g9=>?_;have I9:=s8.trans s9
  have top0:Has H9 (.ref tO) (Rz (y,.tg y w',none)):=by
   unfold Rz;exact Yx g9<|Z2 Yz<|Z2 (UF<|I9 _ _ g7)<|Z3<|Yx (s9 _ _ g8) Z4
  have ok0:BJ ks hs (y,.tg y w',none):=⟨⟨ts,w',shy,rfl,wb⟩,λh e=>nomatch e⟩;have pn9:=pn6.same<|s7.trans I9;have sbi9:SameB p Hi H9:=(b3.sb.trans D0.sb).trans<|b6.sb.trans (s7.trans I9).sb;dsimp only[Vi];refine Ve (λU' b=>∃(t:Tp)(v:V),SameB p Hi b/\Pen K sa b p/\Has b v (Rz t)/\BJ ks hs t/\∃X M:kO,U'=S (some x) (some<|.str y) (some<|.ref kb) (some v) X M none none none none none none none none none) ?_ ?_
  case refine_2=>
   intro NN J5;refine⟨p,sa,3,pn9,by decide,by decide,λr3 HA r33 bA a=>⟨_,Y,?_⟩⟩;have G4:=sbi9.trans bA.sb
   by_cases c3:0<r3
   case neg=>exact Y0 (λz=>c3 (by have:=Zr z;omega))<|J5 _ _ ⟨_,_,G4,a,Jd (pn9.tk bA.sb) _ (Gg _) top0,ok0,_,_,rfl⟩
   refine VH (by exact decide_eq_true<|by omega) ?_;have R8:=I8.trans G4;exists ha,_,Y,.inl<|Z1<|R8 _ _ nph hha;refine Ji p sa xh.length Y a (by omega) (by omega) λr4 HB rl4 bB pnB=>?_;have R7:=R8.trans bB.sb;obtain⟨hE,hh1,hhx⟩:=getD hxh<|ZC rl4;have hm:=ZH hh1;obtain⟨ht,hu,us,ehv,G1,R5,F4⟩:=WY<|Vm R7 pn _ (Dat.ni_of<|U2 _) hhx;refine⟨_,.ref ht,Z1<|R7 _ _ nph hha,Ya (by rw[ZC rl4,ehv]),?_⟩;obtain⟨⟨yo,so⟩,mo,eo⟩:=ZU.mp (wl.ho hE hm).own;obtain⟨I6,rfl,_,o1,o4,_⟩:=wl.ok.ok yo so mo;have eo':yo=hE.2.2:=eo;subst eo';exists _,.str hE.2.2,Z0 G1,Ya (j:=2) Y;refine⟨.ref fa,hE.2.2,fl,I6,VB (R7 _ _ S2 F7)<|JA R7 pn _ fst F3,by omega,MN wl.ok.nd mo,λrv HC sC hC=>?_⟩;obtain⟨tv,xt,rfl,htv,C2⟩:=Y5 hC;obtain rfl:=XU C2;obtain⟨I7,I4⟩:∃tg,I6[0]?=some tg:=⟨_,ZC<|by omega⟩;have I5:=sC _ _ G1;refine⟨_,.str hE.2.2,Z0 I5,Ya (j:=2) Y,_,.str hE.2.2,Z0 I5,Ya (j:=2) Y,_,.str I7,Z0 htv,Ya (j:=0) (by rw[ZG,I4];rfl),sl 3,λt5 ht5=>?_⟩;refine up_in ht5 _ λHD sD gD=>?_;refine⟨sl 3,λt6 ht6=>?_⟩;refine up_in ht6 _ λHE sE gE=>?_;have L1:=(sC.trans sD).trans sE;refine J5 _ _ ⟨(hE.2.2,.tg hE.2.2<|some I7,some hE),_,G4.trans<|bB.sb.trans L1.sb,pnB.same L1,?_,⟨⟨I6,some I7,wl.sk _ _ mo,rfl,decide_eq_true<|ZH I4⟩,λh e=>by cases e;exact⟨hm,Y⟩⟩,_,_,rfl⟩;unfold Rz;refine Yx gE<|Z2 Yz<|Z2 (UF<|sE _ _ gD)<|Z3 ?_;exact Yx (L1 _ _ G1)<|Z2 Yz<|Z2 (by rw[Md];exact Yx (L1 _ _ R5)<|F4.mono L1)<|Z3 Yz
  rintro U' HF ⟨t,v,sbiF,pnF,hv,okt,I2,z12',rfl⟩;have ltF:=lt.mv sbiF pnF;obtain⟨zs,N,Z8,_⟩:=ltF.zs;have R1:=Z8.length;rw[ZA]at R1;have il:=(ZE.mp hx).1;rw[ZA]at il;refine⟨.inl ⟨Y,_,Z1 N⟩,tl,_,_,Y,Y,N,Yi<|by omega,Z++[t],?_,by rw[ZJ,lti];rfl,λt' m=>?_,_,_,_,_,_,_,rfl⟩
  .rw [ZI]
   exact ltF.ap N hv<|Gg t
  .rcases ZV.mp m with m|m
   .exact ok t' m
   .rw [ZO.mp m];exact okt
 .rintro U Hi ⟨Z,lt,lti,ok,z7,z8,z9,g,X,M,rfl⟩
  rw[ZA,lys]at lti;obtain⟨xt,C2,I3,_⟩:=lt.zs;have lxt:=I3.length;rw[ZA]at lxt;have N2:=lt.np;have ttn:=Vp Gg Z;refine⟨p,sa,2,lt.pn,by decide,by decide,λr5 HA r52 bA a=>⟨Y,sl 0,λlf hlf=>?_⟩⟩;have ltA:=lt.mv bA.sb a;have hnA:=ltA.sb _ _ D3 hnl;have F5:=bA.sb _ _ N2 C2;have hxA:=JL (lt.pn.tk bA.sb) _ ttn I3;have R8:SameB p H HA:=sb1.trans ltA.sb;have lc0:=Lt.new a hlf;generalize upd HA lf (.lst [])=HB at lc0 |-;generalize hst':decide (V.int (r5:Nat)=V.int 0)=strt;exists many,Y,by omega,by omega
  let J:kL:=λk U Hk=>∃cs:List Ce,Lt K sa HA p lf (cs.map ceD) Hk/\cs.length=k/\(∀i x,cs[i]?=some x->RJ ys Z i x)/\∃z8 X J2 J1 Z9 l T O G:kO,U=S z7 z8 z9 g X M (some<|.bl strt) (some<|.ref lf) J2 J1 Z9 l T O G
  refine Rh (n:=((many:Nat):Int).toNat) J ⟨[],lc0,Y,(λi x e=>by simp at e),_,_,_,_,_,_,_,_,_,Y⟩ ?_ ?_
  .rintro k U Hk hk ⟨cs,lc,lck,cl,z8',I2,J2,J1,Z9,l,T,O,G,rfl⟩
   have kl:k<many:=by omega
   have e0:(0:Int)+(k:Int)=((k:Nat):Int):=by omega
   have G3:=lc.sb;have M2:=lc.pn;obtain⟨t,R4⟩:∃t,Z[k]?=some t:=⟨_,ZC<|by omega⟩;obtain⟨vt,hvt⟩:∃v,xt[k]?=some v:=⟨_,ZC<|by omega⟩;obtain⟨n0,F6⟩:∃n,ys[k]?=some n:=⟨_,ZC<|by omega⟩;obtain⟨t',e1,hv⟩:=getD hxA hvt;rw[R4]at e1;cases e1;obtain⟨tt,tu,tw,rfl,htt,htu,htw⟩:=EW<|Jd (a.tk G3) _ (Gg _) hv;exists _,.ref tt,Z1<|G3 _ _ N2 F5,(by rw[e0];exact Ya hvt),_,Z0 htt,rfl;refine⟨sl 0,λlp hlp=>?_⟩;have lp0:=Lt.new M2 hlp;have sL:=Ye hlp<|.lst [];generalize upd Hk lp (.lst [])=HP at lp0 sL |-;dsimp only[Vi];refine Ve (λU' b=>∃(td:Td)(v:V),SameB p Hk b/\Pen K sa b p/\Has b v td.dat/\RJ ys Z k (n0,td)/\∃z8 l T O G:kO,U'=S z7 z8 z9 g (some tw) M (some<|.bl strt) (some<|.ref lf) (some<|.int<|(0:Int)+(k:Nat)) (some<|.str t.1) (some v) l T O G) ?_ ?_
   case refine_2=>
    intro NN J5;refine⟨sl 0,λte hte=>?_⟩;refine up_in hte _ λHE sE gE=>?_;have J4:=sL.trans sE;exists hdO t.2.2,.tup [],htw.mono J4,Yx gE Z4,PM _,_,Y;rw[Sg]
    cases eh:t.2.2 with
    |none=>exact Y0 (by simp)<|J5 _ _ ⟨t.2.1,tu,J4.sb,M2.same J4,htu.mono J4,⟨F6,t,R4,.inl rfl⟩,_,_,_,_,_,rfl⟩
    |some h=>
    refine VH (by simp) ?_;rw[eh]at htw;obtain⟨ht,hu,us,rfl,G1,R5,F4⟩:=WY (show Has Hk tw (hdT h)from htw);have lus:=F4.length;rw[ZA]at lus;have h3:h.2.1.length<=3:=(wl.ho h ((ok t<|ZH R4).hd h eh).1).len;exists _,.ref hu,Z0<|J4 _ _ G1,Ya (j:=1) rfl,⟨_,Z0<|J4 _ _ R5⟩
    let Al:List Str->Prop:=λo=>∀(i:Nat)(n:Str)(d:Str×Str),o[i]?=some n->h.2.1[i]?=some d->∃(j:Nat)(tj:Tp),ys[j]?=some n/\Z[j]?=some tj/\tj.1=d.2
    let L:kL:=λi U Hj=>∃o:ky,Lt K sa Hk p lp (o.map Dat.str) Hj/\o.length<=i/\(o.length=i->Al o)/\∃z8 T O G:kO,U=S z7 z8 z9 g (some<|.ref ht) M (some<|.bl strt) (some<|.ref lf) (some<|.int<|(0:Int)+(k:Nat)) (some<|.str t.1) (some tu) (some<|.ref lp) T O G
    have al0:Al []:=λi n d e=>by simp at e
    refine RC (xs:=us) L ⟨[],lp0.sm sE,Za _,(λ_=>al0),_,_,_,_,Y⟩ (λi U Hj _ z=>Z0<|M2.tk (Exists.elim z λ_ w=>w.1.sb) _ _ R5) ?_ ?_
    .rintro BB RR i xv U Hj hxj ⟨o,lj,lpk,al,F8,I1,I0,F9,rfl⟩
     have il:=(ZE.mp hxj).1;have G2:=M2.tk lj.sb;obtain⟨d,hpr,hxp⟩:=getD F4 hxj;obtain⟨tp,rfl,htp'⟩:=W5<|XT G2 _ (Wt _) hxp;have sbj:=G3.trans lj.sb;have htj:=sbj _ _ N2 F5;have hxj':=JL (a.tk sbj) _ ttn hxA;exists _,Z0 htp',Y;refine⟨many,Y,by omega,by omega,?_⟩;refine RG ((many:Nat):Int).toNat (Yi<|by omega) (λi vs b=>b=Hj/\vs=((List.range i).filter λj=>decide<|(Z[j]?).map (·.1)=some d.2).map λj=>V.int (j:Nat)) ⟨rfl,rfl⟩ (λi vs b z=>?_) (λi vs b hi z=>hi) (λvs b z=>ZF _) ?_ ?_
     .rw [z.2,ZA]
      have:=yu (λj=>decide<|(Z[j]?).map (·.1)=some d.2)<|List.range i;rw[yF]at this;exact this
     .intro j vs b x H'' R hj z yl rT rF
      obtain⟨rfl,rfl⟩:=yl;obtain⟨rfl,rfl⟩:=z;have ej:(0:Int)+(j:Int)=((j:Nat):Int):=by omega
      rw[ej];obtain⟨vj,hvj⟩:∃v,xt[j]?=some v:=⟨_,ZC<|by omega⟩;obtain⟨tj,e2,hv2⟩:=getD hxj' hvj;obtain⟨ta,tb,tc,rfl,hta,_⟩:=EW hv2;exists _,.ref ta,Z1 htj,Ya hvj,_,.str tj.1,Z0 hta,Ya (j:=0) Y,Y,_,Y
      by_cases c1:tj.1=d.2
      .refine VH (by simp[c1]) (rT _ _ ⟨rfl,?_⟩)
       rw[vH,vQ,ZI]
       congr 1
       rw[List.filter_cons_of_pos (by rw[e2];simp[c1])];rfl
      .refine Y0 (by simp[c1]) (rF _ ⟨rfl,?_⟩)
       rw[vH,vQ,List.filter_cons_of_neg (by rw[e2];simp[c1]),List.filter_nil,yz]
     intro vs b f1 z hf1;obtain⟨z1,rfl⟩:=z;have z2:=z1.symm;subst z2;refine up_in hf1 _ λHG sG gG=>?_
     have pj:∀j∈((List.range ((many:Nat):Int).toNat).filter λj=>decide<|(Z[j]?).map (·.1)=some d.2),j<many/\(Z[j]?).map (·.1)=some d.2:=λj m=>by
      obtain⟨m1',m2'⟩:=zh.mp m;have:=vf.mp m1';exact⟨by omega,Zr m2'⟩
     have F2:((List.range ((many:Nat):Int).toNat).filter λj=>decide<|(Z[j]?).map (·.1)=some d.2).length<=many:=by
      have:=yu (λj=>decide<|(Z[j]?).map (·.1)=some d.2)<|List.range ((many:Nat):Int).toNat;rw[yF]at this;omega
     generalize ((List.range ((many:Nat):Int).toNat).filter λj=>decide<|(Z[j]?).map (·.1)=some d.2)=js at gG pj F2;exists ⟨_,Z1 gG⟩;refine JQ (us:=js) (D:=λj=>.int (j:Nat)) (E:=λj=>.int (j:Nat)) (λj=>decide<|k<j) (itl<|Z1 gG) (Xj js) (by omega) (λu x R hm hu rT rF=>?_) λvs f2 HI ff2 sI hf2 hv2=>?_
     .unfold Has at hu
      subst hu;exists _,Y
      by_cases c1:k<u
      .exact VH (by exact decide_eq_true<|by omega) (rT _ (decide_eq_true c1) (by unfold Has;rfl))
      .exact Y0 (λz=>c1 (by have:=Zr z;omega)) (rF<|Zw c1)
     obtain rfl:=CI hv2;have pj2:∀j∈js.filter λj=>decide<|k<j,j<many/\(Z[j]?).map (·.1)=some d.2:=λj m=>pj j (zh.mp m).1;have lj2:(js.filter λj=>decide<|k<j).length<=many:=ZZ (yu _ _) F2;generalize js.filter (λj=>decide<|k<j)=js2 at hf2 pj2 lj2;dsimp only[Vi];refine Ve (λU' b=>∃(fb:Addr)(j3:List Nat),fb≠p/\Same Hj b/\b fb=some (.lst<|j3.map λj=>V.int (j:Nat))/\j3.length<=many/\(∀j∈j3,j<many/\(Z[j]?).map (·.1)=some d.2)/\∃G:kO,U'=S z7 (some<|.str d.2) z9 g (some<|.ref ht) M (some<|.bl strt) (some<|.ref lf) (some<|.int<|(0:Int)+(k:Nat)) (some<|.str t.1) (some tu) (some<|.ref lp) (some<|.str d.1) (some<|.ref fb) G) ?_ ?_
     case refine_2=>
      intro NN2 R3;have G5:=sG.trans sI;have n1:f1≠p:=lj.pn.ne hf1;have n2:f2≠p:=(lj.pn.same sG).ne ff2;exists _,Y
      cases strt with
      |false=>exact Y0 Zg<|R3 _ _ ⟨f1,js,n1,G5,sI _ _ gG,F2,pj,_,rfl⟩
      |true=>
       refine VH Y ⟨sl 0,λle hle=>?_⟩;refine up_in hle _ λHJ sJ gJ=>?_;have sJJ:=G5.trans sJ;exists .lst<|js2.map λj=>Dat.int (j:Nat),.lst [],VB (sJ _ _ hf2)<|Xj js2,VB gJ Z4,Nq js2,_,rfl;rw[EU]
       by_cases c2:js2=[]
       .exact Y0 (by simp[c2]) (R3 _ _ ⟨f1,js,n1,sJJ,sJ _ _<|sI _ _ gG,F2,pj,_,rfl⟩)
       .exact VH (by simp[c2]) (R3 _ _ ⟨f2,js2,n2,sJJ,sJ _ _ hf2,lj2,pj2,_,rfl⟩)
     rintro U' HJ ⟨fb,j3,npb,sJ,hfb,lj3,pj3,z21'',rfl⟩;refine⟨sl 0,λle hle=>?_⟩;refine up_in hle _ λHK sK gK=>?_;have sJK:=sJ.trans sK;have R6:=sK _ _ hfb;exists .lst<|j3.map λj=>Dat.int (j:Nat),.lst [],VB R6<|Xj j3,VB gK Z4,Nq j3,_,rfl;rw[EU];have F1:=lj.sm sJK
     by_cases c2:j3=[]
     .exact Y0 (by simp[c2]) ⟨o,F1,by omega,(λz=>by omega),_,_,_,_,rfl⟩
     refine VH (by simp[c2]) ?_;have l3:0<j3.length:=List.length_pos_iff.mpr c2;obtain⟨zs,N,Z8,_⟩:=F1.zs;have R1:=Z8.length;rw[ZA]at R1;exists .inl ⟨Y,_,Z1 N⟩,fb,_,Y,.inl<|Z1 R6;have pnK:=F1.pn;refine Ji p sa j3.length (congrArg (λn:Nat=>V.int (n:Int))<|ZA _) pnK l3 (by omega) λr9 HM rl9 bM pnM=>?_;obtain⟨j,hj⟩:∃j,j3[r9]?=some j:=⟨_,ZC rl9⟩;obtain⟨jl,jk⟩:=pj3 j<|ZH hj;obtain⟨tj,htj',etj⟩:=Zh.mp jk;obtain⟨n,hnj⟩:∃n,ys[j]?=some n:=⟨_,ZC<|by omega⟩;have ljM:=F1.mv bM.sb pnM;have sbM:SameB p HA HM:=G3.trans ljM.sb;refine⟨_,.int (j:Nat),Z1<|bM.sb _ _ npb R6,Ya (by rw[ZG,hj];rfl),_,.str n,Z1<|sbM _ _ D3 hnA,Ya (by rw[ZG,hnj];rfl),?_⟩;have hzM:=bM.sb _ _ lj.np N;refine⟨lp,_,_,Y,Y,hzM,Yi<|by omega,o++[n],?_,by rw[ZJ,ze];omega,λel i' n' pr' e1 e2=>?_,_,_,_,_,rfl⟩
     .rw [ZI]
      exact ljM.ap hzM Yz (by unfold Dat.tn;rfl)
     .rw [ZJ,ze]at el
      have el':o.length=i:=by omega
      by_cases c3:i'<o.length
      .rw [zn c3]at e1
       exact al el' i' n' pr' e1 e2
      .rw [zq (by omega)]at e1
       have i0:i'-o.length=0:=by
        have:=(ZE.mp e1).1;rw[ze]at this;omega
       rw[i0]at e1;cases e1;have ii:i'=i:=by omega
       subst ii;rw[hpr]at e2;cases e2;exact⟨j,tj,hnj,htj',etj⟩
    .rintro U Hj ⟨o,lj,lpk,al,F8,I1,I0,F9,rfl⟩
     have G2:=M2.tk lj.sb;obtain⟨zs,N,Z8,_⟩:=lj.zs;obtain rfl:=XU Z8;have hhj:=G2 _ _ G1;exists lp,_,Y,.inl<|Z1 N,_,.ref hu,Z0 hhj,Ya (j:=1) rfl,hu,_,rfl,.inr<|Z0<|G2 _ _ R5,rfl,_,rfl
     by_cases c4:o.length=us.length
     case neg=>exact Y0 (λz=>c4 (by have z1:=Zr z;injection z1 with z2;rw[ZA]at z2;omega))<|J5 _ _ ⟨t.2.1,tu,lj.sb,lj.pn,Jd G2 _ (Td.tn _) htu,⟨F6,t,R4,.inl rfl⟩,_,_,_,_,_,rfl⟩
     refine VH (by rw[ZA,c4];exact decide_eq_true Y) ?_;refine⟨_,.str h.1,Z0 hhj,Ya (j:=0) Y,lp,_,Y,.inl ⟨Z1 N,λtA F5=>?_⟩⟩;refine up_in F5 _ λHG sG gG=>?_;refine⟨sl 3,λtB htB=>?_⟩;refine up_in htB _ λHI sI gI=>?_;have G5:=sG.trans sI;exact J5 _ _ ⟨.ak h.1 o,_,lj.sb.trans G5.sb,lj.pn.same G5,Xn gI<|sI _ _ gG,⟨F6,t,R4,.inr ⟨h,o,eh,rfl,by omega,al c4⟩⟩,_,_,_,_,_,rfl⟩
   rintro U' HG ⟨td,v,sbG,pnG,hvG,ce,F8,z18',I1,I0,F9,rfl⟩;have lcG:=lc.mv sbG pnG;obtain⟨zs,N,Z8,_⟩:=lcG.zs;have R1:=Z8.length;rw[ZA]at R1;refine⟨.inl ⟨Y,_,Z1 N⟩,_,.str n0,Z1<|(G3.trans sbG) _ _ D3 hnA,(by rw[e0];exact Ya (by rw[ZG,F6];rfl)),sl 2,λtX htX=>?_⟩;refine up_in htX _ λHI sI gI=>?_;have hzI:=sI _ _ N;refine⟨lf,_,_,Y,Y,hzI,Yi<|by omega,cs++[(n0,td)],?_,by rw[ZJ,lck];rfl,λi x e=>?_,_,_,_,_,_,_,_,_,_,rfl⟩
   .rw [ZI]
    exact(lcG.sm sI).ap hzI (Yx gI<|Z2 Yz<|Z3<|hvG.mono sI)<|V5 (n0,td)
   .by_cases c3:i<cs.length
    .rw [zn c3]at e
     exact cl i x e
    .rw [zq (by omega)]at e
     have i0:i-cs.length=0:=by
      have:=(ZE.mp e).1;rw[ze]at this;omega
     rw[i0]at e;cases e;have ii:i=k:=by omega
     subst ii;exact ce
  .rintro U Hk ⟨cs,lc,lck,cl,z8',I2,J2,J1,Z9,l,T,O,G,rfl⟩
   have lck':cs.length=many:=by omega
   obtain⟨zs,h1,h2,_⟩:=lc.zs;refine q lf zs cs Hk (R8.trans lc.sb) lc.pn h1 h2 lck' (PP wy (by omega) (by omega) (by omega) hh (λh m y my=>?_) ok cl) λx m=>?_
   .have ho:=wl.ho h m
    have ym:y∈fl.map (·.1):=by
     rcases Zb.mp my with rfl|my
     .exact ho.own
     .obtain ⟨d,mp,rfl⟩:=ZU.mp my
      exact ho.kin d mp
    obtain⟨⟨y',s'⟩,m',rfl⟩:=ZU.mp ym;obtain⟨ts,rfl,_⟩:=wl.ok.ok y' s' m';unfold kT;rw[wl.sk y' _ m']
   .obtain ⟨i,hi⟩:=zi.mp m
    exact wy.len _<|ZH (cl i x hi).1
end
end K4
namespace L2
open PySem
def Bd.dat_pair(a b:Bd):(Bd.pair a b).dat=.tup [.str "pair",a.dat,b.dat]:=by(conv=>lhs;unfold Bd.dat)
def Bd.dat_name(t:Str):(Bd.name t).dat=.tup [.str "name",.str t]:=by unfold Bd.dat;rfl
def Bd.dat_one(a:Bd):(Bd.one a).dat=.tup [.str "one",a.dat]:=by(conv=>lhs;unfold Bd.dat)
def Kd.more{L G:Hds}(s:∀f p,L f=some p->G f=some p)(k:Kd M L g y b):Kd M G g y b:=by
 induction k with
 |tag O N=>exact .tag O N
 |name h=>exact .name h
 |pair h _ _ J Z=>exact .pair h J Z
 |one h _ i=>exact .one h i
 |other h _ i=>exact .other h i
 |choose h _ l _ J Z=>exact .choose h J l Z
 |ask h l _ i=>exact .ask (s _ _ h) l i
 |letb h m _ _ J Z=>exact .letb h m J Z
def Sd.more{J Z:Hds}(s:∀f p,J f=some p->Z f=some p)(k:Sd G J g y n b):Sd G Z g y n b:={k with kd:=k.kd.more s}
def Nu{Z J:List Hd}(h:Y1 Z f=some p):Y1 (Z++ J) f=some p:=by
 unfold Y1 at h |-;rw[jD]
 cases e:Z.find? λh=>decide (h.1=f)with
 |none=>rw[e]at h;cases h
 |some x=>rw[e]at h;exact h
theorem Tn{α:Type}(t:α->Bool):∀l:List α,l.length=(l.filter t).length+(l.filter λx=>!t x).length
 |[]=>rfl
 |x::l=>by
  have ih:=Tn t l;rw[jI,jI,Zd];cases t x <;> simp <;> omega
theorem IH{α:Type}:∀{l:List α},3<=l.length->∃a b c r,l=a::b::c::r
 |a::b::c::r,_=>⟨a,b,c,r,rfl⟩
 |[],h=>by cases h
 |[_],h=>by simp at h
 |[_,_],h=>by simp at h
structure Fp(ks:List (Str×Shp))(c:Str->Nat)(hs:List Hd)(ds:List Dd):Prop where
 h0:0<hs.length
 d0:0<ds.length
 d8:ds.length<=8
 wd:Wds 97 (ds.map λx=>x.1.1)
 ho:∀x∈ds,Ge (ks.map (·.1)) c 40 x.1
 dok:∀x∈ds,Sd ks (Y1 (ds.map (·.1))) (kvP x.1.2.1) x.1.2.2 5 x.2
 hh:∀h∈hs,Y1 (ds.map (·.1)) h.1=some h.2
def LH(h:Ge Z c top x)(s:∀y∈Z,y∈J):Ge J c top x:={h with kin:=λp m=>s _<|h.kin p m,own:=s _ h.own}
def LU:∀y∈(flat J).map (·.1),y∈J.map (·.1):=λy m=>by
 obtain⟨k,Z,rfl⟩:=ZU.mp m;exact ZU.mpr ⟨k,(zh.mp Z).1,Y⟩
def Lp{J:List Dd}(e:J.map (·.1)=Z)(O:0<Z.length)(T:Z.length<=5)(L:Wds 97 (Z.map (·.1)))(N:∀h∈Z,Ge ((flat M).map (·.1)) c 40 h)(G:∀x∈J,Sd M (Y1 Z) (kvP x.1.2.1) x.1.2.2 5 x.2):Fp M c Z J:=by
 have R:J.length=Z.length:=by rw[<-e,ZA]
 refine⟨O,by omega,by omega,?_,λx m=>LH (N x.1 (by rw[<-e];exact ZU.mpr ⟨x,m,Y⟩)) LU,λx m=>by rw[e];exact G x m,λh m=>by rw[e];exact XS L.nd m⟩;have:(J.map λx=>x.1.1)=Z.map (·.1):=by rw[<-e,zf];rfl
 rw[this];exact L
def NF{ys:ky}(w:Wds o ys)(n:x∉ys)(l:1<=x.length/\x.length<=8)(a:∀c∈x.cps.toList,o<=c/\c<o+26):Wds o (ys++[x]):=by
 refine⟨yC.mpr ⟨w.nd,zW.mpr ⟨yn,vh⟩,λa J b Z e=>?_⟩,λy m=>?_,λy m=>?_⟩
 .rw [ZO.mp Z]at e
  exact n<|e ▸ J
 .rcases ZV.mp m with m|m
  .exact w.len y m
  .rw [ZO.mp m];exact l
 .rcases ZV.mp m with m|m
  .exact w.abc y m
  .rw [ZO.mp m];exact a
def Lq{J:List Dd}(b:Fp M c Q J)(l:J.length<=5)(T:XA M c d)(A:(y,Shp.pair a a)∈M)(I:(a,Shp.tags U)∈M)(F:t∈U)(G:Wds 97 (Z::w1::w2::r))(P:Z∉J.map λx=>x.1.1)(X:w1∉J.map λx=>x.1.1):
  Fp M c Q (J++[((Z,[],y),.pair (.tag t)<|.tag t),((w1,[(w2,y)],a),.one<|.name w2)]):=by
 have L:=T.sh A;have N:=T.sh I;have B:y∈M.map (·.1):=ZU.mpr ⟨_,A,rfl⟩;have j:a∈M.map (·.1):=ZU.mpr ⟨_,I,rfl⟩;have C:=zW.mp G.nd;have E:Z∈Z::w1::w2::r:=by simp
 have D:w1∈Z::w1::w2::r:=by simp
 have R:w2∈Z::w1::w2::r:=by simp
 have z:c y<=30:=by
  obtain⟨_,_,_,h,_⟩:=T.kk.at L;exact h
 have S:((J++[((Z,[],y),Bd.pair (.tag t)<|.tag t),((w1,[(w2,y)],a),.one<|.name w2)]).map (·.1))=J.map (·.1)++[(Z,[],y),(w1,[(w2,y)],a)]:=by rw[ZI];rfl
 have O:∀{x:Dd},x∈J++[((Z,[],y),Bd.pair (.tag t)<|.tag t),((w1,[(w2,y)],a),.one<|.name w2)]->x∈J\/x=((Z,[],y),.pair (.tag t)<|.tag t)\/x=((w1,[(w2,y)],a),.one<|.name w2):=λ{x} m=>by
  rcases ZV.mp m with m|m
  .exact .inl m
  .simp only[Zb,yn,or_false]at m
   exact .inr m
 refine⟨b.h0,by rw[ZJ];have:=b.d0;omega,by rw[ZJ];show _+2<=8;omega,?_,λx m=>?_,λx m=>?_,λh m=>?_⟩
 .have e:((J++[((Z,[],y),Bd.pair (.tag t)<|.tag t),((w1,[(w2,y)],a),.one<|.name w2)]).map λx=>x.1.1)=((J.map λx=>x.1.1)++[Z])++[w1]:=by rw[ZI,yP];rfl
  rw[e];refine NF (NF b.wd P (G.len _ E)<|G.abc _ E) (λm=>?_) (G.len _ D)<|G.abc _ D;rcases ZV.mp m with m|m
  .exact X m
  .exact C.1 (by rw[ZO.mp m];simp)
 .rcases O m with m|rfl|rfl
  .exact b.ho x m
  .exact ⟨by show 0<=3;decide,(λp m=>nomatch m),B,vh,(λp m=>nomatch m),by show 1<=40;decide⟩
  .refine ⟨by show 1<=3;decide,λp m=>?_,j,?_,λp m=>?_,?_⟩
   .rw [ZO.mp m];exact B
   .exact zW.mpr ⟨yn,vh⟩
   .rw [ZO.mp m];exact⟨(G.len _ R).1,(G.len _ R).2,G.abc _ R⟩
   .show 1*c y<=40
    omega
 .rw [S]
  rcases O m with m|rfl|rfl
  .exact (b.dok x m).more λf p h=>Nu h
  .exact ⟨.pair L (.tag N F)<|.tag N F,by simp[Bd.ok],by simp[Bd.dep],by simp[Bd.nl]⟩
  .refine ⟨.one L<|.name ?_,by simp[Bd.ok],by simp[Bd.dep],by simp[Bd.nl]⟩
   show VD [((Sum.inr w2:Key),V.str y)] (Sum.inr w2)=_;exact JC Y
 .rw [S]
  exact Nu<|b.hh h m
end L2
namespace K4
open PySem L2
section
def NW:Yq ["_law_pen","_law_kinds_here","_law_flat_here","_law_world_here","_law_defined","_law_taken","_law_words_here","_law_tag","_law_pair"] ["_law_pen","_law_kinds_here"] (Yb Di):=Y6
def SG:List.Nodup [("_law_row":Str)]:=by decide +kernel
def Ay:List.Nodup [("_law_name":Str),"_law_taken"]:=by decide +kernel
inductive SBD(K:W.Frag)(H:Hp)(Q:VK):List V->Prop
 |mk (p sa kl:Addr) (ks:List (Str×Shp)) (c d:Str->Nat) (pn:Pen K sa H p) (hk:Has H (.ref kl) (.lst (ks.map Vv))) (kS:XA ks c d)
  (q:∀t wv dl zs hs ds H',SameB p H H'->Pen K sa H' p->H' t=some (.tup [wv,.ref dl])->Wld H' wv ks (flat ks) hs c->H' dl=some (.lst zs)->HasL H' zs (ds.map Jp)->Fp ks c hs ds->Q (.ref t) H'):SBD K H Q [.ref p,.ref kl]
def Qb(K:W.Frag):Sp:=λZ H Q _=>SBD K H Q Z
def Aq(B:Blt mg)(F:Fun K "_law_book_drawn" "_law_book_drawn" Di f fd)(DL:Df P w K mg base n "_law_flat_kinds" ["_law_kinds_here"] MI)(DH:Df P w K mg base n "_law_heads_drawn" ["_law_pen","_law_flat_here"] (TF K))(DD:Df P w K mg base n "_law_defined_drawn" ["_law_pen","_law_world_here"] (BZ K))(DW:Df P w K mg base n "_law_small_words" pnm (Uk K)):Ym P w K mg base CX0 (n+1) f fd ["_law_pen","_law_kinds_here"] (Qb K):=by
 refine F.oi NW λcdv A outer s H vs Q E hr h=>?_;obtain⟨p,sa,kl,L,c,d,pn,hk,g,q⟩:=h;refine⟨_,YW (Yp 2 NW.nd<|Yy DL hr<|pa1<|pv 1)
  (YW (Yp 3 NW.nd<|Yv<|pa2 (pv 2)<|Yy DH hr<|pa2 (pv 0)<|pv 2)
  (YW (Yp 4 NW.nd<|Yy DD hr<|pa2 (pv 0)<|pv 3)
  (YW (Y2 (Yn Th (Yt Yo rfl B.len Zs (pa1<|pv 2)) (Yt Yo rfl B.len Zs (pa1<|pv 1))<|Yu _) (YW (Yp 5 NW.nd (Vq ["_law_row"] [] (VL<|pv 4) (VP (i:=0)<|by decide) (λcl C fp s H=>Yd 0 SG rfl (Or.inl rfl) (Or.inr rfl)) λcl C fp s H=>Yf (r:=UB K) Yl (pv 0)<|YX) (hx:=Or.inr rfl))
  (YW (Xe (i0:=6) ["_law_name"] [5] NW.nd rfl (Or.inl rfl) (VL<|Yy DW hr<|pa2 (pv 0)<|YX) (VP (i:=0)<|by decide) (λcl C fp s H=>Yd 0 Ay rfl (Or.inl rfl) (Or.inr rfl)) (λcl C fp s H=>Yn (r:=rIn K true) JU (pv 0) (pv 1) rfl) (λcl C fp s H=>pv 0))
  (YW (Yp 7 NW.nd<|Yv<|pa2 (Y3)<|Yf Yl (Yf Yl (Yf Yl (Yf Yw (pv 2)<|YX)<|YX)<|YX)<|YX)
  (YW (Yp 8 NW.nd<|Yf Yl (Yf Yw (pv 1)<|RZ Wd YX)<|YX)
  (YW (VF<|Jm Zx Zy Zz VY (pv 4)<|pa1<|Yv<|pa4 (Yf Yw (pv 6)<|YX) (Yv VR) (pv 8)<|Yv<|pa3 (Y3) (pv 7)<|pv 7)
  (YY<|VF<|Jm Zx Zy Zz VY (pv 4)<|pa1<|Yv<|pa4 (Yf Yw (pv 6)<|YX) (Yv<|pa1<|Yv<|pa2 (Yf Yw (pv 6)<|YX)<|pv 8) (Yf Yl (Yf Yw (pv 2)<|YX)<|YX)<|Yv<|pa2 (Y3)<|Yv<|pa2 (Y3)<|Yf Yw (pv 6)<|YX)))))) Yr)
  (YY<|Ys<|Yv<|pa2 (pv 3)<|pv 4)))),?_⟩
 dsimp only[Vg,Cx.nox,Cx.wish];show let T0:=_;let T1:=_;let T2:=Yg _ T1;let T3:=Yg _ T2;let T4:=Yg _ T3;let T5:=Yg _ T4;let T6:=Yg _ T5;let T7:=Yg (Y9 _ T6 _) T0;let T8:=Yg _ T7;let T9:=Yg _ T8;Yg _ T9 _ _ _
 intros
 obtain⟨_,xk,e,R1,N2⟩:=Vr hk;cases e;have D3:=pn.lst R1 N2<|Dat.nis_of<|VO VZ L;have k6:=g.k6;have k0:=g.k0;have f0:=g.f0;have f3:=g.f3;have F1:=N2.length;rw[ZA]at F1;refine⟨.ref kl,L,hk,by omega,λfa xf H1 ffa s1 U I=>?_⟩;have J1:fa≠p:=pn.ne ffa;have Z9:=pn.same s1;have lxf:=I.length;rw[ZA]at lxf;refine⟨p,sa,.ref fa,flat L,c,Z9,VB U I,g.fl,λhl xh hs H2 sb2 pn2 fhl hhl hxh h0 h5 wh ho=>?_⟩;refine⟨sl 2,λwa hwa=>?_⟩;refine up_in hwa _ λH3 s3 g3=>?_;have Z8:=pn2.same s3;have G:=sb2.trans s3.sb;have S:=Dat.nis_of<|VO VZ<|flat L;have wl:Wld H3 (.ref wa) L (flat L) hs c:=⟨Yx g3<|Z2 (VB (G _ _ J1 U)<|JA G Z9 _ S I)<|Z3<|VB (s3 _ _ hhl)<|hxh.mono s3,g.fl,λy s m=>g.sh<|XW m,wh.nd,by omega,ho⟩;refine⟨p,sa,.ref wa,L,flat L,hs,c,Z8,wl,λM zd J H4 R7 L1 I9 J2 M2 eds sds=>?_⟩;have lzd:=M2.length;rw[ZA]at lzd;have ld:J.length=hs.length:=by rw[<-eds,ZA]
 have bk:=Lp eds h0 h5 wh ho sds;have O:=G.trans R7;have G3:SameB p H H4:=s1.sb.trans O;have hf4:=O _ _ J1 U;have hk4:=G3 _ _ D3 R1;have npd:M≠p:=Z8.ne I9;have F2:Lb K sa H3 p M (J.map Jp) H4:=⟨Z8,I9,R7,L1,zd,J2,M2,VO Jo J⟩
 have fin:∀(Z:List Dd) H',Lb K sa H3 p M (Z.map Jp) H'->Fp L c hs Z->∀t,H' t=none->Q (.ref t) (upd H' t<|.tup [.ref wa,.ref M]):=λZ H' lb ok t ht=>by
  have sT:=Ye ht<|.tup [.ref wa,.ref M];obtain⟨zs,h1,h2,_⟩:=(lb.sm sT).zs;exact q t (.ref wa) M zs hs Z _ ((s1.sb.trans G).trans<|lb.sb.trans sT.sb) (lb.pn.same sT) YZ (wl.pn (lb.sb.trans sT.sb) Z8) h1 h2 ok
 dsimp only[Vi];refine Ve (λU' H'=>∃Z:List Dd,Lb K sa H3 p M (Z.map Jp) H'/\Fp L c hs Z/\∃z5 z6 z7 z8:kO,U'=[some (.ref p),some<|.ref kl,some<|.ref fa,some<|.ref wa,some<|.ref M,z5,z6,z7,z8]) ?_ ?_
 .rintro U' H' ⟨Z,lb,ok,z5,z6,z7,z8,rfl⟩
  exact⟨sl 2,λt ht=>fin Z H' lb ok t ht⟩
 intro NN F4;exists fa,_,Y,.inl<|Z1 hf4,kl,_,rfl,.inl<|Z1 hk4,_,rfl
 by_cases c1:(flat L).length<L.length
 case neg=>exact Y0 (λz=>c1 (by have:=Zr z;omega))<|F4 _ _ ⟨J,F2,bk,_,_,_,_,rfl⟩
 refine VH (by exact decide_eq_true<|by omega) ?_
 obtain⟨y,a,ts,S2,ea⟩:∃y a ts,L=flat L++[(y,Shp.pair a a)]/\(flat L)[0]?=some (a,.tags ts):=by
  rcases g.pr with z|z
  .rw [z]at c1;omega
  .exact z
 have am:(a,Shp.tags ts)∈flat L:=ZH ea;obtain⟨ts',e9,_,t1,t4,_⟩:=g.fl.ok a _ am;cases e9;have pm:(y,Shp.pair a a)∈L:=by rw[S2];exact ZV.mpr<|.inr ZY
 obtain⟨tg,I3⟩:∃tg,ts[0]?=some tg:=⟨_,ZC<|by omega⟩;have dst:=Dat.nis_of<|VO Jo J;exists ⟨_,Z1 J2⟩;refine Uq (us:=J) (D:=Jp) (E:=λx=>.str x.1.1) (itl<|Z1 J2) M2 (by omega) (λu x R hm hu rT=>?_) λvs l5 H5 fl5 s5 hl5 hv5=>?_
 .obtain ⟨b,u',w',rfl,hb,_⟩:=Xm hu
  exact⟨_,.str u.1.1,Z0 hb,Ya (j:=0) Y,rT _ Yz⟩
 obtain rfl:=XU (ns:=J.map λx=>x.1.1) (by rw[zf];exact hv5);have pn5:=L1.same s5;have np5:l5≠p:=L1.ne fl5;refine⟨p,sa,8,pn5,by decide,λwl' X H6 G4 pn6 fwl I0 lws ww=>⟨⟨_,Z1 I0⟩,?_⟩⟩;have hl6:=G4 _ _ np5 hl5;refine JQ (us:=X) (D:=Dat.str) (E:=Dat.str) (λx=>decide<|x∉J.map λx=>x.1.1) (itl<|Z1 I0) (VT X) (by omega) (λu x R hm hu rT rF=>?_) λvs l7 H7 fl7 s7 I5 hv7=>?_
 .obtain rfl:=has_str hu
  exists l5,_,Y,.inl<|Z1 hl6,rfl,JG _,_,rfl;rw[JZ]
  by_cases m:u∈J.map λx=>x.1.1
  .exact Y0 (by simp only[decide_eq_true m];decide) (rF<|Zw λz=>z m)
  .exact VH (by simp only[Zw m];decide) (rT _ (decide_eq_true m) Yz)
 obtain rfl:=XU hv7
 have lf:3<=(X.filter λx=>decide<|x∉J.map λx=>x.1.1).length:=by
  have h1:X.length=(X.filter λx=>decide<|x∉J.map λx=>x.1.1).length+(X.filter λx=>!decide (x∉J.map λx=>x.1.1)).length:=by
   exact Tn _ X
  have h2:(X.filter λx=>!decide (x∉J.map λx=>x.1.1)).length<=(J.map λx=>x.1.1).length:=WV (ww.nd.sublist List.filter_sublist) λx m=>by
   have:=(zh.mp m).2;rw[yQ,decide_eq_false_iff_not,Classical.not_not]at this;exact this
  rw[ZA]at h2;omega
 obtain⟨k,w1,w2,wr,ew⟩:=IH lf
 have wz:Wds 97 (k::w1::w2::wr):=by
  rw[<-ew];have R6:∀x∈X.filter λx=>decide<|x∉J.map λx=>x.1.1,x∈X:=λx m=>(zh.mp m).1;exact⟨ww.nd.sublist List.filter_sublist,λx m=>ww.len x<|R6 x m,λx m=>ww.abc x<|R6 x m⟩
 have nw:∀x∈k::w1::w2::wr,x∉J.map λx=>x.1.1:=λx m=>by
  rw[<-ew]at m;exact Zr (zh.mp m).2
 rw[ew]at I5;have s67:=s7;have N:SameB p H4 H7:=(s5.sb.trans G4).trans s7.sb;have pn7:=pn6.same s7;have G1:=O.trans N;have R8:=G3.trans N;have hf7:=G1 _ _ J1 U;have F9:=JA G1 Z9 _ S I;obtain⟨v0,I2⟩:∃v,xf[0]?=some v:=⟨_,ZC<|by omega⟩;obtain⟨k0',ek0,hk0⟩:=getD F9 I2;rw[ea]at ek0;cases ek0;obtain⟨ka,kw,rfl,hka,hkw⟩:=Vw hk0;obtain⟨kb,kt,rfl,hkb,hkt⟩:=J0 hkw;refine⟨_,.ref ka,Z1 hf7,Ya (j:=0) I2,_,.ref kb,Z0 hka,Ya (j:=1) Y,_,.ref kt,Z0 hkb,Ya (j:=1) Y,_,.str tg,Z0 hkt,Ya (j:=0) (by rw[ZG,I3];rfl),sl 2,λtt htt=>?_⟩;refine up_in htt _ λH8 s8 g8=>?_;have R5:Has H8 (.ref tt) (Bd.tag tg).dat:=by rw[Bd.dat_tag];exact WE g8
 obtain⟨xl,xl1,xl2⟩:=Ml (xs:=xk) (by omega);obtain⟨kz,I7,I6⟩:=getD N2 xl2
 have ekz:kz=(y,Shp.pair a a):=by
  rw[F1,S2,ZJ,ze,Nat.add_sub_cancel,zq<|ZF _,jA]at I7;exact(ZP I7).symm
 subst ekz;have G2:=R8.trans s8.sb;obtain⟨za,zw,rfl,hza,_⟩:=Vw<|Vm G2 pn _ (Dat.ni_of<|VZ _) I6;exists _,Y,_,.ref za,Z1<|G2 _ _ D3 R1,xl1,_,.str y,Z0 hza,Ya (j:=0) rfl;have I4:=s8 _ _ I5;have F3:=(F2.mv N pn7).sm s8;obtain⟨R3,F8,hh8,_⟩:=F3.zs;have lz8:=hh8.length;rw[ZA]at lz8;refine⟨.inl ⟨Y,_,Z1 F8⟩,_,.str k,Z1 I4,Ya (j:=0) Y,sl 0,λt9 ht9=>?_⟩;refine up_in ht9 _ λH9 s9 g9=>?_;refine⟨sl 3,λtA htA=>?_⟩;refine up_in htA _ λHA sA gA=>?_;refine⟨sl 4,λtB htB=>?_⟩;refine up_in htB _ λHB sB gB=>?_;have o:=(s9.trans sA).trans sB;have F7:=o _ _ F8;exists M,_,_,Y,Y,F7,Yi<|by omega
 have dB:Has HB (.ref tB) (Jp ((k,[],y),.pair (.tag tg)<|.tag tg)):=by
  unfold Jp;have R4:Has HB (.ref tt) (Bd.tag tg).dat:=R5.mono o;refine Yx gB<|Z2 Yz<|Z2 (Yx ((sA.trans sB) _ _ g9) Z4)<|Z2 Yz<|Z3 ?_;rw[Bd.dat_pair];exact Yx (sB _ _ gA)<|Z2 Yz<|Z2 R4<|Z3 R4
 have T:=(F3.sm o).ap F7 dB<|Jo _;have ndl:l7≠M:=(Yk ((s5.sb.trans G4) _ _ npd J2) fl7).symm
 have J4:upd HB M (.lst<|R3++[.ref tB]) l7=some (.lst<|(k::w1::w2::wr).map V.str):=by
  rw[Yc ndl];exact o _ _ I4
 have ed:J.map Jp++[Jp ((k,[],y),.pair (.tag tg)<|.tag tg)]=(J++[((k,[],y),Bd.pair (.tag tg)<|.tag tg)]).map Jp:=by rw[ZI];rfl
 rw[ed]at T;generalize upd HB M (.lst<|R3++[.ref tB])=HC at T J4 |-;obtain⟨zsC,F6,hhC,_⟩:=T.zs;have lzC:=hhC.length;rw[ZA,ZJ,ze]at lzC;have J5:=G.trans T.sb;have hfC:=J5 _ _ J1 U;obtain⟨vC,I1⟩:∃v,xf[0]?=some v:=⟨_,ZC<|by omega⟩;obtain⟨kC,C2,hkC⟩:=getD (JA J5 Z9 _ S I) I1;rw[ea]at C2;cases C2;obtain⟨kaC,kwC,rfl,I8,_⟩:=Vw hkC;refine⟨.inl ⟨Y,_,Z1 F6⟩,_,.str w1,Z1 J4,Ya (j:=1) Y,_,.str w2,Z1 J4,Ya (j:=2) Y,sl 2,λtD htD=>?_⟩;refine up_in htD _ λHD sD gD=>?_;refine⟨sl 1,λtE htE=>?_⟩;refine up_in htE _ λHE sE gE=>?_;have l:=sD.trans sE;refine⟨_,.ref kaC,Z1<|l _ _ hfC,Ya (j:=0) I1,_,.str a,Z0<|l _ _ I8,Ya (j:=0) rfl,_,.str w2,Z1<|l _ _ J4,Ya (j:=2) rfl,sl 2,λtF htF=>?_⟩;refine up_in htF _ λHF sF gF=>?_;refine⟨sl 2,λtG htG=>?_⟩;refine up_in htG _ λHG sG gG=>?_;refine⟨sl 4,λtH htH=>?_⟩;refine up_in htH _ λHH sH gH=>?_;have G5:=(sF.trans sG).trans sH;have D0:=l.trans G5;have F5:=D0 _ _ F6;refine⟨M,_,_,Y,Y,F5,Yi<|by omega,F4 _ _ ⟨(J++[((k,[],y),Bd.pair (.tag tg)<|.tag tg)])++[((w1,[(w2,y)],a),.one<|.name w2)],?_,?_,_,_,_,_,rfl⟩⟩
 .rw [ZI]
  refine(T.sm D0).ap F5 ?_<|Jo _;unfold Jp;refine Yx gH<|Z2 Yz<|Z2 ?_<|Z2 Yz<|Z3 ?_
  .exact Yx (G5 _ _ gE) (Z3<|WE<|(sE.trans G5) _ _ gD)
  .rw [Bd.dat_one,Bd.dat_name]
   exact Yx (sH _ _ gG)<|Z2 Yz<|Z3<|WE<|(sG.trans sH) _ _ gF
 .rw [yP]
  exact Lq bk (by omega) g pm (XW am) (ZH I3) wz (nw k<|by simp)<|nw w1<|by simp
end
end K4
namespace L2
open PySem
def Pre(ks:kQ)(hd:Hds)(cs cs':List Ce)(k:Nat):Prop:=∀i x,i<k->cs'[i]?=some x->∃Z,cs[i]?=some Z/\x.1=Z.1/\tdB ks hd x.2=true
def RY{J Z:List Ce}(l:Z.length=J.length)(p:Pre N R J Z k)(i:Nat)(O:i<=k):(Z.take i).map (·.1)=(J.take i).map (·.1):=yE λj=>by
 rw[ZG,ZG,ya,ya]
 by_cases c:j<i
 .rw [Zn c,Zn c]
  cases e:Z[j]? with
  |none=>
   rw[zg]at e;rw[show J[j]?=none by rw[zg];omega]
  |some x=>
   obtain⟨M,L,G,_⟩:=p j x (by omega) e;rw[L];exact congrArg some G
 .rw [Zo c,Zo c]
def Nb{J Z:List Ce}(R:Uc G L J J.length)(l:Z.length=J.length)(p:Pre G L J Z k):Uc G L Z k:=λi x B T=>by
 obtain⟨O,N,M,D⟩:=p i x B T;have o:=R i O (ZE.mp N).1 N;refine⟨by rw[M];exact o.1,?_,D⟩;rw[RY l p i (by omega),M];exact o.2.1
def X1{J Z:List Ce}(M:Uc G L J J.length)(N:J.length<=30)(l:Z.length=J.length)(p:Pre G L J Z k)(O:Z[k]?=some x)(b:D4 G L ((J.take k).map (·.1)) x):Jv G L Z k:=
 .inr (.inr<|.inl ⟨by omega,x,O,Nb M l p,by rw[RY l p k (ZF _)];exact b.no⟩)
def WO{Z:List Ce}(G:Uc L M Z Z.length)(k:Nat):Pre L M Z Z k:=λi x _ J=>⟨x,J,rfl,(G i x (ZE.mp J).1 J).2.2⟩
def EJ{G Z:List Ce}(p:Pre L M G Z m)(O:G[k]?=some x0)(h:x.1=x0.1)(t:tdB L M x.2=true):Pre L M G (Z.set k x) m:=λi y R J=>by
 by_cases e:k=i
 .subst e
  have N:k<Z.length:=by
   have:=(ZE.mp J).1;rw[zp]at this;exact this
  rw[yb N]at J;cases J;exact⟨x0,O,h,t⟩
 .rw [yf e]at J
  exact p i y R J
def B3{G Z:List Ce}(p:Pre L N G Z m)(h:m<=k):Pre L N G (Z.set k x) m:=λi y M J=>by
 rw[yf (by omega)]at J;exact p i y M J
def Qt(p:Pre Z G cs cs' m)(h:k<=m):Pre Z G cs cs' k:=λi x L J=>p i x (by omega) J
def IJ{J Z:ky}(h:Z.length=J.length)(t:tdB L G (.ak f J)=true):tdB L G (.ak f Z)=true:=by
 cases e:G f with
 |none=>rw[Xx e]at t;cases t
 |some p=>
  obtain⟨M,y⟩:=p;rw[Xy e]at t |-;rw[h];exact t
def PF{Z:List Ce}(J:Z[k]?=some (n,.ak f L))(z:Str):JF G (Z.set k (n,.ak f ns')) z=JF G Z z:=by
 induction Z generalizing k with
 |nil=>cases J
 |cons x Z ih=>
  cases k with
  |zero=>
   cases J;show((((n,Td.ak f ns')::Z).find? λx=>decide<|x.1=z).map λx=>tdK G x.2)=((((n,Td.ak f L)::Z).find? λx=>decide<|x.1=z).map λx=>tdK G x.2);rw[zo,zo];dsimp only;cases decide (n=z) <;> rfl
  |succ k=>
   have:=ih J;unfold JF at this |-;rw[List.set_cons_succ,zo,zo]
   cases decide (x.1=z)with
   |true=>rfl
   |false=>exact this
def DU{Z:List Ce}(L:Uc E J Z Z.length)(D:GZ J Z Z.length)(N:Z.length<=30)(G:Z[k]?=some (n,.ak f B))(h:ns'.length=B.length)(b:ns'.map (JF J Z)≠(psK J f).map some):Jv E J (Z.set k (n,.ak f ns')) k:=by
 have R:=(ZE.mp G).1;have T:JF J (Z.set k (n,.ak f ns'))=JF J Z:=funext λz=>PF G z;refine .inr<|.inr<|.inr ⟨by rw[zp];exact N,?_,(n,.ak f ns'),yb R,λi x A O=>?_,λz=>b ?_⟩
 .rw [zp]
  exact Nb L (zp)<|EJ (WO L Z.length) G rfl (IJ h (L k _ R G).2.2)
 .rw [yf (by omega)]at O
  intro F M e;rw[T];exact D i x (ZE.mp O).1 O F M e
 .have:=z f ns' rfl
  rw[T]at this;exact this
def Ey(R:XA N c d)(h:N[0]?=some (y,.tags D)):K4.GoodC N A (JI.map λn=>(n,Td.tg y none)):=by
 have F:(JI.map λn=>(n,Td.tg y none)).length=30:=by rw[ZA,UI]
 have I:(JI.map λn=>((n,Td.tg y none):Ce)).map (·.1)=JI:=by rw[zf];exact List.map_id _
 refine⟨by omega,by omega,λi x _ Z=>?_,λi x _ Z=>?_,λx m=>?_⟩
 .rw [ZG]at Z
  obtain⟨n,L,rfl⟩:=Zh.mp Z;exists ND n<|ZH L,λm=>?_
  .rw [<-y6,zf]at m
   obtain⟨O,G,B⟩:=ZU.mp m;have M:O=n:=B;subst M;obtain⟨j,J⟩:=zi.mp G
   have T:j<i:=by
    have:=(ZE.mp J).1;rw[ZL]at this;omega
   rw[ya,Zn T]at J;have:=(List.getElem?_inj (ZE.mp J).1 NE).mp<|J.trans L.symm;omega
  .rw [G6]
   unfold kT;rw[R.sh (ZH h)];rfl
 .rw [ZG]at Z
  obtain⟨n,L,rfl⟩:=Zh.mp Z;exact λf E e=>nomatch e
 .obtain ⟨n,G,rfl⟩:=ZU.mp m
  have:=(NB<|ND n G).2.1;show n.length<=20;omega
theorem HasL.rep(h:HasL H Z J):∀n:Nat,HasL H (List.replicate n Z).flatten (List.replicate n J).flatten
 |0=>Z4
 |n+1=>by
  rw[yi,yi,yO,yO];exact Z5 h<|HasL.rep h n
end L2
namespace K4
open PySem L2
section
variable{C CK CS N:Addr}
inductive CZ(K:W.Frag)(H:Hp)(Q:VK):List V->Prop
 |mk (a:Addr) (ns:List Int) (hS:SqL K H a (ns.map V.int)) (q:∀H',Q (.bl true) H'):CZ K H Q [.ref a]
def EC(K:W.Frag):Sp:=λZ H Q _=>CZ K H Q Z
def UU:Yq ["script","_law_pen","_law_kinds_here","_law_world_here","_law_defined","_law_book_here","_law_cells_here","_law_wide","_law_at","_law_other","_law_spoilt","_law_bad","_law_low"] ["script"] (Yb Dc):=Y6
def SN:List.Nodup [("_law_name":Str),"_law_kinds_here"]:=by decide +kernel
def Q7(hb:mB+1<=n)(B:Blt mg)(nm:mg "min"=none)(F:Fun K "law" "law" Dc f fd)(DN:Df P w K mg base n "_law_next" pnm (J7 K))(DKD:Df P w K mg base n "_law_kinds_drawn" ["_law_pen"] (G9 K))(DBD:Df P w K mg base n "_law_book_drawn" ["_law_pen","_law_kinds_here"] (Qb K))(DCD:Df P w K mg base n "_law_cells_drawn" ["_law_pen","_law_world_here","_law_many"] (QY K))(DWN:Df P w K mg base n "_law_wide_names" [] MB)(DRT:Df P w K mg base n "_law_right" ["_law_book_here","_law_cells_here"] (IU C CK))(DBN:Df P w K mg base n "_law_bad_names" ["_law_pen","_law_defined","_law_cells_here","_law_at"] (IZ K))(R6:Df P w K mg base n "_law_all_refuse" ["_law_book_here","_law_cells_here","_law_due"] (Qc C CK))(DBS:Df P w K mg base n "_law_bad_self" ["_law_pen","_law_kinds_here","_law_defined","_law_cells_here","_law_at"] (OE K))(DTW:Df P w K mg base n "_law_two_wrong" ["_law_pen","_law_kinds_here","_law_defined","_law_cells_here","_law_low","_law_high"] (QT K))(MkB:Mk K C gB)(mB':mg "Book"=some (.ref C))(GB:Ym P w K mg base CX0 mB gB dB ["self","kinds","definitions"] (QZ C CK))(bB:Binds K dB ["self","kinds","definitions"] []):Ym P w K mg base CX0 (n+1) f fd ["script"] (EC K):=by
 refine F.oi UU λcdv A outer s H vs Q E y h=>?_;obtain⟨a,ns,hS,q⟩:=h;have hrB:VW (mB+1) _:=y.mono hb;refine⟨_,YW (Yp 1 UU.nd<|Ob<|pa3 (pv 0) YX YX)
  (YW (Yp 2 UU.nd (Yy DKD y<|pa1<|pv 1) (hx:=Or.inr rfl))
  (YW (Vz (Yy DBD y<|pa2 (pv 1)<|pv 2)<|VI (n:=2) rfl (Yj (Yd 3 UU.nd)<|Yj (Yd 4 UU.nd) Y7))
  (YW (Yp 5 UU.nd<|Me MkB GB hrB rfl mB' bB .nil VQ (pa2 (pv 2)<|pv 4))
  (YW (Yp 6 UU.nd<|Yy DCD y<|pa3 (pv 1) (pv 3)<|Y4 Vt YX<|Yy DN y<|pa2 (pv 1)<|YX)
  (YW (EH (i0:=7) ["_law_name"] [2] UU.nd rfl (Or.inl rfl) (VL<|KN DWN y) (VP (i:=0)<|by decide) (λcl C fp s H=>Yd 0 SN rfl (Or.inl rfl) (Or.inr rfl)) (λcl C fp s H=>Yv<|pa2 (pv 0)<|Yv<|pa3 (Y3) (Yf (r:=UB K) Yl (Yf (r:=B2 K) Yw (pv 1) YX)<|YX)<|Vc))
  (YW (Y2 (PW.pt<|Jq (Vx<|Vs<|Yy DRT y<|pa2 (pv 5)<|pv 6)<|Jc<|Vx<|Vs<|Yy DRT y<|pa2 (pv 5)<|pv 7) (YY<|Ys<|U8) Yr)
  (YW (Yp 8 UU.nd<|Yy DN y<|pa2 (pv 1)<|Yt Yo rfl B.len Zs (pa1<|pv 6))
  (YW (Yp 9 UU.nd<|Yy DN y<|pa2 (pv 1)<|Yt Yo rfl B.len Zs (pa1<|pv 6))
  (YW (Yp 10 UU.nd<|VM JB rfl B.list Vo (pa1<|pv 6))
  (YW (Yp 11 UU.nd<|Yy DBN y<|pa4 (pv 1) (pv 4) (pv 6)<|pv 8)
  (YW (Y2 (Yn Oi (pv 11) Vc<|Yu _) (YW (Vz (pv 11)<|XI (pv 10) (pv 8) set_list)
  (YY<|Y2 (Vx<|Vs<|Yy R6 y<|pa3 (pv 5) (pv 10)<|pv 8) (YY<|Ys<|U8) Yr)) Yr)
  (YW (Vz (Yy DBS y<|pa5 (pv 1) (pv 2) (pv 4) (pv 6)<|pv 9)<|XI (pv 10) (pv 9) set_list)
  (YW (Y2 (Vx<|Vs<|Yy R6 y<|pa3 (pv 5) (pv 10)<|pv 9) (YY<|Ys<|U8) Yr)
  (YW (Yp 12 UU.nd<|Yt (Fh rfl) rfl nm Fl (pa2 (pv 8)<|pv 9))
  (YW (Yp 10 UU.nd<|Yy DTW y<|pa6 (pv 1) (pv 2) (pv 4) (pv 6) (pv 12)<|Yt (Xq rfl) rfl B.max Xs (pa2 (pv 8)<|pv 9))
  (YW (Y2 (Vx<|Vs<|Yy R6 y<|pa3 (pv 5) (pv 10)<|pv 12) (YY<|Ys<|U8) Yr)
  (YW (Y2 (Vx<|Vs<|Yy R6 y<|pa3 (pv 5) (Vf VR)<|YX) (YY<|Ys<|U8) Yr)
  (YW (Y2 (Vx<|Vs<|Yy R6 y<|pa3 (pv 5) (JO WK (Y4 KY (pv 6) YX) Jl<|Jk YX)<|YX) (YY<|Ys<|U8) Yr)
  (YY<|Ys<|Yy DRT y<|pa2 (pv 5)<|pv 6))))))))))))))))))),?_⟩
 dsimp only[Vg,Cx.nox,Cx.wish];show let T0:=_;let T1:=_;let T2:=Yg (Y9 _ T1 _) T0;let T3:=_;let T4:=Yg (Y9 _ T3 _) T2;let T5:=_;let T6:=Yg (Y9 _ T5 _) T4;let T7:=Yg _ T6;let T8:=Yg _ T7;let T9:=_;let T10:=Yg (Y9 _ T9 _) T8;let T11:=Yg _ T10;let T12:=_;let T13:=Y9 _ T12 _;let T14:=Yg _ T13;let T15:=Yg (Y9 _ T14 _) T11;let T16:=Yg _ T15;let T17:=Yg _ T16;let T18:=Yg _ T17;let T19:=Yg _ T18;let T20:=_;let T21:=Yg (Y9 _ T20 _) T19;let T22:=Yg _ T21;let T23:=Yg _ T22;let T24:=Yg _ T23;let T25:=Yg _ T24;let T26:=Yg _ T25;Yg _ T26 _ _ _
 intros
 refine⟨sl 3,λp hp hk=>?_⟩;have I2:=Pen.new hS hp hk;generalize upd H p (.lst [.ref a,.int (0:Nat),.int (0:Nat)])=H1 at I2 |-;refine⟨p,a,I2,λkl xk T c d H2 sb2 pn2 fkl hkl hxk kS=>?_⟩;have k6:=kS.k6;have npk:kl≠p:=I2.ne fkl;have I7:=XN<|VO VZ T;refine⟨p,a,kl,T,c,d,pn2,VB hkl hxk,kS,λt wv dl zd hs J H3 sb3 pn3 ht wl hdl hzd bk=>?_⟩;have dni:=XN<|VO Jo J;exists _,Z0 ht,Y;have hk3:=Vm sb3 pn2 _ I7<|VB hkl hxk;obtain⟨_,xk3,e3,hkl3,hxk3⟩:=Vr hk3;cases e3;refine λbt dt htb hdt ndt=>?_;have tx:upd (upd H3 dt<|.own bt) bt (.ins C dt []) bt=some (.ins C dt []):=YZ;have s7:Same H3 (upd (upd H3 dt<|.own bt) bt<|.ins C dt []):=λb o e=>by rw[Yc (Yk e htb),Yc (Yk e hdt)];exact e
 generalize upd (upd H3 dt<|.own bt) bt (.ins C dt [])=H7 at tx s7 |-;refine⟨bt,dt,kl,dl,xk3,zd,T,c,d,J,tx,s7 _ _ hkl3,hxk3.mono s7,kS,s7 _ _ hdl,hzd.mono s7,bk.d0,bk.d8,bk.wd,bk.ho,bk.dok,λH8 f8 be8=>⟨Y,?_⟩⟩;have R7:Same H3 H8:=λb o e=>f8 b o (Yk e htb)<|s7 b o e;have N2:=pn3.same R7;have wl8:=wl.sm R7;have hk8:=hk3.mono R7;have hd8:Has H8 (.ref dl) (.lst<|J.map Jp):=(VB hdl hzd).mono R7;refine⟨p,a,26,N2,by decide,by decide,λr H9 r26 b9 pn9=>?_⟩;refine⟨p,a,wv,T,flat T,hs,c,Y1<|J.map (·.1),1+r,pn9,wl8.pn b9.sb N2,bk.h0,bk.hh,by omega,by omega,λla U Z HA sbA Z9 J1 R5 lcs gc wcs=>?_⟩;have lxc:=R5.length;rw[ZA]at lxc;have cni:(Dat.lst<|Z.map ceD).ni=true:=by unfold Dat.ni;exact Dat.nis_tn<|Vp V5 Z
 have G5:SameB p H8 HA:=b9.sb.trans sbA;have beA:=be8.pn G5 N2;have hkA:=Vm G5 N2 _ I7 hk8;have hdA:=Vm G5 N2 _ dni hd8;have hcA:Has HA (.ref la) (.lst<|Z.map ceD):=VB J1 R5;have I5:=Z9.lst J1 R5<|Dat.nis_tn<|Vp V5 Z;obtain⟨y0,ts0,hy0⟩:=kS.h0;have p3:∀x∈J,x.1.2.1.length<=3:=λx m=>(bk.ho x m).len;have on:=gc.on;have nam:=gc.nm;have J5:=gc.l30;refine⟨λlw HB flw sB S2=>⟨⟨_,Z1 S2⟩,?_⟩⟩;have hkB:=hkA.mono sB;obtain⟨_,xkB,eB,F3,R4⟩:=Vr hkB;cases eB;have lkB:=R4.length;rw[ZA]at lkB;have k0:=kS.k0;obtain⟨v0,hv0⟩:∃v,xkB[0]?=some v:=⟨_,ZC<|by omega⟩;obtain⟨kz,ekz,hkz⟩:=getD R4 hv0;rw[hy0]at ekz;cases ekz;obtain⟨ka,kw,rfl,hka,_⟩:=Vw hkz;refine N5 (us:=JI) (D:=Dat.str) (F:=λn=>ceD (n,.tg y0 none)) (λg s=>itl<|Z1<|s _ _ S2) (VT JI) (by rw[UI];decide) (λu x Hx R hm sx hx hR=>?_) λvs lwc HC flc sC hlc I9=>?_
 .obtain rfl:=has_str hx
  refine⟨_,.ref ka,Z1<|sx _ _ F3,Ya (j:=0) hv0,_,.str y0,Z0<|sx _ _ hka,Ya (j:=0) rfl,sl 3,λt1 ht1=>?_⟩;refine up_in ht1 _ λHy sy gy=>?_;refine⟨sl 2,λt2 ht2=>?_⟩;refine up_in ht2 _ λHz sz gz=>?_;exact hR _ _ (sy.trans sz)<|Yx gz<|Z2 Yz<|Z3<|UF (w:=none)<|sz _ _ gy
 have L1:=sB.trans sC;have X:∀g,SameB p HA g->BE g C CK bt T c d J/\Has g (.ref kl) (.lst<|T.map Vv)/\Has g (.ref dl) (.lst<|J.map Jp)/\g la=some (.lst U)/\HasL g U (Z.map ceD):=λg sb=>⟨beA.pn sb Z9,Vm sb Z9 _ I7 hkA,Vm sb Z9 _ dni hdA,sb _ _ I5 J1,JA sb Z9 _ (Dat.nis_tn<|Vp V5 Z) R5⟩;refine⟨bt,la,U,Z,T,c,d,J,beA.mono L1,L1 _ _ J1,R5.mono L1,gc,λHD sD=>⟨_,Y,Y0 (by decide) ?_⟩⟩;have e30:JI.map (λn=>ceD (n,.tg y0 none))=(JI.map λn=>((n,Td.tg y0 none):Ce)).map ceD:=by rw[zf];rfl
 rw[e30]at I9;refine⟨bt,lwc,vs,JI.map λn=>(n,Td.tg y0 none),T,c,d,J,beA.mono<|L1.trans sD,sD _ _ hlc,I9.mono sD,Ey kS hy0,λHE sE=>⟨_,rfl,Y0 (by decide) ?_⟩⟩;have I0:=(L1.trans sD).trans sE;clear I9 hlc hka hkz R4 F3 hkB S2;have pnE:=Z9.same I0;exists la,_,Y,.inl<|Z1<|I0 _ _ J1;refine Ji p a U.length Y pnE (by omega) (by omega) λk HF kl' bF pnF=>?_;have F2:=I0.sb.trans bF.sb;exists la,_,Y,.inl<|Z1<|F2 _ _ I5 J1;refine Ji p a U.length Y pnF (by omega) (by omega) λj HG jl bG pnG=>?_;have G4:=F2.trans bG.sb;refine⟨la,_,Y,.inl<|Z1<|G4 _ _ I5 J1,λO C2=>?_⟩;refine up_in C2 _ λHH sH gH=>?_;have R1:O≠p:=pnG.ne C2;have J4:=G4.free R1 C2;have F1:=G4.trans sH.sb;have pnH:=pnG.same sH;obtain⟨x,hx⟩:∃x,Z[k]?=some x:=⟨_,ZC<|by omega⟩;obtain⟨xj,hxj⟩:∃x,Z[j]?=some x:=⟨_,ZC<|by omega⟩
 let S:Option V->Option V->Option V->St:=λz10 z11 z12=>[some (.ref a),some<|.ref p,some<|.ref kl,some wv,some<|.ref dl,some<|.ref bt,some<|.ref la,some<|.ref lwc,some<|.int (k:Nat),some<|.int (j:Nat),z10,z11,z12]
 dsimp only[Vi];refine Ve (λU' g=>∃G1:V,SameB p HH g/\Pen K a g p/\(G1=.non \/ ∃f ns I,x.2=.ak f ns/\I.length=ns.length/\Has g G1 (ceD (x.1,.ak f I))/\I.map (JF (Y1<|J.map (·.1)) Z)≠(psK (Y1<|J.map (·.1)) f).map some)/\U'=S (some<|.ref O) (some G1) none) ?_ ?_
 case refine_2=>
  intro NN R3;obtain⟨beH,hkH,hdH,hlH,hcH⟩:=X HH F1;exact⟨p,a,dl,la,T,J,Z,k,x,pnH,hdH,bk.d8,p3,VB hlH hcH,hx,by omega,gc,λg sb I3=>R3 _ _ ⟨.non,sb,I3,.inl Y,Y⟩,λu f' I4 I g sb I3 e1 e2 h b=>R3 _ _ ⟨u,sb,I3,.inr ⟨f',I4,I,e1,e2,h,b⟩,Y⟩⟩
 rintro U' HI ⟨G1,F7,I1,hv,rfl⟩;have Z8:=F1.trans F7;have gI:=F7 _ _ R1 gH;have G3:∀x∈Z,x.1.length<=20:=gc.tx;refine Ve (λU' g=>∃(M:List Ce)(G:kK),SameB p HA g/\Pen K a g p/\g O=some (.lst G)/\HasL g G (M.map ceD)/\M.length=Z.length/\Pre T (Y1<|J.map (·.1)) Z M Z.length/\(∀x∈M,x.1.length<=20)/\U'=S (some<|.ref O) (some G1) none) ?_ ?_
 case refine_2=>
  intro NN R3;obtain⟨beI,hkI,hdI,hlI,hcI⟩:=X HI Z8;rcases hv with rfl|⟨f',I4,I,e1,e2,hv,nb⟩
  .exact ⟨rfl,_,rfl,Y0 (by simp)<|R3 _ _ ⟨Z,U,Z8,I1,gI,hcI,rfl,WO on _,G3,rfl⟩⟩
  obtain⟨tu,uu,rfl,htu,huu⟩:=U3 hv;refine⟨Y,_,Y,VH (by simp) ?_⟩;refine⟨O,_,(k:Nat),k,Y,Y,gI,Tt<|by omega,?_⟩;have tkJ:TK HI (upd HI O<|.lst<|U.set k<|.ref tu):=J3 gI λxs z=>nomatch z
  have J2:HasL (upd HI O<|.lst<|U.set k<|.ref tu) (U.set k<|.ref tu) ((Z.set k (x.1,.ak f' I)).map ceD):=by
   rw[Gy];exact HasL.set (JL tkJ _ (Vp V5 Z) hcI)<|Jd tkJ _ (V5 (x.1,.ak f' I)) hv
  have F6:SameB p HA (upd HI O<|.lst<|U.set k<|.ref tu):=Z8.put J4;have M2:Pen K a (upd HI O<|.lst<|U.set k<|.ref tu) p:=Z9.put Z8 I1 J4 R1;have gJ:upd HI O (.lst<|U.set k<|.ref tu) O=some (.lst<|U.set k<|.ref tu):=YZ;generalize upd HI O (.lst<|U.set k<|.ref tu)=HJ at J2 F6 M2 gJ |-;have I8:Z[k]?=some (x.1,.ak f' I4):=by rw[hx,<-e1]
  have G2:∀z∈Z.set k (x.1,.ak f' I),z.1.length<=20:=λz m=>by
   rcases yZ m with m|rfl
   .exact G3 z m
   .exact G3 x (ZH hx)
  have kl2:k<Z.length:=by omega
  refine⟨bt,O,_,Z.set k (x.1,.ak f' I),T,c,d,J,k,(X HJ F6).1,gJ,J2,by rw[zp];omega,G2,DU on nam J5 I8 e2 nb,λHK sK=>⟨_,Y,Y0 (by decide)<|R3 _ _ ⟨_,_,F6.trans sK.sb,M2.same sK,sK _ _ gJ,J2.mono sK,zp,EJ (WO on _) I8 rfl (IJ e2 (on k _ kl2 I8).2.2),G2,rfl⟩⟩⟩
 rintro U' HJ ⟨M,G,D3,M2,gJ,J2,l1,pre,G2,rfl⟩;clear hv F7 gI Z8 I1;obtain⟨beJ,hkJ,hdJ,hlJ,hcJ0⟩:=X HJ D3;have lx1:=J2.length;rw[ZA]at lx1;have ndn:(J.map λx=>x.1.1).Nodup:=bk.wd.nd;refine⟨p,a,kl,dl,la,T,c,d,J,Z,j,xj,M2,hkJ,hdJ,kS,bk.d8,ndn,p3,VB hlJ hcJ0,hxj,J5,wcs,λu x2 HK F5 pnK hu bx=>?_⟩;have gK:=F5 _ _ R1 gJ;have D0:=D3.trans F5;refine⟨O,_,(j:Nat),j,Y,Y,gK,Tt<|by omega,?_⟩;have tkL:TK HK (upd HK O<|.lst<|G.set j u):=J3 gK λxs z=>nomatch z
 have hcL:HasL (upd HK O<|.lst<|G.set j u) (G.set j u) ((M.set j x2).map ceD):=by
  rw[Gy];exact HasL.set (JL tkL _ (Vp V5 M)<|JL (M2.tk F5) _ (Vp V5 M) J2)<|Jd tkL _ (V5 x2) hu
 have F4:SameB p HA (upd HK O<|.lst<|G.set j u):=D0.put J4;have pnL:Pen K a (upd HK O<|.lst<|G.set j u) p:=Z9.put D0 pnK J4 R1;have gL:upd HK O (.lst<|G.set j u) O=some (.lst<|G.set j u):=YZ;generalize upd HK O (.lst<|G.set j u)=HL at hcL F4 pnL gL |-
 have tx2:∀z∈M.set j x2,z.1.length<=20:=λz m=>by
  rcases yZ m with m|rfl
  .exact G2 z m
  .exact bx.tx
 have f2:Jv T (Y1<|J.map (·.1)) (M.set j x2) j:=X1 on J5 (by rw[zp,l1]) (B3 (Qt pre<|by omega)<|ZF _) (yb<|by omega) bx;refine⟨bt,O,_,M.set j x2,T,c,d,J,j,(X HL F4).1,gL,hcL,by rw[zp];omega,tx2,f2,λHM sM=>⟨_,Y,Y0 (by decide) ?_⟩⟩;have sbM:=F4.trans sM.sb;have pnM:=pnL.same sM;clear hcL gL J2 hu G2 tx2 bx f2 pre;exists _,_,Y
 obtain⟨L,hi,elo,ehi,I6,hil,lh⟩:∃L hi:Nat,(if((j:Nat):Int)<((k:Nat):Int)then((j:Nat):Int)else((k:Nat):Int))=((L:Nat):Int)/\(if((j:Nat):Int) > ((k:Nat):Int)then((j:Nat):Int)else((k:Nat):Int))=((hi:Nat):Int)/\L<Z.length/\hi<Z.length/\L<=hi:=by
  rcases vo j k with h|h|h
  .exact ⟨j,k,Zn<|by omega,Zo<|by omega,by omega,by omega,by omega⟩
  .exact ⟨k,k,Zo<|by omega,Zo<|by omega,by omega,by omega,ZF _⟩
  .exact ⟨k,j,Zo<|by omega,Zn<|by omega,by omega,by omega,by omega⟩
 rw[elo];exists _,_,Y;rw[ehi];obtain⟨beM,hkM,hdM,hlM,hcM⟩:=X HM sbM;refine⟨p,a,kl,dl,la,T,c,d,J,Z,L,hi,pnM,hkM,hdM,kS,bk.d8,ndn,p3,VB hlM hcM,I6,hil,lh,J5,wcs,λl2 xs2 x3 td HN sbN pnN hl2 hx2 bx t8=>?_⟩;have R8:=sbM.trans sbN
 have f3:Jv T (Y1<|J.map (·.1)) (if L<hi then(Z.set L x3).set hi td else Z.set L x3) L/\(if L<hi then(Z.set L x3).set hi td else Z.set L x3).length=Z.length/\∀z∈(if L<hi then(Z.set L x3).set hi td else Z.set L x3),z.1.length<=20:=by
  have p1:Pre T (Y1<|J.map (·.1)) Z (Z.set L x3) L:=B3 (WO on _)<|ZF _
  have t3:∀z∈Z.set L x3,z.1.length<=20:=λz m=>by
   rcases yZ m with m|rfl
   .exact G3 z m
   .exact bx.tx
  by_cases c1:L<hi
  .rw [Zn c1]
   refine⟨X1 on J5 (by rw[zp,zp]) (B3 p1 lh) ?_ bx,by rw[zp,zp],λz m=>?_⟩
   .rw [yf (by omega),yb I6]
   .rcases yZ m with m|rfl
    .exact t3 z m
    .omega
  .rw [Zo c1]
   exact⟨X1 on J5 zp p1 (yb I6) bx,zp,t3⟩
 generalize (if L<hi then(Z.set L x3).set hi td else Z.set L x3)=cs2 at hx2 f3;obtain⟨f3,l3,t3⟩:=f3;refine⟨bt,l2,xs2,cs2,T,c,d,J,L,(X HN R8).1,hl2,hx2,by omega,t3,f3,λHO sO=>⟨_,Y,Y0 (by decide) ?_⟩⟩;have sbO:=R8.trans sO.sb;refine⟨sl 0,λl0 hl0=>?_⟩;refine up_in hl0 _ λHP sP gP=>?_;have sbP:=sbO.trans sP.sb;refine⟨bt,l0,[],[],T,c,d,J,0,(X HP sbP).1,gP,Z4,by decide,(λx m=>nomatch m),.inl ⟨Y,Y⟩,λHQ sQ=>⟨_,Y,Y0 (by decide) ?_⟩⟩;have sbQ:=sbP.trans sQ.sb;obtain⟨beQ,_,_,hlQ,hcQ⟩:=X HQ sbQ;refine⟨la,31,U,Y,Y,hlQ,by decide,by decide,Zf<|Yi (by show _*31<=1000;omega),λl7 hl7=>?_⟩;refine up_in hl7 _ λHR sR gR=>?_;have lr:31<=(List.replicate 31 U).flatten.length:=by rw[len_rep];omega
 refine⟨31,Y,l7,_,Y,Z1 gR,λl8 hl8=>?_⟩;refine up_in hl8 _ λHS sS gS=>?_;have F9:=sR.trans sS;have ec:U4 (List.replicate (31:Int).toNat U).flatten none (some 31)=(List.replicate 31 U).flatten.take 31:=RF _ 31 lr;rw[ec]at gS;have e7:((List.replicate 31 Z).flatten.take 31).map ceD=(List.replicate 31<|Z.map ceD).flatten.take 31:=by rw[y6,List.map_flatten,vR]
 have m7:∀x∈(List.replicate 31 Z).flatten.take 31,x∈Z:=λx m=>by
  obtain⟨l,hl',hm⟩:=List.mem_flatten.mp<|Zi m;rw[(List.mem_replicate.mp hl').2]at hm;exact hm
 have ln7:((List.replicate 31 Z).flatten.take 31).length=31:=by rw[ZL,len_rep];omega
 refine⟨bt,l8,_,(List.replicate 31 Z).flatten.take 31,T,c,d,J,30,beQ.mono F9,gS,by rw[e7];exact HasL.take9 31<|HasL.rep (hcQ.mono F9) 31,by omega,λx m=>G3 x<|m7 x m,.inr<|.inl ⟨by omega,rfl⟩,λHT sT=>⟨_,rfl,Y0 (by decide) ?_⟩⟩;have F8:=F9.trans sT;exact⟨bt,la,U,Z,T,c,d,J,beQ.mono F8,F8 _ _ hlQ,hcQ.mono F8,gc,λHU sU=>q HU⟩
def Cw:Yq ["self","number"] ["self","number"] (Yb MT):=Y6
def FK(F:Fun K "__init__" "NoSheet.__init__" MT f O)(c:XCl K N f)(G:W.findIn K (.ref N) "number"=some none):Ym P w K B base CX0 (n+1) f O ["self","number"] (E6 N "number"):=by
 refine F.oq Cw λR A Z s H T Q E D h=>?_;obtain⟨I,a,rfl,L,q⟩:=h;exists _,YY<|AX c G (pv 0)<|pv 1;exact⟨L,λd M J=>q d M J⟩
end
def N8{K:W.Frag}{C:Addr}{v:Value}{b:Bool}(h:W.mroIn K C v=some b):(W.clsIn K C).isSome=true:=by
 unfold W.mroIn at h;obtain⟨Z,a,_⟩:=Option.bind_eq_some_iff.mp h;rw[a];rfl
def At(K:W.Frag)(f:Addr)(x q:Str)(st:Stmt):Prop:=∃(L:Value)(G:kH)(kV M J:Value)(O:kH)(Z N:Value)(sl:Array (Option Value)),K.lookup f=some ⟨L,G,.func<|W.fnOf x q (Ub st) (JV st) (Yb st) .none kV M J O Z N,sl⟩/\W.codeIn K Z q=true/\W.keepIn K (.ref f)=true
def At.of{K:W.Frag}{f:Addr}{x q:Str}{Z:Stmt}{M:Value}{L:kH}{kV N G:Value}{R:kH}{J O:Value}{sl:Array (Option Value)}(l:K.lookup f=some ⟨M,L,.func<|W.fnOf x q (Ub Z) (JV Z) (Yb Z) .none kV N G R J O,sl⟩)(d:W.codeIn K J q=true)(k:W.keepIn K (.ref f)=true):At K f x q Z:=⟨M,L,kV,N,G,R,J,O,sl,l,d,k⟩
section
variable{K:W.Frag}{x q:Str}{st:Stmt}{f:Addr}{fd:FuncData}{ps:ky}
def BA1(x q:Str)(st:Stmt)(ps:ky)(us:kq):Prop:=∀(kV Z G:Value)(M:kH)(J L:Value),bindArgs (W.fnOf x q (Ub st) (JV st) (Yb st) .none kV Z G M J L) ⟨us,[]⟩=pure (ps.zip us)
def Ly:Nat->(List Value->Prop)->Prop
 |0,R=>R []
 |n+1,R=>∀a,Ly n λus=>R (a::us)
theorem Ly.at:∀{n:Nat}{R:List Value->Prop}{Z:kq},Ly n R->Z.length=n->R Z
 |0,_,[],h,_=>h
 |_+1,R,a::_,h,e=>Ly.at (R:=λZ=>R (a::Z)) (h a)<|Nat.succ.inj e
def _root_.L2.Fun.bn(F:Fun K x q st f fd)(ps:ky)(h:Ly ps.length (BA1 x q st ps)):Binds K fd ps []:=F.binds λ_ _ _ _ _ _ _ e=>h.at e _ _ _ _ _ _
def _root_.L2.Fun.b0(F:Fun K x q st f fd)(h:BA1 x q st [] []:=by exact λ_ _ _ _ _ _=>Y):Binds K fd [] []:=F.bn [] h
def _root_.L2.Fun.b1(F:Fun K x q st f fd)(p:Str)(h:∀a,BA1 x q st [p] [a]:=by exact λ_ _ _ _ _ _ _=>Y):Binds K fd [p] []:=F.bn [p] h
def _root_.L2.Fun.b2(F:Fun K x q st f fd)(p Z:Str)(h:∀a b,BA1 x q st [p,Z] [a,b]:=by exact λ_ _ _ _ _ _ _ _=>Y):Binds K fd [p,Z] []:=F.bn [p,Z] h
def _root_.L2.Fun.b3(F:Fun K x q st f fd)(p J Z:Str)(h:∀a b c,BA1 x q st [p,J,Z] [a,b,c]:=by exact λ_ _ _ _ _ _ _ _ _=>Y):Binds K fd [p,J,Z] []:=F.bn [p,J,Z] h
def _root_.L2.Fun.b4(F:Fun K x q st f fd)(p G J Z:Str)(h:∀a b c d,BA1 x q st [p,G,J,Z] [a,b,c,d]:=by exact λ_ _ _ _ _ _ _ _ _ _=>Y):Binds K fd [p,G,J,Z] []:=F.bn [p,G,J,Z] h
def _root_.L2.Fun.b5(F:Fun K x q st f fd)(p L G J Z:Str)(h:∀a b c d i,BA1 x q st [p,L,G,J,Z] [a,b,c,d,i]:=by exact λ_ _ _ _ _ _ _ _ _ _ _=>Y):Binds K fd [p,L,G,J,Z] []:=F.bn [p,L,G,J,Z] h
def _root_.L2.Fun.b6(F:Fun K x q st f fd)(p M L G J Z:Str)(h:∀a b c d i j,BA1 x q st [p,M,L,G,J,Z] [a,b,c,d,i,j]:=by exact λ_ _ _ _ _ _ _ _ _ _ _ _=>Y):Binds K fd [p,M,L,G,J,Z] []:=F.bn [p,M,L,G,J,Z] h
end
def At.fn{K:W.Frag}{f:Addr}{x q:Str}{st:Stmt}(h:At K f x q st):∃Z,Fun K x q st f Z:=by
 obtain⟨_,_,_,_,_,_,_,_,_,l,d,k⟩:=h;exact⟨_,LS (st:=st) l d k⟩
def GA(K:W.Frag)(x:Str)(f:Addr)(st:Stmt):Prop:=W.nsIn K mainGlobals x=some (some<|.ref f)/\At K f x x st
def GR(K:W.Frag)(a:Addr)(y x:Str)(f:Addr)(st:Stmt):Prop:=W.nsIn K a y=some (some<|.ref f)/\At K f x x st
def GM(K:W.Frag)(C:Addr)(x q:Str)(f:Addr)(st:Stmt):Prop:=(W.findIn K (.ref C) x=some (some<|.ref f)/\W.isFn K (.ref f)=true)/\At K f x q st
def GN(K:W.Frag)(x:Str):Prop:=W.nsIn K mainGlobals x=some none
def GC(K:W.Frag)(x:Str)(f:Addr):Prop:=W.nsIn K mainGlobals x=some (some<|.ref f)
def GV(K:W.Frag)(x:Str)(v:V)(u:Value):Prop:=W.nsIn K mainGlobals x=some (some u)/\RelV v u
def GF(K:W.Frag)(C:Addr)(x:Str):Prop:=W.findIn K (.ref C) x=some none
def GA.go{K:W.Frag}{h:Heap}{L:Str->Option Value}{x:Str}{f:Addr}{J:Stmt}(X:K.In h)(G:h.Ns mainGlobals L)(a:GA K x f J):∃Z,Fun K x x J f Z/\W.keepIn K (.ref f)=true/\L x=some (.ref f):=
 let⟨Z,F⟩:=a.2.fn
 ⟨Z,F,F.kp,W.mg_of X G a.1⟩
def GR.go{K:W.Frag}{c:Addr}{y x:Str}{f:Addr}{J:Stmt}(a:GR K c y x f J):∃Z,Fun K x x J f Z/\W.keepIn K (.ref f)=true/\W.nsIn K c y=some (some<|.ref f):=
 let⟨Z,F⟩:=a.2.fn
 ⟨Z,F,F.kp,a.1⟩
def GM.go{K:W.Frag}{c:Addr}{x q:Str}{f:Addr}{J:Stmt}(a:GM K c x q f J):∃Z,Fun K x q J f Z/\V1 K c x f:=
 let⟨Z,F⟩:=a.2.fn
 ⟨Z,F,a.1.1,a.1.2,F.kp⟩
def GV.go{K:W.Frag}{h:Heap}{Z:Str->Option Value}{x:Str}{v:V}{u:Value}(X:K.In h)(G:h.Ns mainGlobals Z)(a:GV K x v u):Z x=some u/\RelV v u:=⟨W.mg_of X G a.1,a.2⟩
structure CA(K:W.Frag)(C:Addr):Prop where
 pg:W.plainGet K C Str.empty=true
 hd:W.hasDictIn K C=true
 po:W.plainOver K C=true
 sa:W.findIn K (.ref C) "__setattr__"=some (some (.builtin "object.__setattr__"))
 ma:W.makesIn K C=true
 kc:W.keepIn K (.ref C)=true
def all_at{l:W.OpenLaw}{w:World}{K:W.Frag}{h:Heap}{mg:Str->Option Value}{fa CK C CW aR f1 f2 f3 f4 f5 f6 f7 f8 f9 f10 f11 f12 f13 f14 f15 f16 f17 f18 f19 f20 f21 f22 f23 f24 f25 f26 f27 f28 f29 f30 f31 f32 f33 f34 f35 f36 f37 f38 f39 f40 f41 f42 f43 f44 f45 f46 f47 f48 f49 f50 f51 f52 f53 f54 f55 f56 f57 f58 f59 f60 f61 f62 f63 f64 f65 f66 f67 f68 f69 f70 aW N a1' a2' a3' a4' a5' a6' a7' a8' a9' b1' b2':Addr}{es:Array DictEntry}{nR:Nat}{u1v u2v u3v u4v u5v u6v u7v u8v u9v u10v u11v u12v:Value}(X:K.In h)(G:h.Ns mainGlobals mg)(hfa:mg "law"=some (.ref fa))(aC:GC K "Kinds" CK)(aB:GC K "Book" C)(aV:GC K "Sheet" CW)(aU:GC K "RULES" aR)(e1:GC K "WantError" aW)(e2:GC K "NoSheet" N)(e3:GC K "NoAsking" a1')(e4:GC K "NoBook" a2')(e5:GC K "NoCell" a3')(e6:GC K "NoKinds" a4')(e7:GC K "NoMore" a5')(e8:GC K "NoMost" a6')(e9:GC K "NoNote" a7')(e10:GC K "NoPart" a8')(e11:GC K "NoRows" a9')(e12:GC K "NoWorth" b1')(e13:GC K "Torn" b2')(lR:K.lookup aR=some ⟨.type "dict",none,.dict es nR,#[]⟩)(kR:W.KeysLit w.params es.toList)(a1:GA K "parts" f1 Bk)(a2:GA K "kind_or_place" f2 sKP)(a3:GA K "kind_of_part" f3 Bo)(a4:GA K "is_name" f4 MY)(a5:GA K "is_tag" f5 Br)(a6:GA K "is_spelt" f6 Bj)(a7:GA K "are_parameters" f7 By)(a8:GA K "row_count" f8 Wp)(a9:GA K "rows_over" f9 Wo)(a10:GA K "is_of_tags" f10 MS)(a11:GA K "check_cells" f11 XG)(a12:GA K "is_told" f12 MX)(a13:GA K "kinds_asked" f13 XF)(a14:GA K "kind_told" f14 Wq)(a15:GA K "least" f15 MU)(a16:GA K "shows_least" f16 UV)(a17:GA K "_law_fill" f17 K7)(a18:GA K "_law_next" f18 K3)(a19:GA K "_law_spelt" f19 DZ)(a20:GA K "_law_small_words" f20 Mn)(a21:GA K "_law_kinds_drawn" f21 De)(a22:GA K "_law_flat_kinds" f22 K6)(a23:GA K "_law_tags_of" f23 Mm)(a24:GA K "_law_heads_drawn" f24 Dg)(a25:GA K "_law_said" f25 EO)(a26:GA K "_law_defined_drawn" f26 K8)(a27:GA K "_law_cells_drawn" f27 Dh)(a28:GA K "_law_free" f28 K5)(a29:GA K "_law_tags_told" f29 Wz)(a30:GA K "_law_bad_told" f30 Tq)(a31:GA K "_law_bad_self" f31 Tr)(a32:GA K "_law_bad_names" f32 W0)(a33:GA K "_law_wide_names" f33 K1)(a34:GA K "_law_kind_of_fault" f34 Mo)(a35:GA K "_law_refused" f35 To)(a36:GA K "_law_all_refuse" f36 Mp)(a37:GA K "_law_right" f37 Da)(a38:GA K "_law_book_drawn" f38 Di)(a39:GA K "_law_two_wrong" f39 K2)(a40:GA K "law" f40 Dc)(a41:GR K aR "tag" "kind_of_tag_body" f41 Im)(a42:GR K aR "name" "kind_of_name_body" f42 Bq)(a43:GR K aR "pair" "kind_of_pair_body" f43 Bp)(a44:GR K aR "one" "kind_of_one_body" f44 Io)(a45:GR K aR "other" "kind_of_other_body" f45 MV)(a46:GR K aR "choose" "kind_of_choose_body" f46 TX)(a47:GR K aR "ask" "kind_of_ask_body" f47 Iq)(a48:GR K aR "let" "kind_of_let_body" f48 Ip)(a49:GM K CK "__init__" "Kinds.__init__" f49 Ir)(a50:GM K CK "take" "Kinds.take" f50 Bn)(a51:GM K CK "take_tags" "Kinds.take_tags" f51 Il)(a52:GM K CK "take_pair" "Kinds.take_pair" f52 Bl)(a53:GM K CK "names" "Kinds.names" f53 Bm)(a54:GM K CK "worths_of" "Kinds.worths_of" f54 Wn)(a55:GM K CK "shape_of" "Kinds.shape_of" f55 TU)(a56:GM K CK "kind_of_tag" "Kinds.kind_of_tag" f56 MW)(a57:GM K CK "kind_of_pair" "Kinds.kind_of_pair" f57 TV)(a58:GM K CK "is_worth" "Kinds.is_worth" f58 TY)(a59:GM K C "__init__" "Book.__init__" f59 Bw)(a60:GM K C "take_heads" "Book.take_heads" f60 Bt)(a61:GM K C "is_head" "Book.is_head" f61 Bx)(a62:GM K C "check_bodies" "Book.check_bodies" f62 Mb)(a63:GM K C "kinds" "Book.kinds" f63 Ma)(a64:GM K C "names" "Book.names" f64 MZ)(a65:GM K C "parameters" "Book.parameters" f65 Bu)(a66:GM K C "kind_of" "Book.kind_of" f66 Bv)(a67:GM K C "told_of" "Book.told_of" f67 Bs)(a68:GM K CW "__init__" "Sheet.__init__" f68 MQ)(a69:GM K CW "cells" "Sheet.cells" f69 MR)(a70:GM K N "__init__" "NoSheet.__init__" f70 MT)(z1:GN K "len")(z2:GN K "isinstance")(z3:GN K "bool")(z4:GN K "str")(z5:GN K "int")(z6:GN K "tuple")(z7:GN K "list")(z8:GN K "dict")(z9:GN K "all")(z10:GN K "zip")(z11:GN K "max")(z12:GN K "range")(z13:GN K "sorted")(z14:GN K "min")(z15:GN K "sum")(z16:GN K "enumerate")(z17:GN K "any")(z18:GN K "ValueError")(g1:GV K "SMALL" (.str<|Str.ofString "abcdefghijklmnopqrstuvwxyz") u1v)(g2:GV K "GREAT" (.str<|Str.ofString "ABCDEFGHIJKLMNOPQRSTUVWXYZ") u2v)(g3:GV K "LONGEST" (.int 8) u3v)(g4:GV K "MOST_KINDS" (.int 6) u4v)(g5:GV K "MOST_TAGS" (.int 4) u5v)(g6:GV K "MOST_WORTHS" (.int 30) u6v)(g7:GV K "MOST_PAIRS_DEEP" (.int 2) u7v)(g8:GV K "MOST_DEFINITIONS" (.int 8) u8v)(g9:GV K "MOST_PARAMETERS" (.int 3) u9v)(g10:GV K "MOST_ROWS" (.int 200) u10v)(g11:GV K "MOST_ROWS_IN_ALL" (.int 400) u11v)(g12:GV K "MOST_CELLS" (.int 30) u12v)(caCK:CA K CK)(caC:CA K C)(caCW:CA K CW)(n1:GF K CK "shapes")(n2:GF K CK "worths")(n3:GF K CK "heights")(n4:GF K CK "pairs_deep")(n5:GF K CK "tag_kinds")(n6:GF K CK "pair_kinds")(nb1:GF K C "sorts")(nb2:GF K C "told")(nb3:GF K C "rows")(nb4:GF K C "turns")(nr1:GF K CW "book")(nr2:GF K CW "told")(nr3:GF K CW "moment")(nr4:GF K CW "kept")(h2:W.typeIn K (.ref aW)=some (.type "type"))(h3:W.mroIn K aW (.type "BaseException")=some true)(x2:W.findIn K (.ref N) "__getattribute__"=some (some<|.builtin "BaseException.__getattribute__"))(x3:W.findIn K (.ref N) "__getattr__"=some none)(x4:W.mroIn K N (.type "BaseException")=some true)(x5:W.mroIn K N (.type "object")=some true)(x6:W.findIn K (.ref N) "__class__"=some (some<|.builtin "object.__class__"))(x7:W.specialIn K (.builtin "object.__class__") "__get__"=some (some<|.builtin "getset_descriptor.__get__"))(x8:W.takesIn K (.builtin "object.__class__")=some true)(s1:W.subIn K (.ref N) (.ref aW)=some true)(u1:W.kitAny K (.ref N) [.ref a1',.ref a2',.ref a3',.ref a4',.ref a5',.ref a6',.ref a7',.ref a8',.ref a9']=some false)(u2:W.kitAny K (.ref N) [.ref b1',.ref b2']=some false)(u3:W.kitOne K (.ref N) (.ref N)=some true)(u4:W.kitOne K (.ref N) (.type "ValueError")=some true)(v1:W.hasDictIn K N=true)(v2:W.findIn K (.ref N) "number"=some none)(v4:W.findIn K (.ref N) "__setattr__"=some (some<|.builtin "object.__setattr__"))(v5:W.keepIn K (.ref N)=true)(v6:W.xcIn K N f70=true):∃fd:FuncData,(∀(s:Shared)(v:Value),BindsTo s fd ⟨[v],[]⟩ [("script",v)])/\∀base:Heap,K.In base->base.Ns mainGlobals mg->Ym l.prog w K mg base CX0 20 fa fd ["script"] (EC K):=by
 have e:=hfa.symm.trans<|W.mg_of X G a40.1;cases e;obtain⟨d1,F1,k1,m1⟩:=a1.go X G;obtain⟨d2,F2,k2,m2⟩:=a2.go X G;obtain⟨d3,F3,k3,m3⟩:=a3.go X G;obtain⟨d4,F4,k4,m4⟩:=a4.go X G;obtain⟨d5,F5,k5,m5⟩:=a5.go X G;obtain⟨d6,F6,k6,m6⟩:=a6.go X G;obtain⟨d7,F7,k7,m7⟩:=a7.go X G;obtain⟨d8,F8,k8,m8⟩:=a8.go X G;obtain⟨d9,F9,k9,m9⟩:=a9.go X G;obtain⟨d10,F10,k10,m10⟩:=a10.go X G;obtain⟨d11,F11,k11,m11⟩:=a11.go X G;obtain⟨d12,F12,k12,m12⟩:=a12.go X G;obtain⟨d13,F13,k13,m13⟩:=a13.go X G;obtain⟨d14,F14,k14,m14⟩:=a14.go X G;obtain⟨d15,F15,k15,m15⟩:=a15.go X G;obtain⟨d16,F16,k16,m16⟩:=a16.go X G;obtain⟨d17,F17,k17,m17⟩:=a17.go X G;obtain⟨d18,F18,k18,m18⟩:=a18.go X G;obtain⟨d19,F19,k19,m19⟩:=a19.go X G;obtain⟨d20,F20,k20,m20⟩:=a20.go X G;obtain⟨d21,F21,k21,m21⟩:=a21.go X G;obtain⟨d22,F22,k22,m22⟩:=a22.go X G;obtain⟨d23,F23,k23,m23⟩:=a23.go X G;obtain⟨d24,F24,k24,m24⟩:=a24.go X G;obtain⟨d25,F25,k25,m25⟩:=a25.go X G;obtain⟨d26,F26,k26,m26⟩:=a26.go X G;obtain⟨d27,F27,k27,m27⟩:=a27.go X G;obtain⟨d28,F28,k28,m28⟩:=a28.go X G;obtain⟨d29,F29,k29,m29⟩:=a29.go X G;obtain⟨d30,F30,k30,m30⟩:=a30.go X G;obtain⟨d31,F31,k31,m31⟩:=a31.go X G;obtain⟨d32,F32,k32,m32⟩:=a32.go X G;obtain⟨d33,F33,k33,m33⟩:=a33.go X G;obtain⟨d34,F34,k34,m34⟩:=a34.go X G;obtain⟨d35,F35,k35,m35⟩:=a35.go X G;obtain⟨d36,F36,k36,m36⟩:=a36.go X G;obtain⟨d37,F37,k37,m37⟩:=a37.go X G;obtain⟨d38,F38,k38,m38⟩:=a38.go X G;obtain⟨d39,F39,k39,m39⟩:=a39.go X G;obtain⟨_,_,kV,dc,pm,an,cd,ct,_,l',d',k40⟩:=a40.2;have F40:=LS (st:=Dc) l' d' k40;obtain⟨d41,F41,k41,a41⟩:=a41.go;obtain⟨d42,F42,k42,a42⟩:=a42.go;obtain⟨d43,F43,k43,a43⟩:=a43.go;obtain⟨d44,F44,k44,a44⟩:=a44.go;obtain⟨d45,F45,k45,a45⟩:=a45.go;obtain⟨d46,F46,k46,a46⟩:=a46.go;obtain⟨d47,F47,k47,a47⟩:=a47.go;obtain⟨d48,F48,k48,a48⟩:=a48.go;obtain⟨d49,F49,w49⟩:=a49.go;obtain⟨d50,F50,w50⟩:=a50.go;obtain⟨d51,F51,w51⟩:=a51.go;obtain⟨d52,F52,w52⟩:=a52.go;obtain⟨d53,F53,w53⟩:=a53.go;obtain⟨d54,F54,w54⟩:=a54.go;obtain⟨d55,F55,w55⟩:=a55.go;obtain⟨d56,F56,w56⟩:=a56.go;obtain⟨d57,F57,w57⟩:=a57.go;obtain⟨d58,F58,w58⟩:=a58.go;obtain⟨d59,F59,w59⟩:=a59.go;obtain⟨d60,F60,w60⟩:=a60.go;obtain⟨d61,F61,w61⟩:=a61.go;obtain⟨d62,F62,w62⟩:=a62.go;obtain⟨d63,F63,w63⟩:=a63.go;obtain⟨d64,F64,w64⟩:=a64.go;obtain⟨d65,F65,w65⟩:=a65.go;obtain⟨d66,F66,w66⟩:=a66.go;obtain⟨d67,F67,w67⟩:=a67.go;obtain⟨d68,F68,w68⟩:=a68.go;obtain⟨d69,F69,w69⟩:=a69.go;obtain⟨d70,F70,w70⟩:=a70.go;have mC:=W.mg_of X G aC;have mB:=W.mg_of X G aB;have mV:=W.mg_of X G aV;have mU:=W.mg_of X G aU;have B:Blt mg:=⟨zt X G z1,zt X G z2,zt X G z3,zt X G z4,zt X G z5,zt X G z6,zt X G z7,zt X G z8,zt X G z9,zt X G z10,zt X G z11,zt X G z12,zt X G z13⟩;have nmin:=zt X G z14;have nsum:=zt X G z15;have nenumerate:=zt X G z16;have nany:=zt X G z17;have nValueError:=zt X G z18;obtain⟨q1,r1⟩:=g1.go X G;obtain⟨q2,r2⟩:=g2.go X G;obtain⟨q3,r3⟩:=g3.go X G;obtain⟨q4,r4⟩:=g4.go X G;obtain⟨q5,r5⟩:=g5.go X G;obtain⟨q6,r6⟩:=g6.go X G;obtain⟨q7,r7⟩:=g7.go X G;obtain⟨q8,r8⟩:=g8.go X G;obtain⟨q9,r9⟩:=g9.go X G;obtain⟨q10,r10⟩:=g10.go X G;obtain⟨q11,r11⟩:=g11.go X G;obtain⟨q12,r12⟩:=g12.go X G;have T:KCl K CK:=⟨⟨caCK.pg,caCK.hd,caCK.po,caCK.sa⟩,n1,n2,n3,n4,n5,n6⟩;have TB:BCl K C:=⟨⟨caC.pg,caC.hd,caC.po,caC.sa⟩,nb1,nb2,nb3,nb4⟩;have TW:SCl K CW:=⟨⟨caCW.pg,caCW.hd,caCW.po,caCW.sa⟩,nr1,nr2,nr3,nr4⟩;have XX:XR K mg aW N a1' a2' a3' a4' a5' a6' a7' a8' a9' b1' b2':=⟨W.mg_of X G e1,W.mg_of X G e2,W.mg_of X G e3,W.mg_of X G e4,W.mg_of X G e5,W.mg_of X G e6,W.mg_of X G e7,W.mg_of X G e8,W.mg_of X G e9,W.mg_of X G e10,W.mg_of X G e11,W.mg_of X G e12,W.mg_of X G e13,nValueError,⟨N8 h3,h2,h3⟩,⟨N8 x4,x2,x3,x4,x5,x6,x7,x8⟩,s1,u1,u2,u3,u4,v1,v2⟩;have xc:XCl K N f70:=⟨v6,x5,v4⟩;refine⟨W.fnOf "law" "law" (Ub Dc) (JV Dc) (Yb Dc) .none kV dc pm an cd ct,λs v=>.of_eq Y,λbase hIn _=>?_⟩;have pA:Ym l.prog w K mg base CX0 1 f1 _ _ Gh:=ok_parts (n:=0) B F1;have spG:Ym l.prog w K mg base CX0 1 f6 _ _ WH:=FI (n:=0) B F6 q3 r3;have sp:Ym l.prog w K mg base CX0 1 f6 _ _ ME:=spG.sub E5;have naG:Ym l.prog w K mg base CX0 2 f4 _ _ MG:=Kc (n:=1) F4 spG (F6.b2 _ _) k6 m6 q1 r1;have na:Ym l.prog w K mg base CX0 2 f4 _ _ (XC 97):=naG.sub Ex;have ta:Ym l.prog w K mg base CX0 2 f5 _ _ (XC 65):=Kj (n:=1) F5 sp (F6.b2 _ _) k6 m6 q2 r2;have tt:Ym l.prog w K mg base CX0 3 f51 _ _ (BV CK):=Oo (n:=2) B T F51 q5 r5 ta (F5.b1 _) k5 m5;have tp:Ym l.prog w K mg base CX0 3 f52 _ _ (MF CK):=Ka (n:=2) B T F52 q7 r7 q6 r6;have kt:Ym l.prog w K mg base CX0 4 f50 _ _ (MH CK):=Ke (n:=3) B T F50 (na.mono<|by decide) (F4.b1 _) k4 m4 tt (F51.b3 _ _ _) w51 tp (F52.b4 _ _ _ _) w52;have ini:Ym l.prog w K mg base CX0 5 f49 _ _ (BW CK):=Oy (n:=4) B T F49 q4 r4 kt (F50.b3 _ _ _) w50;have knm:Ym l.prog w K mg base CX0 1 f53 _ _ (Uu CK):=Kb (n:=0) B T F53;have kwo:Ym l.prog w K mg base CX0 1 f54 _ _ (UK CK):=Ng (n:=0) B T F54;have ksh:Ym l.prog w K mg base CX0 1 f55 _ _ (Ul CK):=DE (n:=0) T F55;have kto:Ym l.prog w K mg base CX0 1 f56 _ _ (TD CK):=FN (n:=0) T F56;have kpo:Ym l.prog w K mg base CX0 1 f57 _ _ (Wh CK):=DJ (n:=0) T F57;have bki:Ym l.prog w K mg base CX0 1 f63 _ _ (Jg C CK):=FR (n:=0) TB F63;have bnm:Ym l.prog w K mg base CX0 1 f64 _ _ (XE C CK):=FP (n:=0) B TB F64;have to:Ym l.prog w K mg base CX0 1 f67 _ _ (MC C CK):=On (n:=0) B TB F67;have cP:Ym l.prog w K mg base CX0 2 f65 _ _ (G8 C CK):=Os (n:=1) TB F65 w67 to<|F67.b2 _ _;have cK:Ym l.prog w K mg base CX0 2 f66 _ _ (WJ C CK):=Ki (n:=1) TB F66 w67 to<|F67.b2 _ _;have kpt:Ym l.prog w K mg base CX0 2 f3 _ _ (Gi C CK):=Kf (n:=1) TB T F3 w63 bki (F63.b1 _) w55 ksh<|F55.b2 _ _;have R1:RA l.prog w K mg base C CK (λk=>findBy JY es k) "tag" _:=⟨f41,_,XJ lR a41,Ou (n:=2) TB T F41 w63 (bki.mono<|by decide) (F63.b1 _) w56 (kto.mono<|by decide)<|F56.b2 _ _,k41,F41.b4 _ _ _ _⟩;have R2:RA l.prog w K mg base C CK (λk=>findBy JY es k) "name" _:=⟨f42,_,XJ lR a42,Kh (n:=2) F42,k42,F42.b4 _ _ _ _⟩;have R3:RA l.prog w K mg base C CK (λk=>findBy JY es k) "pair" _:=⟨f43,_,XJ lR a43,Kg (n:=2) TB T F43 w63 (bki.mono<|by decide) (F63.b1 _) w57 (kpo.mono<|by decide)<|F57.b3 _ _ _,k43,F43.b4 _ _ _ _⟩;have R4:RA l.prog w K mg base C CK (λk=>findBy JY es k) "one" _:=⟨f44,_,XJ lR a44,Ov (n:=2) F44 ⟨f3,_,m3,k3,F3.b3 _ _ _,kpt⟩,k44,F44.b4 _ _ _ _⟩;have R5:RA l.prog w K mg base C CK (λk=>findBy JY es k) "other" _:=⟨f45,_,XJ lR a45,FL (n:=2) F45 ⟨f3,_,m3,k3,F3.b3 _ _ _,kpt⟩,k45,F45.b4 _ _ _ _⟩;have R6:RA l.prog w K mg base C CK (λk=>findBy JY es k) "choose" _:=⟨f46,_,XJ lR a46,DI (n:=0) B nany TB T F46 w63 (bki.mono<|by decide) (F63.b1 _) w55 (ksh.mono<|by decide)<|F55.b2 _ _,k46,F46.b4 _ _ _ _⟩;have R7:RA l.prog w K mg base C CK (λk=>findBy JY es k) "ask" _:=⟨f47,_,XJ lR a47,Ox (n:=0) TB F47 w64 (bnm.mono<|by decide) (F64.b1 _) w65 cP (F65.b2 _ _) w66 cK<|F66.b2 _ _,k47,F47.b4 _ _ _ _⟩;have R8:RA l.prog w K mg base C CK (λk=>findBy JY es k) "let" _:=⟨f48,_,XJ lR a48,Ow (n:=2) F48,k48,F48.b4 _ _ _ _⟩;have kp:Ym l.prog w K mg base CX0 16 f2 _ _ (RW C CK 13):=P4 B nenumerate TB T F2 (F2.b3 _ _ _) m2 w63 (bki.mono<|by decide) (F63.b1 _) w53 (knm.mono<|by decide) (F53.b1 _) ⟨f1,_,m1,k1,F1.b1 _,pA.mono<|by decide⟩ mU (PD hIn lR kR) (λL=>Iv L R1 R2 R3 R4 R5 R6 R7 R8) 13;have ap:Ym l.prog w K mg base CX0 3 f7 _ _ (MK CK):=Km (n:=2) B T F7 q9 r9 ⟨f4,_,m4,k4,F4.b1 _,na⟩ w53 (knm.mono<|by decide)<|F53.b1 _;have rc:Ym l.prog w K mg base CX0 2 f8 _ _ (X0 CK):=Ni (n:=1) B T F8 w54 kwo<|F54.b2 _ _;have ro:Ym l.prog w K mg base CX0 2 f9 _ _ (Xz CK):=Nh (n:=1) B T F9 w54 kwo<|F54.b2 _ _;have ih:Ym l.prog w K mg base CX0 4 f61 _ _ (MJ C CK):=Kl (n:=3) TB T F61 ⟨f4,_,m4,k4,F4.b1 _,na.mono<|by decide⟩ ⟨f7,_,m7,k7,F7.b2 _ _,ap⟩ w53 (knm.mono<|by decide)<|F53.b1 _;have th:Ym l.prog w K mg base CX0 5 f60 _ _ (IY C CK):=Kk (n:=4) B nenumerate TB F60 q8 r8 q10 r10 q11 r11 w61 ih (F61.b4 _ _ _ _) ⟨f8,_,m8,k8,F8.b2 _ _,rc.mono<|by decide⟩ ⟨f9,_,m9,k9,F9.b2 _ _,ro.mono<|by decide⟩;have cb:Ym l.prog w K mg base CX0 17 f62 _ _ (Qa C CK):=SC (n:=16) B nenumerate TB F62 w64 (bnm.mono<|by decide) (F64.b1 _) ⟨f2,_,m2,k2,F2.b3 _ _ _,kp⟩;have bi:Ym l.prog w K mg base CX0 18 f59 _ _ (QZ C CK):=SB (n:=17) (m:=5) (by decide) TB F59 ⟨caCK.ma,w49.1,w49.2,caCK.kc⟩ mC ini (F49.b2 _ _) w60 (th.mono<|by decide) (F60.b2 _ _) w62 cb<|F62.b1 _;have ot:Ym l.prog w K mg base CX0 2 f10 _ _ (IV CK):=Q5 (n:=1) T F10 w53 knm (F53.b1 _) w55 ksh<|F55.b2 _ _;have iw:Ym l.prog w K mg base CX0 1 f58 _ _ (QX CK):=Ak (n:=0) B T F58;have kA:Ym l.prog w K mg base CX0 3 f13 _ _ (OC C CK):=Aj (n:=2) TB F13 w65 cP<|F65.b2 _ _;have kTo:Ym l.prog w K mg base CX0 3 f14 _ _ (IW C CK):=Q8 (n:=2) TB F14 w66 cK<|F66.b2 _ _;have td:Ym l.prog w K mg base CX0 4 f12 _ _ (QS C CK):=Ab (n:=3) B TB T F12 w63 (bki.mono<|by decide) (F63.b1 _) w58 (iw.mono<|by decide) (F58.b3 _ _ _) w64 (bnm.mono<|by decide) (F64.b1 _) w65 (cP.mono<|by decide) (F65.b2 _ _) w66 (cK.mono<|by decide) (F66.b2 _ _) ⟨f10,_,m10,k10,F10.b2 _ _,ot.mono<|by decide⟩ ⟨f13,_,m13,k13,F13.b2 _ _,kA⟩;have ni:Ym l.prog w K mg base CX0 1 f70 _ _ (E6 N "number"):=FK (n:=0) F70 xc v2;have cC:Ym l.prog w K mg base (CX1 l.prog w) 5 f11 _ _ (IX C CK N):=An (n:=3) (by decide) B nenumerate F11 q12 r12 XX.mN xc v5 w70.2 (ni.mono<|by decide) (F70.b2 _ _) ⟨f4,_,m4,k4,F4.b1 _,naG.mono<|by decide⟩ ⟨f12,_,m12,k12,F12.b2 _ _,td⟩ ⟨f14,_,m14,k14,F14.b2 _ _,kTo.mono<|by decide⟩ ⟨f13,_,m13,k13,F13.b2 _ _,kA.mono<|by decide⟩;have sI:Ym l.prog w K mg base (CX1 l.prog w) 6 f68 _ _ (IT CW C CK N):=Ad (n:=5) B TW F68 ⟨f11,_,m11,k11,F11.b2 _ _,cC⟩;have sC:Ym l.prog w K mg base CX0 1 f69 _ _ (QU CW):=Ae (n:=0) B TW F69;have le:Ym l.prog w K mg base (CX1 l.prog w) 6 f15 _ _ (OB C CK N):=Ag (n:=5) F15 ⟨f11,_,m11,k11,F11.b2 _ _,cC⟩;have sL:Ym l.prog w K mg base (CX1 l.prog w) 6 f16 _ _ (EB C CK N):=Ac (n:=5) F16 ⟨f11,_,m11,k11,F11.b2 _ _,cC⟩;have fi:Ym l.prog w K mg base CX0 1 f17 _ _ BY:=O1 (n:=0) F17;have nx:Ym l.prog w K mg base CX0 2 f18 _ _ (J7 K):=Ot (n:=1) B F18 ⟨f17,_,m17,k17,F17.b2 _ _,fi⟩;have ls:Ym l.prog w K mg base CX0 3 f19 _ _ (NS K):=Q6 (n:=2) B F19 ⟨f18,_,m18,k18,F18.b2 _ _,nx⟩;have sw:Ym l.prog w K mg base CX0 4 f20 _ _ (Uk K):=FJ (n:=3) F20 ⟨f19,_,m19,k19,F19.b3 _ _ _,ls⟩;have fl:Ym l.prog w K mg base CX0 1 f22 _ _ MI:=O0 (n:=0) F22;have tO:Ym l.prog w K mg base CX0 1 f23 _ _ XD:=FH (n:=0) F23;have kD:Ym l.prog w K mg base CX0 5 f21 _ _ (G9 K):=FM (n:=4) B nsum F21 ⟨f18,_,m18,k18,F18.b2 _ _,nx.mono<|by decide⟩ ⟨f20,_,m20,k20,F20.b2 _ _,sw⟩ ⟨f19,_,m19,k19,F19.b3 _ _ _,ls.mono<|by decide⟩;have hD:Ym l.prog w K mg base CX0 5 f24 _ _ (TF K):=FO (n:=4) B F24 ⟨f18,_,m18,k18,F18.b2 _ _,nx.mono<|by decide⟩ ⟨f20,_,m20,k20,F20.b2 _ _,sw⟩;have sd:Ym l.prog w K mg base CX0 10 f25 _ _ (Wg K 5):=EF B F25 ⟨f18,_,m18,k18,F18.b2 _ _,nx.mono<|by decide⟩ ⟨f23,_,m23,k23,F23.b2 _ _,tO.mono<|by decide⟩ (F25.b5 _ _ _ _ _) m25 5;have dD:Ym l.prog w K mg base CX0 11 f26 _ _ (BZ K):=O2 (n:=10) B F26 ⟨f25,_,m25,k25,F25.b5 _ _ _ _ _,sd⟩;have fr:Ym l.prog w K mg base CX0 4 f28 _ _ (BX K):=Oz (n:=3) F28 ⟨f19,_,m19,k19,F19.b3 _ _ _,ls⟩;have tT:Ym l.prog w K mg base CX0 1 f29 _ _ MD:=KZ (n:=0) F29;have wN:Ym l.prog w K mg base CX0 1 f33 _ _ MB:=Om (n:=0) B F33;have bt:Ym l.prog w K mg base CX0 5 f30 _ _ (OD K):=Ao (n:=4) B F30 ⟨f18,_,m18,k18,F18.b2 _ _,nx.mono<|by decide⟩ ⟨f22,_,m22,k22,F22.b1 _,fl.mono<|by decide⟩ ⟨f29,_,m29,k29,F29.b1 _,tT.mono<|by decide⟩ ⟨f28,_,m28,k28,F28.b3 _ _ _,fr⟩;have bs:Ym l.prog w K mg base CX0 6 f31 _ _ (OE K):=Ap (n:=5) F31 ⟨f18,_,m18,k18,F18.b2 _ _,nx.mono<|by decide⟩ ⟨f30,_,m30,k30,F30.b4 _ _ _ _,bt⟩;have tw:Ym l.prog w K mg base CX0 7 f39 _ _ (QT K):=Aa (n:=6) B F39 ⟨f31,_,m31,k31,F31.b5 _ _ _ _ _,bs⟩ ⟨f30,_,m30,k30,F30.b4 _ _ _ _,bt.mono<|by decide⟩;have bn':Ym l.prog w K mg base CX0 3 f32 _ _ (IZ K):=Q9 (n:=2) (by decide) B F32 ⟨f18,_,m18,k18,F18.b2 _ _,nx⟩ ⟨f33,_,m33,k33,F33.b0,wN.mono<|by decide⟩;have cD:Ym l.prog w K mg base CX0 5 f27 _ _ (QY K):=Am (n:=4) (by decide) B F27 ⟨f18,_,m18,k18,F18.b2 _ _,nx.mono<|by decide⟩ ⟨f20,_,m20,k20,F20.b2 _ _,sw⟩ ⟨f23,_,m23,k23,F23.b2 _ _,tO.mono<|by decide⟩;have bD:Ym l.prog w K mg base CX0 12 f38 _ _ (Qb K):=Aq (n:=11) B F38 ⟨f22,_,m22,k22,F22.b1 _,fl.mono<|by decide⟩ ⟨f24,_,m24,k24,F24.b2 _ _,hD.mono<|by decide⟩ ⟨f26,_,m26,k26,F26.b2 _ _,dD⟩ ⟨f20,_,m20,k20,F20.b2 _ _,sw.mono<|by decide⟩;have ke:Ym l.prog w K mg base CX0 1 f34 _ _ (QW N):=Ai (n:=0) B XX F34;have rf:Ym l.prog w K mg base CX0 8 f35 _ _ (QV C CK):=Af (n:=7) (m:=6) (by decide) (by decide) B XX F35 ⟨caCW.ma,w68.1,w68.2,caCW.kc⟩ mV sI (F68.b3 _ _ _) ⟨f15,_,m15,k15,F15.b2 _ _,le.mono<|by decide⟩ ⟨f16,_,m16,k16,F16.b3 _ _ _,sL.mono<|by decide⟩ ⟨f34,_,m34,k34,F34.b1 _,ke.mono<|by decide⟩;have aR':Ym l.prog w K mg base CX0 9 f36 _ _ (Qc C CK):=Ar (n:=8) (by decide) B F36 ⟨f35,_,m35,k35,F35.b3 _ _ _,rf⟩;have rg:Ym l.prog w K mg base CX0 8 f37 _ _ (IU C CK):=Q4 (n:=7) (m:=6) (by decide) (by decide) B TW F37 ⟨caCW.ma,w68.1,w68.2,caCW.kc⟩ mV sI (F68.b3 _ _ _) w69 (sC.mono<|by decide)<|F69.b1 _;exact Q7 (n:=19) (mB:=18) (by decide) B nmin F40 ⟨f18,_,m18,k18,F18.b2 _ _,nx.mono<|by decide⟩ ⟨f21,_,m21,k21,F21.b1 _,kD.mono<|by decide⟩ ⟨f38,_,m38,k38,F38.b2 _ _,bD.mono<|by decide⟩ ⟨f27,_,m27,k27,F27.b3 _ _ _,cD.mono<|by decide⟩ ⟨f33,_,m33,k33,F33.b0,wN.mono<|by decide⟩ ⟨f37,_,m37,k37,F37.b2 _ _,rg.mono<|by decide⟩ ⟨f32,_,m32,k32,F32.b4 _ _ _ _,bn'.mono<|by decide⟩ ⟨f36,_,m36,k36,F36.b3 _ _ _,aR'.mono<|by decide⟩ ⟨f31,_,m31,k31,F31.b5 _ _ _ _ _,bs.mono<|by decide⟩ ⟨f39,_,m39,k39,F39.b6 _ _ _ _ _ _,tw.mono<|by decide⟩ ⟨caC.ma,w59.1,w59.2,caC.kc⟩ mB bi<|F59.b3 _ _ _
def goes{l:W.OpenLaw}{q:Program}{loose:ky}{XP:(Str->Option Value)->Heap->Prop}{YP:World->Heap->Prop}{d:DefRec}{K:Params->W.Frag}(hn:l.most=some 63)(hdf:d.params.defaults=[])(hY:∀(w:World)(h:Heap),YP w h->(K w.params).In h)(F:∀(w:World)(mg:Str->Option Value)(fa:Addr)(h:Heap),(K w.params).In h->h.Ns mainGlobals mg->mg d.name=some (.ref fa)->
   ∃fd:FuncData,(∀(s:Shared)(u:Value),BindsTo s fd ⟨[u],[]⟩ [("script",u)])/\∀base:Heap,(K w.params).In base->base.Ns mainGlobals mg->Ym l.prog w (K w.params) mg base CX0 20 fa fd ["script"] (EC<|K w.params)):
  W.WalkO q loose XP YP l.row.toRowW d [] (λf vs=>PySem.call f vs):=
 L2.walk_of (n:=63) (k:=20) (x:="script") (CX:=λ_=>CX0) (sp:=λw=>EC<|K w.params) hn (by decide) hdf ⟨rfl,by decide,by decide⟩ hY F (λ_ _ a ns hl _ hS=>⟨a,ns,hS,λ_=>rfl⟩) λ_ _ _ _ _ z=>z
end K4
end
namespace PySem.W.Fast
def tw10007540349224376457:=()
def tw1001177180061163741:=()
def tw10015240597405454592:=()
def tw10036734721623725862:=()
def tw10042617627523258564:=()
def tw10060167597236796594:=()
def tw10096702770956006131:=()
def tw10104445197149866093:=()
def tw10120537718527226554:=()
def tw10127356187054610506:=()
def tw10136382947658103594:=()
def tw10138530065586623180:=()
def tw10154717194885976786:=()
def tw10176202631259258079:=()
def tw10207267957807646532:=()
def tw10228851317876364598:=()
def tw10251576983052035549:=()
def tw10283510915964054635:=()
def tw10310045996940858539:=()
def tw10310346662500362674:=()
def tw10310384921098350588:=()
def tw10313008302709835095:=()
def tw10351553552826671920:=()
def tw10405944492124218775:=()
def tw10430219269525584629:=()
def tw10446142309296888544:=()
def tw10448425830005471020:=()
def tw10456158134512078371:=()
def tw10491908703887594094:=()
def tw10497779186463244500:=()
def tw10530964174437160298:=()
def tw10551984791109744794:=()
def tw1063153540336928790:=()
def tw10633564300978639676:=()
def tw10673460087065853227:=()
def tw10698891885346039032:=()
def tw1071017839421221563:=()
def tw10717543769704948386:=()
def tw10742580806363097394:=()
def tw10778704697763010225:=()
def tw10843959854325049662:=()
def tw10848254587124770013:=()
def tw10869299864937893713:=()
def tw10874608766261683940:=()
def tw10884313094142393789:=()
def tw10932623318558985404:=()
def tw10937713414021094632:=()
def tw10960585991103608681:=()
def tw10961484952091172162:=()
def tw10983094556567551620:=()
def tw10998486596853684865:=()
def tw11002170081745734894:=()
def tw11053772465797564410:=()
def tw11064804083228799358:=()
def tw11065997022748540143:=()
def tw11081188416375201357:=()
def tw11129770599084528839:=()
def tw11157339822958578640:=()
def tw11183136641212050453:=()
def tw11227269202215386719:=()
def tw11271299602010479230:=()
def tw1128080114806111:=()
def tw11284454004031159635:=()
def tw1131095441340338335:=()
def tw11312628902767076410:=()
def tw1131457051115790448:=()
def tw1131679273521423882:=()
def tw11349507850028861485:=()
def tw11362030067265796007:=()
def tw11368913917690707197:=()
def tw11389032049203698750:=()
def tw11418886260924106992:=()
def tw11419910158419116718:=()
def tw11429070581863736465:=()
def tw11468836196184404766:=()
def tw11471711682645428548:=()
def tw11494945808129058165:=()
def tw11498056258851012948:=()
def tw11501553787898584857:=()
def tw1150828775084572019:=()
def tw1151873287040364292:=()
def tw11522849360254972910:=()
def tw11526269511140985861:=()
def tw11529353329980790017:=()
def tw11550468170085086754:=()
def tw11559354809982101468:=()
def tw11562858752319896866:=()
def tw11587076501670790604:=()
def tw11596414886301977053:=()
def tw11614908895292567755:=()
def tw11625154711384812135:=()
def tw11636460621411539915:=()
def tw11664172574390053851:=()
def tw11709847537461442769:=()
def tw11748441080793526645:=()
def tw11753015213998296878:=()
def tw11773889001945425240:=()
def tw11794118292020670659:=()
def tw11812811076559569250:=()
def tw11824303528440793445:=()
def tw11841706168623876700:=()
def tw11849553939292863979:=()
def tw11854572770834594064:=()
def tw11904276564682740665:=()
def tw11914780498431025315:=()
def tw11939190267633914084:=()
def tw11948333607354309320:=()
def tw11950791736343961292:=()
def tw11951131920146260649:=()
def tw11958010544815477533:=()
def tw11962721433110119695:=()
def tw11969915067644216743:=()
def tw11975203690188815810:=()
def tw11976471986953651470:=()
def tw11979395556723061147:=()
def tw11981333308916247844:=()
def tw11994483484233399336:=()
def tw11995339499155596354:=()
def tw12007955579593941632:=()
def tw12032401553350256869:=()
def tw12047456360348472169:=()
def tw12051778713252648934:=()
def tw12089932868086659971:=()
def tw1212691029939053408:=()
def tw12128770562382869697:=()
def tw12147800403228258061:=()
def tw12151046485814734765:=()
def tw12178542943488321877:=()
def tw12186849251213974820:=()
def tw12204893217015970193:=()
def tw12233745453370390448:=()
def tw1223415224288208768:=()
def tw12295957837499006551:=()
def tw12298537264253964534:=()
def tw123314934148080217:=()
def tw12392684410588916039:=()
def tw12408667305385073620:=()
def tw12411971282980153900:=()
def tw12508623875426763763:=()
def tw1252590067214957810:=()
def tw12539128443869107150:=()
def tw12544950815394347476:=()
def tw12546341418178425561:=()
def tw12578835904219432833:=()
def tw12579944376280581427:=()
def tw12583708548793504657:=()
def tw12605169169276113480:=()
def tw12611664520758589800:=()
def tw12647670012018202574:=()
def tw12672543626271729325:=()
def tw12686878174037411447:=()
def tw12701126067445679444:=()
def tw12712555563755286207:=()
def tw12780668719082902171:=()
def tw12784703663676880302:=()
def tw12786945532515043936:=()
def tw12791624637534736073:=()
def tw12792706537049067474:=()
def tw12817490204893428649:=()
def tw12824519553840960517:=()
def tw12825892595705779537:=()
def tw12866898646413733452:=()
def tw12886793026193448999:=()
def tw12892129486809491357:=()
def tw12897668562562322629:=()
def tw12906812741124085704:=()
def tw1291284129471082981:=()
def tw12948901921255553418:=()
def tw12949492181904945651:=()
def tw12950917807189343728:=()
def tw12961130644469505639:=()
def tw13001385648230979468:=()
def tw13011865524289298030:=()
def tw13020891621188109510:=()
def tw13025533615413222794:=()
def tw13043170163975742556:=()
def tw13059523773206698954:=()
def tw13112131406428970070:=()
def tw13124283564350339044:=()
def tw13128073583499086771:=()
def tw13130345054199959980:=()
def tw13130881444189037178:=()
def tw13174935394342837115:=()
def tw13184253165568079877:=()
def tw13185981982047759995:=()
def tw13188381879270992483:=()
def tw13219436983765885840:=()
def tw13236335173229433082:=()
def tw13238494648904621393:=()
def tw13251778826246173000:=()
def tw13253909090676756995:=()
def tw13258442433194535909:=()
def tw13262180646758407757:=()
def tw13285759205272872465:=()
def tw13294543829801587667:=()
def tw13298582517677507255:=()
def tw13310072281435305551:=()
def tw13312126552281297851:=()
def tw13312692300968284158:=()
def tw13338857188441718998:=()
def tw13370991886165236222:=()
def tw13393654380447367845:=()
def tw13418806479645814734:=()
def tw13422930695231988259:=()
def tw13516092083721699101:=()
def tw13518028956674365815:=()
def tw13551155589438606598:=()
def tw13551174551472088283:=()
def tw13572227887527177031:=()
def tw13622333487921847256:=()
def tw13629038639170415455:=()
def tw13632079337600541140:=()
def tw13702697741041144503:=()
def tw13705354247135486123:=()
def tw13710944277462124729:=()
def tw13718181024568774950:=()
def tw13732937206368151520:=()
def tw13775772239970742023:=()
def tw13866925430920488755:=()
def tw13867137565798947569:=()
def tw13887901268506648229:=()
def tw13898334925650998425:=()
def tw13921827444661025479:=()
def tw13928620750175957740:=()
def tw13935964335073487026:=()
def tw13952754614140607732:=()
def tw13959211846876202574:=()
def tw13977339300903537563:=()
def tw13982438701278571655:=()
def tw13995125623933275527:=()
def tw14012469741872500219:=()
def tw14047178868594395751:=()
def tw14065317767607147085:=()
def tw14071324717269534492:=()
def tw14083916587602958165:=()
def tw14117290623058190918:=()
def tw14118652290585506098:=()
def tw14120469546609506123:=()
def tw14126468873986648787:=()
def tw14126476590455034705:=()
def tw14131601497981431714:=()
def tw14136449713216579587:=()
def tw14167218956338193694:=()
def tw1417915117801604869:=()
def tw14201830958856505008:=()
def tw14215603895415092189:=()
def tw14218457876949859004:=()
def tw14271279071972448614:=()
def tw14277491879606653972:=()
def tw14364542013356672100:=()
def tw14380489794506322075:=()
def tw14419440220142721722:=()
def tw14423422062723568822:=()
def tw14436060625695443213:=()
def tw14439147199869333192:=()
def tw1445107409323402298:=()
def tw14451891202368347418:=()
def tw14469257772253571046:=()
def tw14474682906816285372:=()
def tw14494373956407766523:=()
def tw14552306833769801023:=()
def tw14554965143823829264:=()
def tw14580063162577474161:=()
def tw14580486394975719267:=()
def tw14597567408352560077:=()
def tw14601857805835140183:=()
def tw14632865145144653518:=()
def tw14640584834885108837:=()
def tw14675423840572435902:=()
def tw14675626085527406357:=()
def tw14712091851859814738:=()
def tw1473773043540851025:=()
def tw14780285092116943024:=()
def tw1478518951540900441:=()
def tw1479513377601840087:=()
def tw14811147725949198138:=()
def tw14866584472318366898:=()
def tw14867557838297375226:=()
def tw14910028000207138805:=()
def tw14924229675213568408:=()
def tw14925695657668040833:=()
def tw14942584503662641124:=()
def tw14974410251897015986:=()
def tw14998467825818388998:=()
def tw15019561597545443666:=()
def tw1502387965141954332:=()
def tw15041504769323020556:=()
def tw15045200206296548479:=()
def tw15045476704088606661:=()
def tw15045788541771454622:=()
def tw15059305881883424750:=()
def tw15067362714525380588:=()
def tw15071058030150026455:=()
def tw15088091093906412345:=()
def tw15095836701132341699:=()
def tw1509725692195229883:=()
def tw15122075208668938255:=()
def tw15126074562866425177:=()
def tw15126194117423456266:=()
def tw15142680605704378445:=()
def tw15155308582346661100:=()
def tw15165637650998991458:=()
def tw15184387773877424225:=()
def tw15189339935243916676:=()
def tw15195660363318373713:=()
def tw15195678270043888283:=()
def tw15218662493834035886:=()
def tw15233301268893145996:=()
def tw15253709449390765301:=()
def tw15263199073456364260:=()
def tw15268979438821890540:=()
def tw15285958736774760880:=()
def tw15288679994780903052:=()
def tw15292377222798321938:=()
def tw15292384521427344714:=()
def tw15305771005717590514:=()
def tw15307892255917977699:=()
def tw15321169969541531508:=()
def tw15416187234266375818:=()
def tw15435460046071378020:=()
def tw15440440874625011929:=()
def tw15467738238995685087:=()
def tw15470585297779520500:=()
def tw15527287815089836138:=()
def tw15554525548838612462:=()
def tw15564869533138229775:=()
def tw15571063692657491143:=()
def tw15577003024298982706:=()
def tw15584703857797067289:=()
def tw15592582892845962536:=()
def tw15598471808015061153:=()
def tw1562121702788219898:=()
def tw15644642834656410161:=()
def tw1566422983355066677:=()
def tw1566462330952417864:=()
def tw15665663673792511420:=()
def tw15702040285921576101:=()
def tw15716358561039202328:=()
def tw15742977040106371396:=()
def tw15744850170553143436:=()
def tw15750673434488708304:=()
def tw1575413349782956743:=()
def tw15782119177767696743:=()
def tw15808249972863166722:=()
def tw15813386489532193746:=()
def tw15822831381703554229:=()
def tw15825334357599015440:=()
def tw15826966740735602706:=()
def tw15870297568635449335:=()
def tw15881276857301368628:=()
def tw15900137490975800323:=()
def tw15919015480951315914:=()
def tw15923854334959376899:=()
def tw1594814789328690578:=()
def tw15961001072794378400:=()
def tw15984647448360864113:=()
def tw16016630231357689416:=()
def tw16080804731781653088:=()
def tw16092326418176701680:=()
def tw16099731159867946236:=()
def tw16126137519216269093:=()
def tw16130353894309260752:=()
def tw16134854919894618231:=()
def tw16158707899014870494:=()
def tw16171716329979791363:=()
def tw16175600578402316909:=()
def tw16197345694196236882:=()
def tw16238047638175018433:=()
def tw16242193388370020516:=()
def tw16242855739062098981:=()
def tw16278179946844281590:=()
def tw16282358391495150900:=()
def tw16341394153595970333:=()
def tw16353186921901969917:=()
def tw16355008980119769004:=()
def tw16365503374127646652:=()
def tw16398538087016049367:=()
def tw16404294084180358924:=()
def tw16432380741667217225:=()
def tw1646053376924345810:=()
def tw16463639350216779390:=()
def tw16464085853760248075:=()
def tw16473700865962401729:=()
def tw16477867226742901787:=()
def tw1649401441930259679:=()
def tw16498171128927249744:=()
def tw16500908107430029580:=()
def tw16510862771147894588:=()
def tw16516481122288419123:=()
def tw16518676850227900402:=()
def tw16527633909760614403:=()
def tw16528267519167733536:=()
def tw16550561217430995144:=()
def tw16553965423530723577:=()
def tw16575067609848208474:=()
def tw16575173724203796813:=()
def tw16596586291243306976:=()
def tw16609737959261328010:=()
def tw16646794391860818261:=()
def tw1667355401011370353:=()
def tw16731823930902493433:=()
def tw16759114241431794655:=()
def tw1677129194988738111:=()
def tw16772412258802525764:=()
def tw1681881053939807201:=()
def tw16845155886616947280:=()
def tw16846216951585037473:=()
def tw16847835451367127051:=()
def tw16852920285614481465:=()
def tw16879306501889975634:=()
def tw16890275487327567864:=()
def tw16907062892400678651:=()
def tw16914141160116601846:=()
def tw16931626669409183479:=()
def tw16939435309259197452:=()
def tw16941830369329199944:=()
def tw1697021421036637506:=()
def tw16978906013253400744:=()
def tw16983305870343275488:=()
def tw17039934351025676190:=()
def tw17049082133362042614:=()
def tw17049286477563603538:=()
def tw17064887757933081234:=()
def tw17064963029689936678:=()
def tw17067700842848693177:=()
def tw17075918708135400756:=()
def tw17079500509702457116:=()
def tw1713725319416321017:=()
def tw17137478133546744089:=()
def tw17227550783468449653:=()
def tw1726532162444820624:=()
def tw17284366126714730290:=()
def tw17342226772369777457:=()
def tw17362265950525339271:=()
def tw17382961234312327755:=()
def tw17420580451086489510:=()
def tw17421827373571663262:=()
def tw17448034995068311184:=()
def tw17456766743970025271:=()
def tw17464199071302757303:=()
def tw17464377397277683970:=()
def tw17489972649669091538:=()
def tw17494932033940047003:=()
def tw1750844342896631993:=()
def tw17522228652449457035:=()
def tw17563489001744930971:=()
def tw17574166374567205793:=()
def tw17600329067560675013:=()
def tw17607046450887181106:=()
def tw17612999512868169709:=()
def tw17613858111445428614:=()
def tw17624120734251655519:=()
def tw1769659058905205951:=()
def tw17699936084290168584:=()
def tw17711923814021631503:=()
def tw17727449484921463175:=()
def tw17736244965531747052:=()
def tw17749503940461932870:=()
def tw1775393267057228202:=()
def tw17771823769577291664:=()
def tw17810492022463218418:=()
def tw17811034016675491845:=()
def tw1787463112017823098:=()
def tw1789298772060474604:=()
def tw17901969477394929612:=()
def tw17911731158288106700:=()
def tw17948865105621135179:=()
def tw17976834066402326049:=()
def tw17978770191254606272:=()
def tw18046903939320166660:=()
def tw18059336206198448904:=()
def tw18059495425646481358:=()
def tw18094299113766593641:=()
def tw18125672015598171998:=()
def tw18172305073229693779:=()
def tw18179065591272974954:=()
def tw18209235364412333319:=()
def tw18221190206456150512:=()
def tw18246125020882721372:=()
def tw18250052463688771800:=()
def tw18291518899971259273:=()
def tw18300072721835963666:=()
def tw18308705084866541061:=()
def tw18340265878229544713:=()
def tw18350374016275984971:=()
def tw18357055161032305819:=()
def tw18429295361044847374:=()
def tw1850640850215583529:=()
def tw1866134543423307494:=()
def tw1887721047902082052:=()
def tw1907092003383513947:=()
def tw1907379286445085329:=()
def tw192756255709760473:=()
def tw1971728982386701920:=()
def tw1976272712781588742:=()
def tw1999113522867326205:=()
def tw2001933719038505437:=()
def tw2003057738861432119:=()
def tw2010197227788301985:=()
def tw2019650182726904387:=()
def tw2068818416647139132:=()
def tw2116573297973640187:=()
def tw2122827143692612653:=()
def tw2133304904270758650:=()
def tw2148745752380371272:=()
def tw2237439335509705333:=()
def tw2238406312757107649:=()
def tw2247170880222716521:=()
def tw2281852707700323636:=()
def tw2296043162699372255:=()
def tw231500307959298169:=()
def tw2318368314314387452:=()
def tw2345889326425831909:=()
def tw2381832465450287635:=()
def tw2388715972653262426:=()
def tw2397986629774531854:=()
def tw2416174472018642320:=()
def tw2433892100302546698:=()
def tw2445661325040222497:=()
def tw244743935351854184:=()
def tw247650482690372027:=()
def tw2479313046494872376:=()
def tw2502538233252520035:=()
def tw2532491789890474083:=()
def tw2553228733534074041:=()
def tw255568722870495864:=()
def tw2558903723997807121:=()
def tw2571687674200052218:=()
def tw2605689119853416490:=()
def tw2651125058887800146:=()
def tw2685923783166790012:=()
def tw2690807611548122217:=()
def tw2707864488108423847:=()
def tw2724845046685787462:=()
def tw2731815064958513377:=()
def tw273693652372540626:=()
def tw2745453131688427853:=()
def tw2749579296186855844:=()
def tw2751808873566632281:=()
def tw275596090074251552:=()
def tw2770285259675772460:=()
def tw2780230499265599738:=()
def tw2793457975083685907:=()
def tw2820073920388689643:=()
def tw2826953036148711045:=()
def tw2827221824228509841:=()
def tw2869126251929794309:=()
def tw2887674558848462206:=()
def tw2889744307501689562:=()
def tw2899437099092636648:=()
def tw2926423153512937568:=()
def tw297755264216042771:=()
def tw2983131072411067026:=()
def tw2985227177540951273:=()
def tw3072437947762719310:=()
def tw3122858511082167018:=()
def tw3203383055532373139:=()
def tw321710493440708721:=()
def tw3314733020578518615:=()
def tw3319007735950435344:=()
def tw3334345885410664305:=()
def tw3336379655216525031:=()
def tw3339370098508279713:=()
def tw3391028161815618895:=()
def tw3396978591021519252:=()
def tw340242980666539243:=()
def tw3415153143991682824:=()
def tw3470710651334660764:=()
def tw3529529940642204620:=()
def tw3556295195106016767:=()
def tw3561007352418968112:=()
def tw3575167184445570317:=()
def tw3577097496030337933:=()
def tw3598325302063122103:=()
def tw3611160561839139174:=()
def tw3628998962163505895:=()
def tw3655853350241419048:=()
def tw3658623763562803791:=()
def tw3701750476037249665:=()
def tw3729168475687222668:=()
def tw3775604232573051067:=()
def tw3790505184891210716:=()
def tw3802315246442281010:=()
def tw3819616853172242353:=()
def tw3848739396587001862:=()
def tw3862791502902173746:=()
def tw3877566064931292964:=()
def tw3881499709903018586:=()
def tw3889063906298050640:=()
def tw3890650218273573757:=()
def tw3890969609077125500:=()
def tw3914072142105467787:=()
def tw3945444385186211580:=()
def tw3948024762216841282:=()
def tw3955111718312014234:=()
def tw3955797105639075464:=()
def tw3957956339447037653:=()
def tw3975807598465024890:=()
def tw3991120465579562847:=()
def tw4034157646984369414:=()
def tw4045227904934961683:=()
def tw4055142837961823415:=()
def tw4060966820202081378:=()
def tw4084101340814087147:=()
def tw4098028934640875306:=()
def tw4100100686986666263:=()
def tw4148456339670385581:=()
def tw4162434116829638244:=()
def tw4174951647391827849:=()
def tw4231229211679355733:=()
def tw4232730819576418252:=()
def tw424549147471921437:=()
def tw4310904116468480965:=()
def tw4317194145999440471:=()
def tw4344307423614523626:=()
def tw439456172496728451:=()
def tw4408185102339809137:=()
def tw4410273174523001345:=()
def tw442514427453904956:=()
def tw443533580622434503:=()
def tw4443275119031081252:=()
def tw4445864024962147851:=()
def tw4449299734806407983:=()
def tw4479415933756078388:=()
def tw4522376499941051072:=()
def tw4579627409505778808:=()
def tw4595662865077940645:=()
def tw4620929445050937676:=()
def tw4623911107896616002:=()
def tw4647320301874205778:=()
def tw4655935290410066678:=()
def tw4666778343728190917:=()
def tw466950315220718862:=()
def tw467745951942945490:=()
def tw4692559727194761985:=()
def tw4710029933332311314:=()
def tw4737251940589105307:=()
def tw4844461058460961692:=()
def tw4856284502525669495:=()
def tw4899256502667615455:=()
def tw491521507619607683:=()
def tw4927912303182756937:=()
def tw4969585306333584363:=()
def tw4971040134582131943:=()
def tw5092630969748884352:=()
def tw5173094149141961168:=()
def tw5203544798026202389:=()
def tw5211864315373813902:=()
def tw5240894888730516306:=()
def tw5244585153571524804:=()
def tw5253245993008614663:=()
def tw5264095974627776528:=()
def tw5267956238351749634:=()
def tw526971651331277049:=()
def tw5297933314202049525:=()
def tw5301076370900465549:=()
def tw53033605673816741:=()
def tw5321951390533123465:=()
def tw533396301658673383:=()
def tw5339429873192077439:=()
def tw5353261386236426406:=()
def tw536184815669123699:=()
def tw542410003629606435:=()
def tw5429583105544163517:=()
def tw5451133760596019756:=()
def tw5461059960877695649:=()
def tw5504513276790049896:=()
def tw5522550259266721860:=()
def tw5547521935220407975:=()
def tw556154887742352321:=()
def tw5573042463635595985:=()
def tw5577407818589723932:=()
def tw5595585231424508619:=()
def tw5615577574164557798:=()
def tw5624654872294314051:=()
def tw5624972353711663621:=()
def tw5657601504797970612:=()
def tw5660397985506815385:=()
def tw5662597357508614094:=()
def tw5663844530433998813:=()
def tw5711634720036928242:=()
def tw5738984300218370322:=()
def tw5755750724963597329:=()
def tw5774490319146670163:=()
def tw5783702871122226904:=()
def tw5790006055870609188:=()
def tw5805063521641130883:=()
def tw5832891066264592983:=()
def tw5835870694247159737:=()
def tw5854346135012771297:=()
def tw5881033164024984346:=()
def tw5896168774812608647:=()
def tw5931711466818060370:=()
def tw5934119593382298237:=()
def tw597434650958284683:=()
def tw5984636501672438991:=()
def tw600493110249793167:=()
def tw6040964172118491784:=()
def tw6051661208369317404:=()
def tw6073942102358629765:=()
def tw60934519969538285:=()
def tw6101465945398582086:=()
def tw6112055697193027957:=()
def tw613632731354474908:=()
def tw6181309955773105916:=()
def tw6194564663498016063:=()
def tw6200217608631969529:=()
def tw6240722628553036270:=()
def tw6246585391869155694:=()
def tw6297774183139714811:=()
def tw6314030679230815322:=()
def tw6315361938248031191:=()
def tw6323733491574043703:=()
def tw6330071836350921131:=()
def tw6348957646190652507:=()
def tw6352626076695302731:=()
def tw6367612475493109749:=()
def tw6372341839130616442:=()
def tw6377706697612154397:=()
def tw6388888870451600559:=()
def tw6398692173694881947:=()
def tw6403154207006378177:=()
def tw6409369967412255950:=()
def tw6417572449478446848:=()
def tw6423644879097215706:=()
def tw6424420230857283511:=()
def tw64290525215067513:=()
def tw6533401873503938826:=()
def tw6587388190797173189:=()
def tw662342612116363750:=()
def tw6637513683449317746:=()
def tw6645389503838175404:=()
def tw6648185470004316981:=()
def tw666624984792375099:=()
def tw669810316750722979:=()
def tw6728155590511475874:=()
def tw6730569039779127440:=()
def tw677620901240374826:=()
def tw6798167521702544280:=()
def tw6809103759919487374:=()
def tw682317102467278876:=()
def tw6837586498928290113:=()
def tw684786171492585099:=()
def tw6869278709261950811:=()
def tw6869785077411922802:=()
def tw6888065595313330775:=()
def tw6892698723124785782:=()
def tw6900761282098489067:=()
def tw6907469415591212903:=()
def tw692113605031796703:=()
def tw6936401427069398782:=()
def tw6959713684724158794:=()
def tw6968279849190863757:=()
def tw6989134140943975016:=()
def tw6990018672016956797:=()
def tw6991335438648892461:=()
def tw6994359147475961147:=()
def tw7036965471850363132:=()
def tw7041386240652740238:=()
def tw704965704573180898:=()
def tw7053481457269065002:=()
def tw7060430003884492602:=()
def tw7067084418474367719:=()
def tw7068286124118276153:=()
def tw7078079316155565655:=()
def tw7082487247737423443:=()
def tw7084490785478873651:=()
def tw710672807808512306:=()
def tw7133726833070459543:=()
def tw7146495347094647898:=()
def tw719275836884088149:=()
def tw722133648442003574:=()
def tw7247266256203574132:=()
def tw7255340270451123646:=()
def tw7290546705613033870:=()
def tw7316845584479816128:=()
def tw7352363630899554157:=()
def tw7363523840880650214:=()
def tw7372361247108715136:=()
def tw7384410377559318005:=()
def tw7401285580329849692:=()
def tw7402795401616119719:=()
def tw7414852319385652319:=()
def tw7457193301385907925:=()
def tw7474964962018767726:=()
def tw7519941267574492939:=()
def tw7521744970677247452:=()
def tw7531777449810984339:=()
def tw7562011525488299583:=()
def tw7603953437019742625:=()
def tw7613028454375627584:=()
def tw7620566510461130596:=()
def tw7627965733902164829:=()
def tw7639821845008812844:=()
def tw7678267347446813973:=()
def tw7709585522361525029:=()
def tw7726797515060354162:=()
def tw7735097094223740251:=()
def tw7760168321867330382:=()
def tw7760567831911085509:=()
def tw7762324036105628425:=()
def tw7765646909030903163:=()
def tw7767509769554660243:=()
def tw7774222960780364136:=()
def tw7777182649293800826:=()
def tw7809717065742549140:=()
def tw7818612164449882195:=()
def tw7866805902104814221:=()
def tw7873340671206449431:=()
def tw7892538815238581237:=()
def tw7902051398266999762:=()
def tw7932898691950758868:=()
def tw7942484989496368278:=()
def tw795599959734008291:=()
def tw798135900012763016:=()
def tw7991963159239287226:=()
def tw8005308263190002740:=()
def tw8011185505623883110:=()
def tw8015878782483817347:=()
def tw8020968485544846417:=()
def tw8032439794097237382:=()
def tw804452098803365051:=()
def tw8085578079664770873:=()
def tw8090411484116174386:=()
def tw8097498581505145212:=()
def tw8101692580693225670:=()
def tw812161468220961346:=()
def tw8131579273729020970:=()
def tw8152851695807000880:=()
def tw8159486788851025072:=()
def tw8164374528669910656:=()
def tw8168540270997533496:=()
def tw8169643559596723113:=()
def tw8190565459334002959:=()
def tw8259620391854075854:=()
def tw828669883916984143:=()
def tw8318590953662335172:=()
def tw8345788370350424705:=()
def tw8355628868050641775:=()
def tw8365923200569355143:=()
def tw8369537649618653053:=()
def tw8405007495816887714:=()
def tw8426069447329685885:=()
def tw8450038756908697868:=()
def tw8484301029910222888:=()
def tw8486615810029486407:=()
def tw8510605519576133186:=()
def tw8535091560006661461:=()
def tw8544301929962149665:=()
def tw8556089554934510868:=()
def tw8563463329951909766:=()
def tw8569972614509571836:=()
def tw8590371904578463496:=()
def tw8604741055284496161:=()
def tw8633701256482921845:=()
def tw8649115704274254381:=()
def tw8657338277888544754:=()
def tw8702174571848582952:=()
def tw8723659333291379461:=()
def tw8736578280159943719:=()
def tw878316266745280873:=()
def tw8805840582690652290:=()
def tw8845892796303462830:=()
def tw884862971907703222:=()
def tw8865663720458182971:=()
def tw891120147277425288:=()
def tw8923121737790771812:=()
def tw8924830382262271001:=()
def tw8940062470448051042:=()
def tw8951896549812952916:=()
def tw8977196830598447193:=()
def tw8982894045906652461:=()
def tw8985472640206440075:=()
def tw900054577815925831:=()
def tw901373868568589731:=()
def tw9034629075376965664:=()
def tw9037896450880236080:=()
def tw9053843615614419719:=()
def tw9117612729555902759:=()
def tw913009361820955847:=()
def tw914415419332377831:=()
def tw9173547773526625365:=()
def tw9187245651425004696:=()
def tw9188916341336801020:=()
def tw9190773895088491464:=()
def tw9226626468704868598:=()
def tw9251820569160525581:=()
def tw9258801245559652172:=()
def tw9265531291029385421:=()
def tw9286322757411290341:=()
def tw9286509576050576747:=()
def tw9291036927960431250:=()
def tw9295858017598553397:=()
def tw9300499728407727640:=()
def tw931742294729388777:=()
def tw9320637857137218955:=()
def tw9388759679817053835:=()
def tw9391535827779989063:=()
def tw943192955906037374:=()
def tw9435126477957399039:=()
def tw9443926225986262475:=()
def tw947160591604460284:=()
def tw9485096609065795434:=()
def tw9489929590661668745:=()
def tw9495178487202842594:=()
def tw952073702972422630:=()
def tw9530187527069728048:=()
def tw9536369588492491391:=()
def tw9537116507917047046:=()
def tw954728856022991477:=()
def tw9550781865761598400:=()
def tw9561562570045017960:=()
def tw9574606257672575642:=()
def tw9582007404234416764:=()
def tw9615974744797802689:=()
def tw9625750487959614859:=()
def tw9632317713444036929:=()
def tw963353614342963541:=()
def tw965537613842826863:=()
def tw9660470142602947156:=()
def tw967687934043762776:=()
def tw9693709055691988775:=()
def tw9704913619926173117:=()
def tw9712362055156599047:=()
def tw9715544920647416258:=()
def tw972136976393039806:=()
def tw972819831878535176:=()
def tw9736031887685914735:=()
def tw9741255369584892519:=()
def tw9774746383083161804:=()
def tw9855647242587750169:=()
def tw9907001200638025612:=()
def tw9919750046374961034:=()
def tw9923829559981119880:=()
def tw993168396316555192:=()
def tw9945348145394807620:=()
def tw9997656904697633013:=()
def tw9998140581633117402:=()
end PySem.W.Fast
set_option tactic.hygienic true
open PySem PySem.W PyProof.Rows
set_option maxRecDepth 100000 in
set_option maxHeartbeats 0 in
theorem PySem.Challenge.cw_wantway_k80_no_sheets_holds : PySem.Challenge.rw_wantway_k80_no_sheets.Holds := by
  w_on; o_law; k_head; (case hw => w_witness2)
  k_fill
  refine K4.goes (l := PySem.Challenge.rw_wantway_k80_no_sheets) rfl rfl (fun w h Y => PySem.W.kIn_of Y) ?F
  case F =>
    intro w mg fa h KX G hmg
    refine' K4.all_at KX G hmg ?_ ?_ ?_ ?_ ?_ ?_ ?_ ?_ ?_ ?_ ?_ ?_ ?_ ?_ ?_ ?_ ?_ ?_ ?_ ?_ ?_ ?_ ?_ ?_ ?_ ?_ ?_ ?_ ?_ ?_ ?_ ?_ ?_ ?_ ?_ ?_ ?_ ?_ ?_ ?_ ?_ ?_ ?_ ?_ ?_ ?_ ?_ ?_ ?_ ?_ ?_ ?_ ?_ ?_ ?_ ?_ ?_ ?_ ?_ ?_ ?_ ?_ ?_ ?_ ?_ ?_ ?_ ?_ ?_ ?_ ?_ ?_ ?_ ?_ ?_ ?_ ?_ ?_ ?_ ?_ ?_ ?_ ?_ ?_ ?_ ?_ ?_ ?_ ?_ ?_ ?_ ?_ ?_ ?_ ?_ ?_ ?_ ?_ ?_ ?_ ?_ ?_ ?_ ?_ ?_ ?_ ?_ ?_ ?_ ?_ ?_ ?_ ?_ ?_ ?_ ?_ ?_ ?_ ?_ ?_ ?_ ?_ ?_ ?_ ?_ ?_ ?_ ?_ ?_ ?_ ?_ ?_ ?_ ?_ ?_ ?_ ?_ ?_ ?_ ?_ ?_ ?_ ?_ ?_ ?_ ?_ ?_ ?_ ?_ ?_ ?_ ?_ ?_ ?_ ?_
    any_goals first | k_is | (refine' And.intro ?zz0 (K4.At.of ?zz1 ?zz2 ?zz3); (case zz0 => first | k_is | (constructor <;> k_is)); (case zz1 => k_is); (case zz2 => k_is); (case zz3 => k_is)) | (unfold K4.GN; k_is) | (unfold K4.GC; k_is) | (unfold K4.GF; k_is) | (refine' And.intro ?zz0 ?zz1; (case zz0 => k_is); (case zz1 => exact ⟨_, rfl⟩)) | kit_is | k_exc | (refine K4.CA.mk ?_ ?_ ?_ ?_ ?_ ?_ <;> k_is) | (refine And.intro ⟨_, _, rfl, rfl⟩ ?_; k_keys) | kernel_rfl
