import PyProof.Rows.All
import Wide.All
import OpenK.AllK
import Wide.FinOn
import KE.KDictList
import KE.KDictOf
import KE.KItemsList
import KE.KRevSl
import KE.KSortTup
import KE.LcSums
import Lean
import PyProof.AttrMissSeq
import PyProof.AutoSeq1
import PyProof.DictRoadsH
import PyProof.DictWalks
import PyProof.EnumStmt
import PyProof.EqAt
import PyProof.EqKinds
import PyProof.ExcInit
import PyProof.FactsAll.tuple
import PyProof.FactsAll.zip_1
import PyProof.ListMulRoad
import PyProof.ListOps
import PyProof.ListRange
import PyProof.NeKinds
import PyProof.Rows.SumGenD
import PyProof.SeqRoads2
import PyProof.StrWalks
import PyProof.SumWalk
import PyProof.TupleCall
import PyProof.TupleOfGen
import PyProof.WalksMore
import PyProof.ZipIter
import PySem.Challenge.RW_wantway_k59_far_down
set_option Elab.async false
set_option linter.all false
set_option maxRecDepth 100000
set_option maxHeartbeats 8000000
set_option tactic.hygienic false
section
local macro_rules|`(tactic|exists $es,*)=>`(tactic|refine ⟨$es,*, ?_⟩)
theorem Y{α:Sort u}{a:α}:a=a:=rfl
abbrev vb:=@List.getElem?_append_right
abbrev vc:=@List.length_singleton
abbrev vd:=@List.getElem?_append_left
abbrev ve:=@List.getD_eq_getElem?_getD
abbrev vf:=@List.dropLast_concat_getLast
abbrev vg:=@List.eq_nil_of_length_eq_zero
abbrev vi:=@List.map_map
abbrev vj:=@Nat.lt_succ_self
abbrev vk:=@Nat.sub_self
abbrev vm:=@List.mem_append_left
abbrev vo:=@List.length_range
abbrev vp:=@List.mem_iff_getElem?
abbrev vq:=@PySem.wpAny_setField_rec
abbrev vt:=@List.mem_of_find?_eq_some
abbrev vv:=@List.lookup_cons
abbrev vw:=@Nat.lt_irrefl
abbrev vx:=@PySem.W.mg_none_of
abbrev vy:=@PySem.wpAny_truthy_bool
abbrev vz:=@PySem.wpAny_call_entry
abbrev vU:=@List.find?_cons
abbrev vV:=@Nat.succ_le_succ
abbrev vW:=@PySem.wpAny_seqItems
abbrev vX:=@List.nodup_append
abbrev vY:=@Nat.mod_lt
abbrev vZ:=@List.mem_iff_getElem
abbrev ja:=@PyProof.Rows.callWith_type1
abbrev jb:=@List.getElem?_range
abbrev jc:=@List.pairwise_iff_getElem
abbrev jd:=@PySem.Heap.size_push
abbrev je:=@Nat.le_add_right
abbrev jf:=@List.length_dropLast
abbrev jg:=@Nat.le_succ_of_le
abbrev jh:=@Nat.le_of_succ_le
abbrev ji:=@Nat.min_eq_left
abbrev jj:=@List.any_cons
abbrev jk:=@Int.emod_lt_of_pos
abbrev jm:=@PySem.wpAny_standAt
abbrev jo:=@List.range_succ
abbrev jp:=@Nat.ne_of_gt
abbrev jq:=@List.take_sublist
abbrev jr:=@Nat.lt_or_ge
abbrev js:=@PySem.mem_of_lookup
abbrev jt:=@PySem.F.slot_zip_next
abbrev ju:=@List.getElem?_replicate
abbrev jw:=@PySem.wpAny_newObj_type
abbrev jx:=@Nat.le_max_right
abbrev jy:=@Bool.false_eq_true
abbrev jz:=@Bool.eq_iff_iff
abbrev jA:=@List.forIn_cons
abbrev jB:=@Nat.le_max_left
abbrev jC:=@Int.emod_nonneg
abbrev jD:=@List.mem_range
abbrev jE:=@PySem.wpAny_passesOwn
abbrev jF:=@Nat.le_of_eq
abbrev jG:=@Nat.le_of_not_lt
abbrev jH:=@List.not_mem_nil
abbrev jI:=@Nat.succ_mul
abbrev jJ:=@List.getElem_map
abbrev jK:=@List.mem_map_of_mem
abbrev jL:=@List.nodup_cons
abbrev jM:=@PySem.W.kia_one
abbrev jN:=@List.zip_cons_cons
abbrev jO:=@Int.eq_ofNat_of_zero_le
abbrev jP:=@Int.toNat_natCast
abbrev jQ:=@List.map_nil
abbrev jR:=@Option.isSome_map
abbrev jS:=@List.append_assoc
abbrev jT:=@Bool.not_eq_true'
abbrev jU:=@Nat.lt_succ_of_le
abbrev jV:=@PySem.wpAny_specialOf
abbrev jW:=@PySem.wpAny_Call_Name_kw
abbrev jX:=@PySem.tupleKind_room_in1
abbrev jY:=@PySem.wpAny_rule
abbrev jZ:=@List.getElem?_eq_none
abbrev j0:=@List.length_drop
abbrev j3:=@List.map_take
abbrev j5:=@List.append_nil
abbrev j6:=@List.foldl_cons
abbrev j7:=@PySem.F.slot_enumerate_next
abbrev j8:=@List.map_congr_left
abbrev j9:=@PySem.wpAny_isInstance
abbrev qa:=@PySem.wpAny_attempt
abbrev qb:=@List.nodup_nil
abbrev qc:=@Nat.lt_of_le_of_lt
abbrev qd:=@List.forIn_nil
abbrev qe:=@List.find?_eq_none
abbrev qf:=@Array.forIn_toList
abbrev qg:=@List.getElem?_eq_none_iff
abbrev qh:=@Nat.le_succ
abbrev qi:=@List.foldl_append
abbrev qj:=@Option.isSome_iff_exists
abbrev qk:=@PySem.F.args_tuple_add_2
abbrev ql:=@PySem.F.entry_tuple_add
abbrev qm:=@Nat.mod_eq_of_lt
abbrev qr:=@List.any_eq_true
abbrev qu:=@Int.natCast_emod
abbrev qv:=@PySem.F.slot_tuple_add
abbrev qw:=@PySem.wpAny_pyIter_list
abbrev qx:=@Option.map_some
abbrev qy:=@List.length_nil
abbrev qz:=@PySem.F.args_zip_next_1
abbrev qA:=@PySem.F.slot_dict_get
abbrev qB:=@List.take_append_drop
abbrev qC:=@List.getElem?_set_ne
abbrev qD:=@PySem.wpAny_list_append_plain
abbrev qF:=@PySem.F.entry_zip_next
abbrev qG:=@List.mem_of_mem_drop
abbrev qH:=@List.take_zero
abbrev qI:=@Nat.mul_le_mul_right
abbrev qJ:=@List.filterMap_cons
abbrev qK:=@Array.length_toList
abbrev qL:=@PySem.codeAny_mono
abbrev qM:=@PySem.W.callWith_K
abbrev qN:=@PySem.wpAny_typeOf
abbrev qO:=@Nat.add_sub_cancel'
abbrev qP:=@List.length_reverse
abbrev qQ:=@PySem.wpAny_execs_nil
abbrev qR:=@List.all_cons
abbrev qS:=@PySem.codeAny_builtin
abbrev qT:=@Nat.add_assoc
abbrev qU:=@Bool.not_true
abbrev qV:=@List.getElem?_drop
abbrev qW:=@List.getElem?_take
abbrev qX:=@List.filter_append
abbrev qY:=@Nat.lt_of_le_of_ne
abbrev qZ:=@List.any_eq_false
abbrev kq:=@Nat.lt_trans
abbrev ky:=@PySem.wpAny_updateSeq_pair
abbrev kz:=@List.pairwise_map
abbrev kB:=@List.flatMap_cons
abbrev kC:=@Bool.eq_false_iff
abbrev kD:=@Nat.lt_trichotomy
abbrev kE:=@List.ext_getElem?
abbrev kF:=@PyProof.Rows.slot_tuple_getitem
abbrev kH:=@List.take_length
abbrev kI:=@Nat.succ_ne_self
abbrev kJ:=@List.mem_nil_iff
abbrev kL:=@List.getLast_mem
abbrev ZA:=@List.length_map
abbrev ZD:=@List.getElem?_eq_getElem
abbrev ZE:=@PySem.Heap.get?_push_of_some
abbrev ZF:=@List.getElem?_eq_some_iff
abbrev ZG:=@Nat.le_refl
abbrev ZH:=@List.getElem?_map
abbrev ZJ:=@List.mem_of_getElem?
abbrev ZK:=@List.map_append
abbrev ZL:=@List.length_append
abbrev ZM:=@List.mem_cons_of_mem
abbrev ZN:=@List.length_take
abbrev ZO:=@List.size_toArray
abbrev ZP:=@PySem.Heap.lt_size
abbrev ZQ:=@List.mem_singleton
abbrev ZT:=@Option.some.inj
abbrev ZU:=@List.mem_append_right
abbrev ZV:=@List.map_cons
abbrev ZW:=@List.mem_map
abbrev ZX:=@List.mem_append
abbrev ZY:=@PySem.Heap.get?_push_size
abbrev ZZ:=@Bool.and_eq_true
abbrev Za:=@List.mem_cons_self
abbrev Zb:=@Nat.le_trans
abbrev Zc:=@Nat.zero_le
abbrev Zd:=@List.mem_cons
abbrev Ze:=@Nat.ne_of_lt
abbrev Zf:=@List.length_cons
abbrev Zg:=@List.take_of_length_le
abbrev Zh:=@Nat.le_of_lt
abbrev Zi:=@Bool.false_ne_true
abbrev Zj:=@Option.map_eq_some_iff
abbrev Zk:=@List.mem_of_mem_take
abbrev Zl:=@PySem.wpAny_bind
abbrev Zm:=@PySem.wpAny_pure
abbrev Zn:=@PySem.wpAny_mono
abbrev Zo:=@PySem.wpAny_field
abbrev Zp:=@if_pos
abbrev Zq:=@if_neg
abbrev Zr:=@absurd
abbrev Zs:=@Ne.symm
abbrev Zt:=@of_decide_eq_true
abbrev Zu:=@PySem.boot_len
abbrev Zv:=@PySem.PassesOwn.never
abbrev Zw:=@Nat.not_lt_zero
abbrev Zx:=@Nat.lt_of_lt_of_le
abbrev Zy:=@decide_eq_false
abbrev Zz:=@PySem.F.plainAttrs_list
abbrev Z0:=@PySem.F.slot_list_append
abbrev Z1:=@PySem.F.type_list_append
local macro_rules|`(tactic|omega)=>`(tactic|lia)
namespace L2
open PySem PySem.Spec PyProof.Rows
def sl(n:Nat)(h:n<=sizeLine:=by decide):n<=sizeLine:=h
abbrev Key:=Sum Int Str
abbrev pB:=List Expr
abbrev px:=List (List Int)
abbrev pj:=Str->Nat
abbrev kX:=Array Value
abbrev kW:=Option Addr
abbrev kU:=List Addr
abbrev kT:=List Int
abbrev kS:=Option Int
abbrev kQ:=List Str
abbrev kP:=List Value
abbrev kO:=Value->Shared->Prop
abbrev kM:=List (Addr×Obj)
def JC:Key->Value->Bool
 |.inl k,v=>Value.isInt k v
 |.inr x,v=>Value.isStrOf x v
def zO(w:World):Key->Int
 |.inl k=>hashInt k
 |.inr x=>hashStr w x
theorem VQ:∀{k:Key}{v:Value},JC k v=true->(∃i t,k=Sum.inl i/\v=Value.int i t)\/(∃x t,k=Sum.inr x/\v=Value.str x t)
 |.inl i,v,h=>by
  obtain⟨t,e⟩:=Value.isInt_shape (k:=i) (v:=v) h;exact .inl ⟨i,t,Y,e⟩
 |.inr x,v,h=>by
  obtain⟨t,e⟩:=Value.isStrOf_shape (x:=x) (v:=v) h;exact .inr ⟨x,t,Y,e⟩
def RF(i:Int)(t:Tok):JC (.inl i) (.int i t)=true:=by simp[JC,Value.isInt]
def Wq(x:Str)(t:Tok):JC (.inr x) (.str x t)=true:=by simp[JC,Value.isStrOf]
def Ad(a b:Int):decide ((Sum.inl a:Key)=Sum.inl b)=(a==b):=by
 by_cases e:a=b
 .subst e;simp
 .have h:¬(Sum.inl a:Key)=Sum.inl b:=λq=>e<|Sum.inl.inj q
  rw[Zy h];exact(beq_eq_false_iff_ne.mpr e).symm
def Aa(a b:Str):decide ((Sum.inr a:Key)=Sum.inr b)=decide (a=b):=by
 by_cases e:a=b
 .subst e;simp
 .have h:¬(Sum.inr a:Key)=Sum.inr b:=λq=>e<|Sum.inr.inj q
  rw[Zy h,Zy e]
def Ac(a:Int)(b:Str):decide ((Sum.inl a:Key)=Sum.inr b)=false:=Zy λq=>nomatch q
def Ab(a:Str)(b:Int):decide ((Sum.inr a:Key)=Sum.inl b)=false:=Zy λq=>nomatch q
def VD(prog:Program)(w:World):PySem.KeyKind prog w Key where
 is:=JC
 hash:=zO w
 inj:=λv a b M G=>by
  rcases VQ M with⟨i,t,rfl,rfl⟩|⟨x,t,rfl,rfl⟩
  .rcases VQ G with⟨j,u,rfl,e⟩|⟨y,u,rfl,e⟩
   .injection e with Z _;rw[Z]
   .exact nomatch e
  .rcases VQ G with⟨j,u,rfl,e⟩|⟨y,u,rfl,e⟩
   .exact nomatch e
   .injection e with Z _;rw[Z]
 byValue:=λk v h=>by
  rcases VQ h with⟨i,t,rfl,rfl⟩|⟨x,t,rfl,rfl⟩ <;> rfl
 pyHash:=λJ h=>by
  rcases VQ J with⟨i,t,rfl,rfl⟩|⟨x,t,rfl,rfl⟩
  .exact wpAny_pyHash_int h
  .exact wpAny_pyHash_str h
 eqBool:=λL J h=>by
  rcases VQ L with⟨i,t,rfl,rfl⟩|⟨x,t,rfl,rfl⟩
  .rcases VQ J with⟨j,u,rfl,rfl⟩|⟨y,u,rfl,rfl⟩
   .rw [Ad]at h;exact wpAny_eqBool_int h
   .rw [Ac]at h;exact SeqAt.EqAt.int_str i t y u _ _ _ _ h
  .rcases VQ J with⟨j,u,rfl,rfl⟩|⟨y,u,rfl,rfl⟩
   .rw [Ab]at h;exact SeqAt.EqAt.str_int x t j u _ _ _ _ h
   .rw [Aa]at h;exact wpAny_eqBool_str h
 «strs»:=λk x t v h=>by
  rcases VQ h with⟨i,u,rfl,e⟩|⟨y,u,rfl,e⟩
  .exact nomatch e
  .injection e with Z _
   subst Z;cases v <;> rfl
def NT(Z:Program)(w:World)(i:Int)(t:Tok):(VD Z w).is (.inl i) (.int i t)=true:=RF i t
def NS(Z:Program)(w:World)(x:Str)(t:Tok):(VD Z w).is (.inr x) (.str x t)=true:=Wq x t
inductive V where
 |non|bl (b:Bool)|int (i:Int)|str (x:Str)|byt (b:Array UInt8)|flt (b:UInt64)|ref (a:Addr)|ty (n:String)
 deriving DecidableEq
abbrev pf:=Option V
abbrev kZ:=List V
abbrev kY:=List (Key×V)
def RelV:V->Value->Prop
 |.non,u=>u=Value.none
 |.bl b,u=>u=Value.bool b
 |.int i,u=>∃t,u=Value.int i t
 |.str x,u=>∃t,u=Value.str x t
 |.byt b,u=>∃t,u=Value.bytes b t
 |.flt b,u=>∃t,u=Value.float b t
 |.ref a,u=>u=Value.ref a
 |.ty n,u=>u=Value.type n
abbrev Vals:List V->List Value->Prop:=Paired RelV
def Vals.length(r:Vals Z J):Z.length=J.length:=Paired.length r
theorem Vals.get:∀{Z:kZ}{J:kP}{i:Nat}{x:V},Vals Z J->Z[i]?=some x->∃u,J[i]?=some u/\RelV x u
 |_,_,_,_,.nil,e=>by simp at e
 |_,_,0,_,.cons r _,e=>by simp at e;subst e;exact⟨_,Y,r⟩
 |_,_,i+1,x,.cons _ t,e=>by
  obtain⟨u,L,G⟩:=Vals.get (i:=i) (x:=x) t (by simpa using e);exact⟨u,by simpa using L,G⟩
theorem Vals.set(r:RelV x u):∀{Z:kZ}{J:kP}(i:Nat),Vals Z J->Vals (Z.set i x) (J.set i u)
 |_,_,_,.nil=>.nil
 |_,_,0,.cons _ t=>.cons r t
 |_,_,i+1,.cons q t=>.cons q<|Vals.set r i t
theorem Vals.append:∀{J Z:kZ}{L G:kP},Vals J L->Vals Z G->Vals (J++ Z) (L++ G)
 |_,_,_,_,.nil,s=>s
 |_,_,_,_,.cons r t,s=>.cons r<|Vals.append t s
theorem Vals.take:∀{Z:kZ}{J:kP}(n:Nat),Vals Z J->Vals (Z.take n) (J.take n)
 |_,_,0,_=>.nil
 |_,_,_+1,.nil=>.nil
 |_,_,n+1,.cons r t=>.cons r<|Vals.take n t
theorem Vals.drop:∀{Z:kZ}{J:kP}(n:Nat),Vals Z J->Vals (Z.drop n) (J.drop n)
 |_,_,0,r=>r
 |_,_,_+1,.nil=>.nil
 |_,_,n+1,.cons _ t=>Vals.drop n t
def UX:Option V->Option Value->Prop
 |some v,some u=>RelV v u
 |none,none=>True
 |_,_=>False
def KV{κ:Type}:List (κ×V)->List (κ×Value)->Prop:=Paired λ(p:κ×V)(q:κ×Value)=>p.1=q.1/\RelV p.2 q.2
def kV:Key->V
 |.inl i=>.int i
 |.inr x=>.str x
inductive HO where
 /-- a list -/
 |lst (xs:List V)
 /-- a tuple (never changes) -/
 |tup (xs:List V)
 /-- a dict whose keys are ints and texts;one whose keys are tuples of ints and texts (the empty one is both) -/
 |dK (kvs:List (Key×V))|dT (kvs:List (List Key×V))
 /-- a set of ints:its members,its size -/
 |set (S:Int->Bool) (n:Nat)
 /-- an instance of the class at C,its dict at dx,its attributes -/
 |ins (C dx:Addr) (fs:List (Str×V))
 /-- the dict of the instance at x -/
 |own (x:Addr)
 /-- the dict of an exception -/
 |xd (fs:List (Str×V))
 /-- a bound method,f of x -/
 |met (f x:Addr)
 /-- a range object lo,lo+1,.. below hi -/
 |rng (lo hi:Int)
 /-- a thing that is known to the object (the script;a dict while a loop walks it):read,never written while it is so -/
 |frz (o:Obj) (u:HO)
 /-- a code object's table -/
 |tbl (ps:Array Value)
 /-- any other thing,by what is true of its one object (a def of one's own:SetO a S n:=HO.ext λh=>..) -/
 |ext (φ:Heap->Prop)
abbrev Hp:=Addr->Option HO
def upd(H:Hp)(a:Addr)(o:HO):Hp:=λb=>if b=a then some o else H b
def Yf:upd H a o a=some o:=by unfold upd;rw[Zp rfl]
def Yg(h:b≠a):upd H a o b=H b:=by unfold upd;rw[Zq h]
def Jh{H:Hp}(h:H a=some o)(Z:H b=some u)(d:o≠u):a≠b:=by
 intro e;subst e;rw[h]at Z;exact d<|ZT Z
def Yb{H:Hp}(h:H a=some o)(Z:H b=none):a≠b:=by
 intro e;subst e;rw[h]at Z;cases Z
def W8(h:Heap)(a:Addr)(items:kX):Prop:=∃o,h.get? a=some o/\o.dict=none/\o.cls=.type "tuple" /\∃n,o.data=.seq items n
def W8.is(x:W8 h a items):IsTup h a items:=let⟨o,G,_,J,Z⟩:=x;⟨o,G,J,Z⟩
def W8.keeps(x:W8 h a items)(J:∀b o,h.get? b=some o->G.get? b=some o):W8 G a items:=let⟨o,Z,r⟩:=x;⟨o,J a o Z,r⟩
def W8.new(h:Heap)(items:kX):W8 (h.push {cls:=.type "tuple",data:=.seq items}) h.objs.size items:=⟨_,ZY _ rfl,rfl,rfl,_,rfl⟩
section
variable(P:Program)(w:World)
def VS(H:Hp)(h:Heap)(a:Addr):HO->Prop
 |.lst xs=>xs.length<=sizeLine/\∃(its:kP)(n:Nat),Vals xs its/\h.get? a=some {cls:=.type "list",data:=.seq its.toArray n}
 |.tup xs=>xs.length<=sizeLine/\∃its:kP,Vals xs its/\W8 h a its.toArray
 |.dK kvs=>kvs.length<=sizeLine/\(a==sysModules)=false/\∃vs,KV kvs vs/\h.DictOf (VD P w) a vs
 |.dT kvs=>kvs.length<=sizeLine/\(a==sysModules)=false/\∃xs:List (List Key×Addr×Value),
   Paired (λ(p:List Key×V)(q:List Key×Addr×Value)=>p.1=q.1/\H q.2.1=some (.tup<|p.1.map kV)/\RelV p.2 q.2.2) kvs xs/\
   ∃o es ep,h.get? a=some o/\o.ExactDict/\o.data=.dict es ep/\es.toList=xs.map (entryOfKey<|tupleKind<|VD P w)/\(xs.map (·.1)).Nodup
 |.set S n=>h.SetOf (intKind P w) a S n
 |.ins C dx fs=>H dx=some (.own a)/\fs.length<=1000/\dx≠a/\h.get? a=some (W.instObj C dx)/\
   ∃mA,h.Ns1 dx mA/\(∀f,UX (fs.lookup f)<|mA f)/\PySem.Within mA (fs.map (·.1))
 |.own _=>∃o,h.get? a=some o
 |.xd fs=>∃mA,h.Ns1 a mA/\∀f,UX (fs.lookup f)<|mA f
 |.rng lo hi=>∃t u v,h.get? a=some {cls:=.type "range",data:=.fields #[.int lo t,.int hi u,.int 1 v]}
 |.frz o u=>h.get? a=some o/\VS H h a u
 |.tbl ps=>h.get? a=some {cls:=.none,data:=.fields ps}
 |.met f x=>h.get? a=some (W.methodObj (.ref f)<|.ref x)
 |.ext φ=>φ h/\(∃o,h.get? a=some o)/\∀h1 h2:Heap,φ h1->(∀o,h1.get? a=some o->h2.get? a=some o)->φ h2
def HOk(H:Hp)(h:Heap):Prop:=∀a o,H a=some o->VS P w H h a o
end
section
def VS.lt(x:VS P w H h a o):a<h.objs.size:=by
 cases o with
 |lst J=>obtain⟨_,_,_,_,e⟩:=x;exact ZP e
 |tup J=>obtain⟨_,_,_,p⟩:=x;exact p.is.lt
 |dK Z=>obtain⟨_,_,_,_,o,_,_,e,_⟩:=x;exact ZP e
 |dT Z=>obtain⟨_,_,_,_,o,_,_,e,_⟩:=x;exact ZP e
 |set S n=>obtain⟨o,_,_,_,e,_⟩:=x;exact ZP e
 |ins C R G=>obtain⟨_,_,_,e,_⟩:=x;exact ZP e
 |own y=>obtain⟨_,e⟩:=x;exact ZP e
 |xd G=>obtain⟨_,⟨_,_,_,e,_⟩,_⟩:=x;exact ZP e
 |rng N O=>obtain⟨_,_,_,e⟩:=x;exact ZP e
 |frz M u=>obtain⟨e,_⟩:=x;exact ZP e
 |tbl L=>exact ZP (show h.get? a=some _ from x)
 |met f y=>exact ZP (show h.get? a=some _ from x)
 |ext φ=>obtain⟨_,⟨_,e⟩,_⟩:=x;exact ZP e
theorem Paired.mapP:∀{J:List α}{Z:List β},Paired F J Z->(∀a b,F a b->G a b)->Paired G J Z
 |_,_,.nil,_=>.nil
 |_,_,.cons r t,f=>.cons (f _ _ r)<|Paired.mapP t f
def VS.stay(x:VS P w H h a o)(k:∀b u,(b=a\/H b=some (.own a))->h.get? b=some u->T.get? b=some u)(I:∀b,H b=some (.own a)->D b=some (.own a))(A:∀b M,H b=some (.tup M)->D b=some (.tup M)):VS P w D T a o:=by
 induction o with
 |lst M=>obtain⟨z,L,n,r,e⟩:=x;exact⟨z,L,n,r,k _ _ (.inl Y) e⟩
 |tup M=>obtain⟨z,L,r,Z,e,c⟩:=x;exact⟨z,L,r,Z,k _ _ (.inl Y) e,c⟩
 |dK R=>obtain⟨z,y,E,r,Z,J,G,e,c⟩:=x;exact⟨z,y,E,r,Z,J,G,k _ _ (.inl Y) e,c⟩
 |dT R=>
  obtain⟨z,y,M,r,Z,J,G,e,c⟩:=x;exact⟨z,y,M,Paired.mapP r λp q z=>⟨z.1,A _ _ z.2.1,z.2.2⟩,Z,J,G,k _ _ (.inl Y) e,c⟩
 |set S n=>obtain⟨Z,J,G,t,e,c⟩:=x;exact⟨Z,J,G,t,k _ _ (.inl Y) e,c⟩
 |ins C m U=>
  obtain⟨d,z,F,e,O,⟨N,J,G,X,c⟩,r⟩:=x;exact⟨I _ d,z,F,k _ _ (.inl Y) e,O,⟨N,J,G,k _ _ (.inr d) X,c⟩,r⟩
 |own y=>obtain⟨Z,e⟩:=x;exact⟨Z,k _ _ (.inl Y) e⟩
 |xd U=>obtain⟨O,⟨N,J,G,e,c⟩,r⟩:=x;exact⟨O,⟨N,J,G,k _ _ (.inl Y) e,c⟩,r⟩
 |rng Q j=>obtain⟨t,u,v,e⟩:=x;exact⟨t,u,v,k _ _ (.inl Y) e⟩
 |frz Z u ih=>obtain⟨e,q⟩:=x;exact⟨k _ _ (.inl Y) e,ih q⟩
 |tbl B=>
  have e:h.get? a=some {cls:=.none,data:=.fields B}:=x;show T.get? a=some {cls:=.none,data:=.fields B};exact k a _ (.inl Y) e
 |met f y=>
  have e:h.get? a=some (W.methodObj (.ref f)<|.ref y):=x;show T.get? a=some (W.methodObj (.ref f)<|.ref y);exact k a _ (.inl Y) e
 |ext φ=>obtain⟨p,⟨o,e⟩,st⟩:=x;exact⟨st _ _ p λo q=>k _ _ (.inl Y) q,⟨o,k _ _ (.inl Y) e⟩,st⟩
def HOk.lt(x:HOk P w H h)(e:H a=some o):a<h.objs.size:=(x a o e).lt
def HOk.fresh(x:HOk P w H h)(e:h.objs.size<=a):H a=none:=by
 cases q:H a with
 |none=>rfl
 |some u=>exact Zr (Zx (x.lt q) e)<|vw _
def HOk.kept(x:HOk P w H h)(k:∀b u,h.get? b=some u->Z.get? b=some u):HOk P w H Z:=λa o e=>
 (x a o e).stay (λb u _ q=>k b u q) (λ_ q=>q) λ_ _ q=>q
def HOk.laid(x:HOk P w H h)(k:∀b u,h.get? b=some u->h'.get? b=some u)(J:h.objs.size<=a)(new:VS P w (upd H a o) h' a o):HOk P w (upd H a o) h':=λb u e=>by
 have Z:=x.fresh J
 by_cases hb:b=a
 .subst hb;rw[Yf]at e;cases e;exact new
 .rw [Yg hb]at e
  exact(x b u e).stay (λc v _ q=>k c v q) (λc q=>by rw[Yg (Yb q Z)];exact q) λc G q=>by rw[Yg (Yb q Z)];exact q
end
def Rd(H:Hp)(a:Addr)(u:HO):Prop:=H a=some u \/ ∃o,H a=some (.frz o u)
def Rd.ok(r:Rd H a u)(x:HOk P w H h):VS P w H h a u:=by
 rcases r with r|⟨o,r⟩
 .exact x a u r
 .obtain ⟨_,q⟩:=x a _ r
  exact q
def Mut:Option HO->Prop
 |some (.lst _)=>True
 |some (.dK _)=>True
 |some (.dT _)=>True
 |some (.set _ _)=>True
 |some (.ins _ _ _)=>True
 |some (.ext _)=>True
 |_=>False
section
def HOk.write(T:HOk P w H h)(L:Mut (H x))(R:e=x\/H e=some (.own x))(k:∀b u,b≠e->h.get? b=some u->O.get? b=some u)(N:∃u,O.get? e=some u)(new:VS P w (upd H x o') O x o'):HOk P w (upd H x o') O:=λb u q=>by
 have Z:∀c y,H c=some (.own y)->c≠x:=λc y r z=>by subst z;rw[r]at L;exact L
 have J:∀c G,H c=some (.tup G)->c≠x:=λc G r z=>by subst z;rw[r]at L;exact L
 by_cases hb:b=x
 .subst hb;rw[Yf]at q;cases q;exact new
 .rw [Yg hb]at q
  by_cases hbe:b=e
  .have q':H b=some (.own x):=by
    rcases R with z|z
    .exact Zr (hbe.trans z) hb
    .rw [hbe];exact z
   rw[q]at q';cases q';obtain⟨v,B⟩:=N;exact⟨v,by rw[hbe];exact B⟩
  .refine (T b u q).stay (λc v M r=>k c v ?_ r) (λc r=>by rw[Yg (Z c b r)];exact r) λc G r=>by rw[Yg (J c G r)];exact r
   rcases M with rfl|M
   .exact hbe
   .rintro rfl
    rcases R with z|z
    .exact Z c b M z
    .rw [M]at z;cases z;exact hb Y
end
structure Un(fs ex:List Addr)(H H':Hp)(h h':Heap):Prop where
 keep:∀b o,h.get? b=some o->H b=none->b∉fs->b∉ex->h'.get? b=some o
 slot:∀b o,h.get? b=some o->H b=none->b∈fs->b∉ex->∃sl,h'.get? b=some {o with slots:=sl}
 free:∀b o,h.get? b=some o->H b=none->b∉ex->H' b=none
 there:∀b o,h.get? b=some o->b∉ex->∃o',h'.get? b=some o'
 tups:∀b xs,H b=some (.tup xs)->H' b=some (.tup xs)
 frzs:∀b o u,H b=some (.frz o u)->H' b=some (.frz o u)
 tbls:∀b ps,H b=some (.tbl ps)->∃more,H' b=some (.tbl (ps++ more))
section
variable{fs fs' ex ex':kU}{H H1 H2:Hp}{h h1 h2 h':Heap}{a x e:Addr}{o:HO}
def Un.any(u:Un fs ex H H1 h h1)(q:h.get? b=some ob)(n:H b=none)(J:b∉ex):∃sl,h1.get? b=some {ob with slots:=sl}:=by
 by_cases hb:b∈fs
 .exact u.slot b ob q n hb J
 .exact ⟨ob.slots,u.keep b ob q n hb J⟩
def Un.kept(k:∀b u,h.get? b=some u->h'.get? b=some u):Un fs ex H H h h':=
 ⟨λb Z q _ _ _=>k b Z q,λb Z q _ _ _=>⟨Z.slots,k b Z q⟩,λ_ _ _ n _=>n,λb Z q _=>⟨Z,k b Z q⟩,λ_ _ q=>q,λ_ _ _ q=>q,λ_ J q=>⟨#[],by rw[q];simp⟩⟩
def Un.refl:Un fs ex H H h h:=Un.kept λ_ _ q=>q
def Un.laid(k:∀b u,h.get? b=some u->h'.get? b=some u)(G:h.objs.size<=a)(Z:H a=none):Un fs ex H (upd H a o) h h' where
 keep:=λb u q _ _ _=>k b u q
 slot:=λb u q _ _ _=>⟨u.slots,k b u q⟩
 free:=λb u q n _=>by rw[Yg (Ze<|Zx (ZP q) G)];exact n
 there:=λb u q _=>⟨u,k b u q⟩
 tups:=λb J q=>by rw[Yg (Yb q Z)];exact q
 frzs:=λb u J q=>by rw[Yg (Yb q Z)];exact q
 tbls:=λb L q=>⟨#[],by rw[Yg (Yb q Z),q];simp⟩
def Un.write(Z:Mut (H x))(R:e=x\/H e=some (.own x))(k:∀b u,b≠e->h.get? b=some u->h'.get? b=some u)(G:∃u,h'.get? e=some u):Un fs ex H (upd H x o) h h':=by
 have L:∀b,H b=none->b≠x:=λb n z=>by subst z;rw[n]at Z;exact Z
 have M:∀b,H b=none->b≠e:=λb n z=>by
  subst z;rcases R with r|r
  .exact L b n r
  .rw [n]at r;cases r
 have J:∀b u,H b=some u->¬Mut (some u)->b≠x:=λb u q O z=>by subst z;rw[q]at Z;exact O Z
 refine⟨λb u q n _ _=>k b u (M b n) q,λb u q n _ _=>⟨u.slots,k b u (M b n) q⟩,λb u q n _=>by rw[Yg (L b n)];exact n,λb u q _=>?_,
  λb N q=>by rw[Yg (J b _ q λz=>z)];exact q,λb u N q=>by rw[Yg (J b _ q λz=>z)];exact q,λb T q=>⟨#[],by rw[Yg (J b _ q λz=>z),q];simp⟩⟩
 by_cases hbe:b=e
 .subst hbe;exact G
 .exact ⟨u,k b u hbe q⟩
end
def trk(h:Heap)(H:Hp):kU:=(List.range h.objs.size).filter λa=>(H a).isSome
def Mf(h:Heap)(H:Hp):Heap:=W.hideAll h<|trk h H
def FR(h:Heap)(H:Hp):(Mf h H).objs.size=h.objs.size:=W.hideAll_size _ _
def LM(e:h.get? b=some o)(n:H b=none):(Mf h H).get? b=some o:=
 W.hideAll_get _ e λZ=>by
  have q:(H b).isSome=true:=(List.mem_filter.mp Z).2;rw[n]at q;simp at q
def Pe(e:(Mf h H).get? b=some o):h.get? b=some o/\H b=none:=by
 have Z:h.get? b=some o:=W.of_hideAll (trk h H) e;exists Z
 cases q:H b with
 |none=>rfl
 |some x=>
  have J:b∈trk h H:=List.mem_filter.mpr ⟨jD.mpr<|ZP Z,by simp[q]⟩;have z:(Mf h H).get? b=none:=W.hideAll_none (trk h H) J;rw[z]at e;cases e
structure Mod(K:W.Frag)(mg:Str->Option Value)(base:Heap):Prop where
 kin:K.In base
 glob:base.Ns mainGlobals mg
 blt:∃mb,base.Ns builtinsNs mb/\∀x:Str,x≠"__name__" ->mb x=bootBuiltins x
 nolimit:base.NoLimit
structure Cx where
 prog:Program
 w:World
 K:W.Frag
 mg:Str->Option Value
 base:Heap
 A:Around
 N:List Str
 s₀:Shared
 H₀:Hp
 env:Env
 outer:List Env
 stack:List Env
 ex:List Addr
 fn:Str->Bool
 calm:Bool
 pn:List (Addr×Obj)
 xe:Value->Shared->Prop
def frs(l:List Env):kU:=l.filterMap (·.frame)
abbrev Cx.fs(X:Cx):kU:=frs X.outer
def Vis(sc:Scope)(x:Str):Prop:=sc.names.lookup x=some .local\/sc.names.lookup x=some .cell\/sc.names.lookup x=some .free
def Loc(sc:Scope)(x:Str):Prop:=sc.names.lookup x=some .local\/sc.names.lookup x=some .cell
def Look(env:Env)(h:Heap)(m:Str->Option Value)(x:Str)(u:Value):Prop:=
 (env.kindOf x=some .local/\m x=some u)\/((env.kindOf x=some .cell\/env.kindOf x=some .free)/\∃c,env.cells.lookup x=some c/\h.IsCell c (some u))
structure Cx.Ok(X:Cx):Prop where
 mod:Mod X.K X.mg X.base
 kind:X.env.scope.kind=.function
 glob:X.env.globals=mainGlobals
 blt:X.env.builtins=builtinsNs
 above:X.s₀.heap.objs.size<=X.env.locals
 inj:∀x y c,X.env.cells.lookup x=some c->X.env.cells.lookup y=some c->x=y
 has:∀x,(X.env.kindOf x=some .cell\/X.env.kindOf x=some .free)->∃c,X.env.cells.lookup x=some c
 cab:∀x c,X.fn x=true->X.env.cells.lookup x=some c->X.s₀.heap.objs.size<=c
 hd:X.calm=true->X.A.handled=none
 frames:X.A.frames=some X.stack
 stk:X.stack=X.outer\/(X.stack=X.env::X.outer/\X.env.frame=some X.env.locals)
 exf:∀b∈X.ex,b≠X.env.locals/\∀x c,X.env.cells.lookup x=some c->c≠b
 bs:∀b o,X.base.get? b=some o->X.s₀.heap.get? b=some o/\X.H₀ b=none
 bsz:X.base.objs.size<=X.s₀.heap.objs.size
 noex:∀b o,X.base.get? b=some o->b∉X.ex
 exfs:∀b∈X.ex,b∉X.fs
 funs:X.s₀.heap.FunFrames X.base X.outer
 frf:∀b∈X.fs,X.H₀ b=none
structure Inv(X:Cx)(pins:List (Addr×Obj))(U:List (Option V))(H:Hp)(s:Shared):Prop where
 ok:X.Ok
 os:s.os=X.s₀.os
 bare:AllBare s.gens
 base:Un X.fs X.ex X.H₀ H X.s₀.heap s.heap
 loc:∃m,s.heap.Ns X.env.locals m/\∀(i:Nat)(x:Str)(v:V),X.N[i]?=some x->U[i]?=some (some v)->Vis X.env.scope x->∃u,RelV v u/\Look X.env s.heap m x u
 cell:∀x c,X.env.cells.lookup x=some c->∃v,s.heap.IsCell c v
 free:H X.env.locals=none
 freeC:∀x c,X.env.cells.lookup x=some c->H c=none
 pin:∀p∈X.pn++ pins,s.heap.get? p.1=some p.2/\H p.1=none/\p.1≠X.env.locals/\p.1∉X.fs/\∀v,p.2.data≠.cell v
 hok:HOk X.prog X.w H s.heap
 len:U.length=X.N.length
section
variable{X:Cx}
def Cx.Ok.nofr(Z:X.Ok)(e:X.base.get? b=some o):b∉X.fs:=λJ=>by
 have:=(Z.funs.mem J).1;rw[e]at this;cases this
def Inv.bs(I:Inv X Z U H s):∀b o,X.base.get? b=some o->s.heap.get? b=some o/\H b=none:=λb o e=>
 ⟨I.base.keep b o (I.ok.bs b o e).1 (I.ok.bs b o e).2 (I.ok.nofr e)<|I.ok.noex b o e,I.base.free b o (I.ok.bs b o e).1 (I.ok.bs b o e).2<|I.ok.noex b o e⟩
def Inv.bk(I:Inv X Z U H s):∀b o,X.base.get? b=some o->s.heap.get? b=some o:=λb o e=>(I.bs b o e).1
def Inv.mod(I:Inv X Z U H s):Mod X.K X.mg X.base:=I.ok.mod
def Inv.kIn(I:Inv X Z U H s):X.K.In s.heap:=I.ok.mod.kin.keeps I.bk
def Inv.lt(I:Inv X Z U H s):X.env.locals<s.heap.objs.size:=let⟨_,J,_⟩:=I.loc;J.lt
def Inv.sz(I:Inv X Z U H s):X.s₀.heap.objs.size<=s.heap.objs.size:=Zb I.ok.above<|Zh I.lt
def Inv.nofs(I:Inv X Z U H s)(h:s.heap.objs.size<=a):a∉X.fs:=λG=>by
 obtain⟨_,o,J,_⟩:=I.ok.funs.mem G;exact Zr (Zx (ZP J)<|Zb I.sz h)<|vw _
def Inv.cne(I:Inv X G U H s):∀x c,X.env.cells.lookup x=some c->c≠X.env.locals:=λx c e z=>by
 obtain⟨v,o,L,hd⟩:=I.cell x c e;obtain⟨m,⟨M,N,O,Z,J,_⟩,_⟩:=I.loc;rw[z,Z]at L;cases L;rw[J]at hd;cases hd
def Inv.funs(I:Inv X N U H s):s.heap.FunFrames X.base X.outer:=by
 have M:∀(l:List Env),(∀b∈frs l,b∈X.fs)->X.s₀.heap.FunFrames X.base l->s.heap.FunFrames X.base l:=by
  intro l
  induction l with
  |nil=>intro _ _;trivial
  |cons F r ih=>
   intro O D;obtain⟨E,⟨L,o,Z,B,T,hd⟩,R⟩:=D;have G:L∈X.fs:=O L (by unfold frs;rw[qJ,Z];exact Za);obtain⟨sl,e⟩:=I.base.slot L o T (I.ok.frf L G) G λz=>I.ok.exfs L z G;exact⟨E,⟨L,_,Z,B,e,hd⟩,ih (λb J=>O b (by unfold frs;rw[qJ,Z];exact ZM _ J)) R⟩
 exact M X.outer (λ_ J=>J) I.ok.funs
def Inv.stack(I:Inv X Z U H s):s.heap.FunFrames X.base X.stack:=by
 rcases I.ok.stk with e|⟨e,G⟩
 .rw [e];exact I.funs
 .rw [e]
  obtain⟨m,J,_⟩:=I.loc;refine .cons (by rw[I.ok.kind];decide) G J ?_ I.funs;exact Heap.get?_none_of_le<|Zb I.ok.bsz I.ok.above
def Inv.stkSub(I:Inv X J U H s):∀b∈frs X.stack,b∈X.env.locals::X.fs:=λb Z=>by
 rcases I.ok.stk with e|⟨e,G⟩
 .rw [e]at Z;exact ZM _ Z
 .rw [e]at Z
  unfold frs at Z;rw[qJ,G]at Z;exact Z
def Inv.stkFree(I:Inv X J U H s):∀b∈frs X.stack,H b=none:=λb Z=>by
 rcases Zd.mp (I.stkSub b Z)with e|Z
 .rw [e];exact I.free
 .obtain ⟨_,o,ho,_⟩:=I.ok.funs.mem Z
  exact I.base.free b o ho (I.ok.frf b Z) λz=>I.ok.exfs b z Z
def Inv.step{ch:kU}(I:Inv X O U H s)(G:∀b∈ch,(b∈X.ex\/X.s₀.heap.objs.size<=b)/\b≠X.env.locals/\(∀x c,X.env.cells.lookup x=some c->c≠b)/\∀p∈X.pn++ O,p.1≠b)(keep:∀b o,b≠X.env.locals->b∉X.fs->b∉ch->s.heap.get? b=some o->H b=none->h'.get? b=some o)(slot:∀b o,b≠X.env.locals->b∈X.fs->b∉ch->s.heap.get? b=some o->H b=none->∃sl,h'.get? b=some {o with slots:=sl})(free:∀b o,b∉ch->s.heap.get? b=some o->H b=none->H' b=none)(there:∀b o,b∉ch->s.heap.get? b=some o->∃E,h'.get? b=some E)(B:∀b N,H b=some (.tup N)->H' b=some (.tup N))(A:∀b o u,H b=some (.frz o u)->H' b=some (.frz o u))(D:∀b C,H b=some (.tbl C)->∃more,H' b=some (.tbl<|C++ more))(t:∀m,s.heap.Ns X.env.locals m->h'.Ns X.env.locals m)(j:HOk X.prog X.w H' h')(f:AllBare g'):
  Inv X O U H' {s with heap:=h',gens:=g',drawn:=d',toks:=t'}:=by
 have F:∀b o,X.s₀.heap.get? b=some o->b≠X.env.locals:=λb o e=>Ze<|Zx (ZP e) I.ok.above
 have L:∀b o,X.s₀.heap.get? b=some o->b∉X.ex->b∉ch:=λb o e Z R=>by
  rcases(G b R).1 with z|z
  .exact Z z
  .exact Zr (Zx (ZP e) z) (vw _)
 have cellK:∀x c,X.env.cells.lookup x=some c->∀v,s.heap.IsCell c v->h'.IsCell c v:=λx c e v ⟨o,T,hd⟩=>by
  have J:c∉ch:=λz=>(G c z).2.2.1 x c e rfl
  by_cases hc:c∈X.fs
  .obtain ⟨sl,q⟩:=slot c o (I.cne x c e) hc J T<|I.freeC x c e
   exact⟨_,q,hd⟩
  .exact ⟨o,keep c o (I.cne x c e) hc J T<|I.freeC x c e,hd⟩
 refine⟨I.ok,I.os,f,⟨λb o e n R Z=>?_,λb o e n R Z=>?_,λb o e n Z=>?_,λb o e Z=>?_,λb N e=>B b N<|I.base.tups b N e,λb o N e=>A b o N<|I.base.frzs b o N e,λb C e=>?_⟩,?_,λx c e=>?_,?_,λx c e=>?_,λp y=>?_,j,I.len⟩
 .exact keep b o (F b o e) R (L b o e Z) (I.base.keep b o e n R Z) (I.base.free b o e n Z)
 .obtain ⟨sl,M⟩:=I.base.slot b o e n R Z
  obtain⟨Q,S⟩:=slot b _ (F b o e) R (L b o e Z) M<|I.base.free b o e n Z;exact⟨Q,S⟩
 .obtain ⟨E,M⟩:=I.base.there b o e Z
  exact free b E (L b o e Z) M<|I.base.free b o e n Z
 .obtain ⟨E,M⟩:=I.base.there b o e Z
  exact there b E (L b o e Z) M
 .obtain ⟨m1,M⟩:=I.base.tbls b C e
  obtain⟨g,S⟩:=D b _ M;exact⟨m1++ g,by rw[S,Array.append_assoc]⟩
 .obtain ⟨m,hn,hl⟩:=I.loc
  refine⟨m,t m hn,λi x v M S w=>?_⟩;obtain⟨u,r,l⟩:=hl i x v M S w;exists u,r;rcases l with l|⟨k,c,e,z⟩
  .exact .inl l
  .exact .inr ⟨k,c,e,cellK x c e _ z⟩
 .obtain ⟨v,z⟩:=I.cell x c e
  exact⟨v,cellK x c e v z⟩
 .obtain ⟨m,⟨o,_,_,T,_⟩,_⟩:=I.loc
  exact free _ o (λz=>(G _ z).2.1 Y) T I.free
 .obtain ⟨v,o,T,hd⟩:=I.cell x c e
  exact free c o (λz=>(G c z).2.2.1 x c e Y) T<|I.freeC x c e
 .obtain ⟨e,n,ne,nf,d⟩:=I.pin p y
  have J:p.1∉ch:=λz=>(G p.1 z).2.2.2 p y rfl;exact⟨keep p.1 p.2 ne nf J e n,free p.1 p.2 J e n,ne,nf,d⟩
def Inv.un(I:Inv X Z U H s)(u:Un X.fs [] H H' s.heap h')(G:HOk X.prog X.w H' h'):Inv X Z U H' {s with heap:=h',toks:=t'}:=by
 obtain⟨m,⟨o,F,A,O,r⟩,_⟩:=id I.loc;obtain⟨sl,B⟩:=u.any O I.free<|by simp
 exact I.step (g':=s.gens) (d':=s.drawn) (ch:=[]) (λ_ z=>nomatch z) (λb o _ L _ e n=>u.keep b o e n L<|by simp) (λb o _ L _ e n=>u.slot b o e n L<|by simp) (λb o _ e n=>u.free b o e n<|by simp) (λb o _ e=>u.there b o e<|by simp) u.tups u.frzs u.tbls (λE T=>by
  obtain⟨D,M,N,J,R⟩:=T;rw[O]at J;cases J;exact⟨_,M,N,B,R⟩) G I.bare
def Inv.call(I:Inv X Z U H s)(u:Un (frs X.stack) ch H B s.heap h')(M:HOk X.prog X.w B h')(F:AllBare g')(L:∀b∈ch,(b∈X.ex\/X.s₀.heap.objs.size<=b)/\b≠X.env.locals/\(∀x c,X.env.cells.lookup x=some c->c≠b)/\∀p∈X.pn++ Z,p.1≠b):
  Inv X Z U B {s with heap:=h',gens:=g',drawn:=d',toks:=t'}:=by
 obtain⟨m,⟨o,P,Q,T,r⟩,_⟩:=id I.loc;obtain⟨sl,N⟩:=u.any T I.free λz=>(L _ z).2.1 rfl
 exact I.step (ch:=ch) L (λb o N A J e n=>u.keep b o e n (λz=>(Zd.mp<|I.stkSub b z).elim N A) J) (λb o _ _ J e n=>u.any e n J) (λb o J e n=>u.free b o e n J) (λb o J e=>u.there b o e J) u.tups u.frzs u.tbls (λC E=>by
  obtain⟨S,O,R,G,D⟩:=E;rw[T]at G;cases G;exact⟨_,O,R,N,D⟩) M F
def Inv.turned(I:Inv X Z U H s)(k:∀b o,b≠it->s.heap.get? b=some o->D.get? b=some o)(M:H it=none)(L:it≠X.env.locals)(B:it∈X.ex\/X.s₀.heap.objs.size<=it)(T:∀x c,X.env.cells.lookup x=some c->c≠it)(R:∀p∈X.pn++ Z,p.1≠it):Inv X Z U H {s with heap:=D,toks:=t'}:=by
 have G:∀b u,H b=some u->b≠it:=λb u e z=>by rw[z,M]at e;cases e
 refine I.step (g':=s.gens) (d':=s.drawn) (ch:=[it]) (λb O=>?_) (λb o _ _ J e _=>k b o (λz=>J<|by simp[z]) e) (λb o _ _ J e _=>⟨o.slots,k b o (λz=>J<|by simp[z]) e⟩) (λ_ _ _ _ n=>n)
  (λb o J e=>⟨o,k b o (λz=>J<|by simp[z]) e⟩) (λ_ _ e=>e) (λ_ _ _ e=>e) (λb E e=>⟨#[],by rw[e];simp⟩) (λm N=>?_) (λb u e=>?_) I.bare
 .have e:b=it:=by simpa using O
  subst e;exact⟨B,L,T,R⟩
 .obtain ⟨o,es,ep,ho,r⟩:=N
  exact⟨o,es,ep,k _ o (Zs L) ho,r⟩
 .refine (I.hok b u e).stay (λc v J q=>k c v ?_ q) (λ_ q=>q) λ_ _ q=>q
  rcases J with z|z
  .rw [z];exact G b u e
  .exact G c _ z
def Inv.tok(I:Inv X Z U H s)(t:Nat):Inv X Z U H {s with toks:=t}:=I.un (h':=s.heap) (t':=t) Un.refl I.hok
def Inv.kept(I:Inv X Z U H s)(k:∀b u,s.heap.get? b=some u->J.get? b=some u):Inv X Z U H {s with heap:=J,toks:=t'}:=I.un (Un.kept k)<|I.hok.kept k
def Inv.laid(I:Inv X Z U H s)(k:∀b u,s.heap.get? b=some u->h'.get? b=some u)(J:s.heap.objs.size<=a)(new:VS X.prog X.w (upd H a o) h' a o):
  Inv X Z U (upd H a o) {s with heap:=h',toks:=t'}:=I.un (Un.laid k J<|I.hok.fresh J)<|I.hok.laid k J new
def Inv.write(I:Inv X Z U H s)(L:Mut (H x))(M:e=x\/H e=some (.own x))(k:∀b u,b≠e->s.heap.get? b=some u->G.get? b=some u)(J:∃u,G.get? e=some u)(new:VS X.prog X.w (upd H x o) G x o):Inv X Z U (upd H x o) {s with heap:=G,toks:=N}:=I.un (Un.write L M k J)<|I.hok.write L M k J new
def Inv.weak(I:Inv X Z U H s)(L:U'.length=U.length)(w:∀(i:Nat) v,U'[i]?=some (some v)->U[i]?=some (some v)):Inv X Z U' H s:=
 ⟨I.ok,I.os,I.bare,I.base,let⟨m,G,J⟩:=I.loc;⟨m,G,λi x v O N M=>J i x v O (w i v N) M⟩,I.cell,I.free,I.freeC,I.pin,I.hok,L.trans I.len⟩
def Inv.pins_of(I:Inv X Z U H s)(h:∀p∈pins',s.heap.get? p.1=some p.2/\H p.1=none/\p.1≠X.env.locals/\p.1∉X.fs/\∀v,p.2.data≠.cell v):Inv X pins' U H s:=
 ⟨I.ok,I.os,I.bare,I.base,I.loc,I.cell,I.free,I.freeC,λp J=>(ZX.mp J).elim (λz=>I.pin p<|vm _ z)<|h p,I.hok,I.len⟩
def NQ{N:kQ}(Z:N.Nodup){i j:Nat}(a:N[i]?=some x)(b:N[j]?=some x):i=j:=by
 obtain⟨M,G⟩:=ZF.mp a;obtain⟨L,J⟩:=ZF.mp b;exact(List.getElem_inj Z).mp<|G.trans J.symm
def Tz(I:Inv X S U H s)(hN:X.N.Nodup)(t:X.N[i]?=some x)(L:Loc X.env.scope x)(r:RelV v u)(h:∀s',Inv X S (U.set i<|some v) H s'->(∃a,Heap.SameBut a s.heap s'.heap/\(a=X.env.locals\/X.env.cells.lookup x=some a))->Q () s')(hf:X.fn x=true\/X.env.scope.names.lookup x=some .local:=by first|exact .inl Y|exact .inr Y|assumption):wpAny M A (storeName X.env x u) Q E s:=by
 obtain⟨m,hn,hl⟩:=id I.loc;have g:(X.env.scope.kind==.class || (X.env.scope.kind==.module && X.env.locals !=X.env.globals))=false:=by rw[I.ok.kind];rfl
 have T:i<U.length:=by rw[I.len];exact(ZF.mp t).1
 have D:=I.cne
 have tracked:∀{a:Addr}{F:Heap},(∃o,s.heap.get? a=some o/\H a=none)->Heap.SameBut a s.heap F->HOk X.prog X.w H F:=λ{a F} ha Z b ob e=>by
  obtain⟨_,_,N⟩:=ha;refine(I.hok b ob e).stay (λc w G q=>(Z.2 c ?_).trans q) (λ_ q=>q) λ_ _ q=>q;rintro rfl;rcases G with rfl|G
  .rw [N]at e;cases e
  .rw [N]at G;cases G
 rcases L with R|R
 .refine wpAny_storeName_local R hn (λF G1 Z=>?_) g
  obtain⟨oL,_,_,J2,_⟩:=id hn;refine h _ ⟨I.ok,I.os,I.bare,⟨λb o e n B L=>?_,λb o e n B L=>?_,I.base.free,λb o e L=>?_,I.base.tups,I.base.frzs,I.base.tbls⟩,⟨_,G1,λj y v' J O e3=>?_⟩,λy c e=>?_,I.free,I.freeC,λp hp=>?_,tracked ⟨oL,J2,I.free⟩ Z,by simpa using I.len⟩ ⟨_,Z,.inl Y⟩
  .exact (Z.2 b<|Ze<|Zx (ZP e) I.ok.above).trans (I.base.keep b o e n B L)
  .obtain ⟨sl,J⟩:=I.base.slot b o e n B L
   exact⟨sl,(Z.2 b<|Ze<|Zx (ZP e) I.ok.above).trans J⟩
  .obtain ⟨o',J⟩:=I.base.there b o e L
   exact⟨o',(Z.2 b<|Ze<|Zx (ZP e) I.ok.above).trans J⟩
  .by_cases hj:j=i
   .subst hj
    rw[t]at J;cases J;rw[List.getElem?_set_self T]at O;cases O;exact⟨u,r,.inl ⟨R,by simp⟩⟩
   .rw [qC (Zs hj)]at O
    obtain⟨u',r',q⟩:=hl j y v' J O e3;exists u',r';rcases q with⟨k,e⟩|⟨k,c,e,z⟩
    .refine .inl ⟨k,?_⟩
     have:y≠x:=λe=>hj<|NQ hN J<|e ▸ t;simp[this,e]
    .exact .inr ⟨k,c,e,z.sameBut Z<|D y c e⟩
  .obtain ⟨w,z⟩:=I.cell y c e
   exact⟨w,z.sameBut Z<|D y c e⟩
  .obtain ⟨e,n,ne,nf,d⟩:=I.pin p hp
   exact⟨(Z.2 p.1 ne).trans e,n,ne,nf,d⟩
 .have hfn:X.fn x=true:=by
   rcases hf with z|z
   .exact z
   .rw [z]at R;cases R
  obtain⟨c,G⟩:=I.ok.has x<|.inl R;obtain⟨w,z⟩:=I.cell x c G;refine wpAny_storeName_cell I.ok.kind R G z λF f Z=>?_;obtain⟨oc,P,C⟩:=id z;refine h {s with heap:=F} ⟨I.ok,I.os,I.bare,⟨λb o e n B L=>?_,λb o e n B L=>?_,I.base.free,λb o e L=>?_,I.base.tups,I.base.frzs,I.base.tbls⟩,⟨m,hn.sameBut Z<|Zs<|D x c G,λj y v' J O e3=>?_⟩,λy l e=>?_,I.free,I.freeC,λp hp=>?_,tracked ⟨oc,P,I.freeC x c G⟩ Z,by simpa using I.len⟩ ⟨c,Z,.inr G⟩
  .exact (Z.2 b<|Ze<|Zx (ZP e)<|I.ok.cab x c hfn G).trans (I.base.keep b o e n B L)
  .obtain ⟨sl,J⟩:=I.base.slot b o e n B L
   exact⟨sl,(Z.2 b<|Ze<|Zx (ZP e)<|I.ok.cab x c hfn G).trans J⟩
  .obtain ⟨o',J⟩:=I.base.there b o e L
   exact⟨o',(Z.2 b<|Ze<|Zx (ZP e)<|I.ok.cab x c hfn G).trans J⟩
  .by_cases hj:j=i
   .subst hj
    rw[t]at J;cases J;rw[List.getElem?_set_self T]at O;cases O;exact⟨u,r,.inr ⟨.inl R,c,G,f⟩⟩
   .rw [qC (Zs hj)]at O
    obtain⟨u',r',q⟩:=hl j y v' J O e3;exists u',r';rcases q with q|⟨k,l,e,z'⟩
    .exact .inl q
    .refine .inr ⟨k,l,e,z'.sameBut Z ?_⟩
     rintro rfl;exact hj<|NQ hN J<|I.ok.inj _ _ _ e G ▸ t
  .by_cases hcc:l=c
   .subst hcc;exact⟨_,f⟩
   .obtain ⟨w2,z2⟩:=I.cell y l e
    exact⟨w2,z2.sameBut Z hcc⟩
  .obtain ⟨e,n,ne,nf,d⟩:=I.pin p hp
   refine⟨(Z.2 p.1 ?_).trans e,n,ne,nf,d⟩;intro q;rw[q,P]at e;have q':oc=p.2:=ZT e;exact d w (by rw[<-q'];exact C)
def Gh(I:Inv X Z U H s)(O:X.N.Nodup)(L:X.N[i]?=some x)(G:Loc X.env.scope x)(r:RelV v u)(h:∀J,Inv X Z (U.set i<|some v) H J->Q () J)(N:X.fn x=true\/X.env.scope.names.lookup x=some .local:=by first|exact .inl Y|exact .inr Y|assumption):wpAny M A (storeName X.env x u) Q E s:=
 Tz I O L G r (λJ R _=>h J R) N
def Inv.call'(I:Inv X Z U H s)(O:J.os=s.os)(u:Un (frs X.stack) ch H M s.heap J.heap)(G:HOk X.prog X.w M J.heap)(R:AllBare J.gens)(L:∀b∈ch,(b∈X.ex\/X.s₀.heap.objs.size<=b)/\b≠X.env.locals/\(∀x c,X.env.cells.lookup x=some c->c≠b)/\∀p∈X.pn++ Z,p.1≠b):Inv X Z U M J:=by
 obtain⟨T,g',d',t',N⟩:=J;have e:N=s.os:=O;subst e;exact I.call (g':=g') (t':=t') (d':=d') u G R L
end
abbrev XK:=Value->Option Addr->Hp->Prop
abbrev St:=List (pf)
abbrev pe:=St->Hp->Prop
abbrev pc:=Nat->St->Hp->Prop
abbrev VK:=V->Hp->Prop
abbrev TE:=St->Hp->VK->Prop
abbrev TT:=St->Hp->(Bool->Hp->Prop)->Prop
abbrev TA:=St->Hp->(List V->Hp->Prop)->Prop
structure Ends where
 nx:St->Hp->Prop
 rt:VK
 bk:St->Hp->Prop:=λ_ _=>False
 ct:St->Hp->Prop:=λ_ _=>False
abbrev TS:=Ends->St->Hp->Prop
def EP(X:Cx)(pins:kM)(U:St)(Q:VK)(u:Value)(s':Shared):Prop:=∃v Z,Inv X pins U Z s'/\RelV v u/\Q v Z
def TP(X:Cx)(pins:kM)(U:St)(Q:Bool->Hp->Prop)(b:Bool)(s':Shared):Prop:=∃Z,Inv X pins U Z s'/\Q b Z
def AP(X:Cx)(pins:kM)(U:St)(Q:List V->Hp->Prop)(us:kP)(s':Shared):Prop:=∃Z J,Inv X pins U J s'/\Vals Z us/\Q Z J
def SP(X:Cx)(pins:kM)(D:Ends)(f:Flow)(s':Shared):Prop:=
 match f with
 |.next=>∃U' H',Inv X pins U' H' s'/\D.nx U' H'
 |.brk=>∃U' H',Inv X pins U' H' s'/\D.bk U' H'
 |.cont=>∃U' H',Inv X pins U' H' s'/\D.ct U' H'
 |.ret u=>∃v U' H',Inv X pins U' H' s'/\RelV v u/\D.rt v H'
def PE(X:Cx)(e:Expr)(t:TE):Prop:=
 ∀(Z:kM)(s:Shared)(U:St)(H:Hp)(Q:VK),Inv X Z U H s->t U H Q->wpAny (model X.prog X.w) X.A (eval e X.env) (EP X Z U Q) X.xe s
def PT(X:Cx)(e:Expr)(t:TT):Prop:=
 ∀(Z:kM)(s:Shared)(U:St)(H:Hp)(Q:Bool->Hp->Prop),Inv X Z U H s->t U H Q->wpAny (model X.prog X.w) X.A (isTrue e X.env<|eval e X.env) (TP X Z U Q) X.xe s
def PW(X:Cx)(e:Expr)(t:TT):Prop:=
 ∀(whole:Sem Value)(Z:kM)(s:Shared)(U:St)(H:Hp)(Q:Bool->Hp->Prop),Inv X Z U H s->t U H Q->wpAny (model X.prog X.w) X.A (isTrue e X.env whole) (TP X Z U Q) X.xe s
def PW.pt(h:PW X e t):PT X e t:=h _
def PA(X:Cx)(es:pB)(t:TA):Prop:=
 ∀(J:Pos)(Z:kM)(s:Shared)(U:St)(H:Hp)(Q:List V->Hp->Prop),Inv X Z U H s->t U H Q->wpAny (model X.prog X.w) X.A (spliced<|backTo J<|starEach es X.env) (AP X Z U Q) X.xe s
def PS(X:Cx)(st:Stmt)(t:TS):Prop:=
 ∀(Z:kM)(s:Shared)(U:St)(H:Hp)(D:Ends),Inv X Z U H s->t D U H->wpAny (model X.prog X.w) X.A (exec st X.env) (SP X Z D) X.xe s
def PSs(X:Cx)(st:List Stmt)(t:TS):Prop:=
 ∀(Z:kM)(s:Shared)(U:St)(H:Hp)(D:Ends),Inv X Z U H s->t D U H->wpAny (model X.prog X.w) X.A (execs st X.env) (SP X Z D) X.xe s
def thn(h:wpAny M A t Q E s)(Z:∀a s,Q a s->Q' a s):wpAny M A t Q' E s:=Zn h Z λ_ _ x=>x
end L2
namespace L2
open PySem PySem.Spec PyProof.Rows
section
variable{X:Cx}
def Fv(o:Option (pf))(P:V->Prop):Prop:=match o with
 |some (some v)=>P v
 |_=>False
def Fv.old(h:Fv o P):∃v,o=some (some v)/\P v:=by
 match o,h with
 |some (some v),h=>exact⟨v,Y,h⟩
def U3(x:V)(P:Int->Prop):Prop:=match x with
 |.int c=>P c
 |_=>False
def U3.old(h:U3 x P):∃c,x=.int c/\P c:=by
 cases x <;> first|exact⟨_,Y,h⟩|exact h.elim
def JI(x:V)(P:Addr->Prop):Prop:=match x with
 |.ref c=>P c
 |_=>False
def JI.old(h:JI x P):∃c,x=.ref c/\P c:=by
 cases x <;> first|exact⟨_,Y,h⟩|exact h.elim
def IH(i:Nat):TE:=λU H Q=>Fv U[i]? λv=>Q v H
def tC(v:V):TE:=λ_ H Q=>Q v H
def S7(D:X.N[i]?=some x)(O:Vis X.env.scope x)(hd:(x==("__debug__":Str))=false:=by decide)(M:(x==("__classdict__":Str))=false:=by decide):PE X (.Name x pos) (IH i):=by
 intro L s U H Q I h;replace h:=Fv.old h;obtain⟨v,e,h⟩:=h;obtain⟨m,R,B⟩:=I.loc;obtain⟨u,r,l⟩:=B i x v D e O;have G:EP X L U Q u s:=⟨v,H,I,r,h⟩;rcases l with⟨J,T⟩|⟨J,c,N,Z⟩
 .exact wpAny_Name (wpAny_loadName_local I.ok.kind J R T G) hd
 .rcases J with J|J
  .exact wpAny_Name (wpAny_loadName_cell I.ok.kind J N Z G) hd
  .exact wpAny_Name (wpAny_loadName_free I.ok.kind J N Z G M) hd
def Ya:PE X (.Constant (.int i) j pos) (tC<|.int i):=λ_ _ _ H _ I h=>wpAny_Constant_int ⟨.int i,H,I.tok _,⟨_,rfl⟩,h⟩
def X0:PE X (.Constant (.bool b) j pos) (tC<|.bl b):=λ_ _ _ H _ I h=>Constant_bool ⟨.bl b,H,I,rfl,h⟩
def Vx:PE X (.Constant .none j pos) (tC .non):=λ_ _ _ H _ I h=>Constant_none ⟨.non,H,I,rfl,h⟩
def Yr:PE X (.Constant (.str x) j pos) (tC<|.str x):=λ_ _ _ H _ I h=>Calls.Constant_str ⟨.str x,H,I.tok _,⟨_,rfl⟩,h⟩
def Gl(X:Cx)(x:Str):Prop:=X.env.kindOf x=some .globalImplicit
def GQ(I:Inv X Z U H s)(G:Gl X x)(J:X.mg x=some u)(h:Q u s)(hd:(x==("__debug__":Str))=false:=by decide):wpAny (model X.prog X.w) X.A (eval (.Name x pos) X.env) Q E s:=
 Calls.Name_function_global I.ok.kind G (Calls.loadGlobal_global (by rw[I.ok.glob];exact I.mod.glob.keeps I.bk) J h) hd
def U2(I:Inv X Z U H s)(M:Gl X x)(L:X.mg x=none)(J:bootBuiltins x=some u)(h:Q u s)(G:x≠"__name__":=by decide)(hd:(x==("__debug__":Str))=false:=by decide):wpAny (model X.prog X.w) X.A (eval (.Name x pos) X.env) Q E s:=by
 obtain⟨R,O,N⟩:=I.mod.blt;exact Calls.Name_function_global I.ok.kind M (Calls.loadGlobal_builtin (by rw[I.ok.glob];exact I.mod.glob.keeps I.bk) L (by rw[I.ok.blt];exact O.keeps I.bk) ((N x G).trans J) h) hd
def JW(J:Gl X x)(Z:X.mg x=some u)(r:RelV v u)(hd:(x==("__debug__":Str))=false:=by decide):PE X (.Name x pos) (tC v):=
 λ_ _ _ H _ I h=>GQ I J Z ⟨v,H,I,r,h⟩ hd
def PD(L:Gl X x)(G:X.mg x=none)(Z:bootBuiltins x=some u)(r:RelV v u)(J:x≠"__name__":=by decide)(hd:(x==("__debug__":Str))=false:=by decide):PE X (.Name x pos) (tC v):=
 λ_ _ _ H _ I h=>U2 I L G Z ⟨v,H,I,r,h⟩ J hd
variable{a b:Expr}{ta tb:TE}{pos:Pos}
def PC(X:Cx)(op:CmpOp)(a b:Expr)(t:TE):Prop:=
 ∀(Z:kM)(s:Shared)(U:St)(H:Hp)(Q:VK),Inv X Z U H s->t U H Q->
  wpAny (model X.prog X.w) X.A (eval a X.env) (λv G=>wpAny (model X.prog X.w) X.A (eval b X.env) (λu J=>wpAny (model X.prog X.w) X.A (compareOp op v u) (EP X Z U Q) X.xe J) X.xe G) X.xe s
def tB(t:TE):TT:=λU H Q=>t U H λx Z=>∃c,x=.bl c/\Q c Z
def Ub(h:PC X op a b t)(J:behindInMarks op b=false:=by first|exact nobehind _ (by decide) (by decide)|rfl):PT X (.Compare a [op] [b] pos) (tB t):=by
 intro Z s U H Q I M;refine wpAny_isTrue_Compare1 (thn (h Z s U H _ I M) λv D J=>thn J λu B N=>thn N λc T ⟨x,R,O,G,L⟩=>?_) J;obtain⟨d,rfl,q⟩:=L;cases G;exact vy ⟨R,O,q⟩
def Vz(h:PE X e t)(M:∀whole,isTrue e X.env whole=(do let v <-whole;standAt e.pos;holding [v] (truthy v)):=by intro _;rfl):PT X e (tB t):=by
 intro Z s U H Q I L;refine isTrue_plain (thn (h Z s U H _ I L) λv R ⟨x,O,N,J,G⟩=>?_)<|M _;obtain⟨d,rfl,q⟩:=G;cases J;exact vy ⟨O,N,q⟩
variable{rest:pB}
def yR(t u:TT):TT:=λU H Q=>t U H λc Z=>if c=true then u U Z Q else Q false Z
def tOr(t u:TT):TT:=λU H Q=>t U H λc Z=>if c=true then Q true Z else u U Z Q
def yM(t:TT):TT:=λU H Q=>t U H λc Z=>Q (!c) Z
def GO(J:PT X a tA):PW X (.BoolOp .And [a] pos) tA:=by
 intro G Z s U H Q I h;refine isTrue_and<|thn (J Z s U H Q I h) λc L e=>?_
 cases c with
 |true=>exact isTrue_and_nil e
 |false=>exact e
def Jn(J:PT X a tA):PW X (.BoolOp .Or [a] pos) tA:=by
 intro G Z s U H Q I h;refine isTrue_or<|thn (J Z s U H Q I h) λc L e=>?_
 cases c with
 |false=>exact isTrue_or_nil e
 |true=>exact e
def MN(R:PT X a tA)(O:PW X (.BoolOp .And (b::rest) pos) tB'):PW X (.BoolOp .And (a::b::rest) pos) (yR tA tB'):=by
 intro M Z s U H Q I h;refine isTrue_and<|thn (R Z s U H _ I h) λc N ⟨L,G,J⟩=>?_
 cases c with
 |true=>exact O M Z N U L Q G J
 |false=>exact⟨L,G,J⟩
def UD(R:PT X a tA)(O:PW X (.BoolOp .Or (b::rest) pos) tB'):PW X (.BoolOp .Or (a::b::rest) pos) (tOr tA tB'):=by
 intro M Z s U H Q I h;refine isTrue_or<|thn (R Z s U H _ I h) λc N ⟨L,G,J⟩=>?_
 cases c with
 |true=>exact⟨L,G,J⟩
 |false=>exact O M Z N U L Q G J
def JZ(J:PT X a tA):PT X (.UnaryOp .Not a pos) (yM tA):=by
 intro Z s U H Q I h;exact isTrue_not<|J Z s U H (λc G=>Q (!c) G) I h
def CS(ta tb:TE):TE:=λU H Q=>ta U H λx Z=>∃c,x=.bl c/\if c=true then tb U Z Q else Q (.bl false) Z
def yL(ta tb:TE):TE:=λU H Q=>ta U H λx Z=>∃c,x=.bl c/\if c=true then Q (.bl true) Z else tb U Z Q
def Ux(h:PE X a t):PE X (.BoolOp op [a] pos) t:=λZ s U H Q I J=>BoolOp_one<|h Z s U H Q I J
def Xg(R:PE X a ta)(O:PE X (.BoolOp .And (b::rest) pos) tb):PE X (.BoolOp .And (a::b::rest) pos) (CS ta tb):=by
 intro Z s U H Q I h;refine BoolOp_and<|thn (R Z s U H _ I h) λv M ⟨x,L,G,N,J⟩=>?_;obtain⟨c,rfl,J⟩:=J;cases N;refine vy ?_
 cases c with
 |true=>exact O Z M U L Q G J
 |false=>exact⟨.bl false,L,G,Y,J⟩
def Ck(R:PE X a ta)(O:PE X (.BoolOp .Or (b::rest) pos) tb):PE X (.BoolOp .Or (a::b::rest) pos) (yL ta tb):=by
 intro Z s U H Q I h;refine BoolOp_or<|thn (R Z s U H _ I h) λv M ⟨x,L,G,N,J⟩=>?_;obtain⟨c,rfl,J⟩:=J;cases N;refine vy ?_
 cases c with
 |false=>exact O Z M U L Q G J
 |true=>exact⟨.bl true,L,G,Y,J⟩
end
end L2
namespace L2
open PySem PySem.Spec PyProof.Rows
def SqL(K:W.Frag)(H:Hp)(a:Addr)(xs:kZ):Prop:=
 Rd H a (.lst xs) \/
  ∃(o:Obj)(Z:kX)(n:Nat),K.lookup a=some o/\o.cls=.type "list" /\o.dict=none/\o.data=.seq Z n/\Z.size<=sizeLine/\Vals xs Z.toList
def SqT(K:W.Frag)(H:Hp)(a:Addr)(xs:kZ):Prop:=
 Rd H a (.tup xs) \/
  ∃(o:Obj)(Z:kX)(n:Nat),K.lookup a=some o/\o.cls=.type "tuple" /\o.data=.seq Z n/\Z.size<=sizeLine/\Vals xs Z.toList
def vQ:Value->Option V
 |.none=>some .non
 |.bool b=>some<|.bl b
 |.int i _=>some<|.int i
 |.str x _=>some<|.str x
 |.bytes b _=>some<|.byt b
 |.float b _=>some<|.flt b
 |.ref a=>some<|.ref a
 |.type n=>some<|.ty n
 |_=>none
def RelV.abs(r:RelV x u):vQ u=some x:=by
 cases x with
 |non=>cases r;rfl
 |bl _=>cases r;rfl
 |int _=>obtain⟨t,rfl⟩:=r;rfl
 |str _=>obtain⟨t,rfl⟩:=r;rfl
 |byt _=>obtain⟨t,rfl⟩:=r;rfl
 |flt _=>obtain⟨t,rfl⟩:=r;rfl
 |ref _=>cases r;rfl
 |ty _=>cases r;rfl
def RelV.inj(r:RelV x u)(q:RelV y u):x=y:=ZT<|r.abs.symm.trans q.abs
theorem Vals.inj:∀{J Z:kZ}{G:kP},Vals J G->Vals Z G->J=Z
 |_,_,_,.nil,.nil=>rfl
 |_,_,_,.cons r t,.cons r' t'=>by rw[r.inj r',Vals.inj t t']
section
def SqL.of{K:W.Frag}(h:H a=some (.lst Z)):SqL K H a Z:=.inl<|.inl h
abbrev Z3:=@SqL.of
def SqT.of{K:W.Frag}(h:H a=some (.tup Z)):SqT K H a Z:=.inl<|.inl h
abbrev Z2:=@SqT.of
def Inv.list(I:Inv X G U H s)(h:SqL X.K H a J):∃Z:kP,Vals J Z/\PlainL s.heap a Z.toArray/\J.length<=sizeLine:=by
 rcases h with h|⟨o,Z,n,M,N,hd,L,O,r⟩
 .obtain ⟨z,Z,n,r,e⟩:=h.ok I.hok
  exact⟨Z,r,⟨_,n,e,Y,Y,Y⟩,z⟩
 .refine ⟨Z.toList,r,⟨o,n,I.kIn a o M,N,hd,by simpa using L⟩,?_⟩
  have e:=r.length;simp only[qK]at e;lia
def Inv.tuple(I:Inv X G U H s)(h:SqT X.K H a J):∃Z:kP,Vals J Z/\IsTup s.heap a Z.toArray/\J.length<=sizeLine:=by
 rcases h with h|⟨o,Z,n,M,N,L,O,r⟩
 .obtain ⟨z,Z,r,p⟩:=h.ok I.hok
  exact⟨Z,r,p.is,z⟩
 .refine ⟨Z.toList,r,⟨o,I.kIn a o M,N,n,by simpa using L⟩,?_⟩
  have e:=r.length;simp only[qK]at e;lia
def Inv.list_inj(I:Inv X G U H s)(h:SqL X.K H a O)(T:SqL X.K H a N):O=N:=by
 obtain⟨J,r,⟨o,n,e,_,_,d⟩,_⟩:=I.list h;obtain⟨Z,R,⟨D,E,L,_,_,M⟩,_⟩:=I.list T;rw[e]at L;cases L;rw[d]at M;injection M with B _;have:J=Z:=by simpa using congrArg Array.toList B
 subst this;exact r.inj R
def Inv.tuple_inj(I:Inv X G U H s)(h:SqT X.K H a O)(T:SqT X.K H a N):O=N:=by
 obtain⟨J,r,⟨o,e,_,n,d⟩,_⟩:=I.tuple h;obtain⟨Z,R,⟨D,L,_,E,M⟩,_⟩:=I.tuple T;rw[e]at L;cases L;rw[d]at M;injection M with B _;have:J=Z:=by simpa using congrArg Array.toList B
 subst this;exact r.inj R
end
abbrev Cx.wish(X:Cx)(E:kO):Cx:={X with xe:=E}
abbrev Cx.nox(X:Cx):Cx:=X.wish λ_ _=>False
def Cx.Ok.wish{X:Cx}(Z:X.Ok)(E:kO):(X.wish E).Ok:=
 ⟨Z.mod,Z.kind,Z.glob,Z.blt,Z.above,Z.inj,Z.has,Z.cab,Z.hd,Z.frames,Z.stk,Z.exf,Z.bs,Z.bsz,Z.noex,Z.exfs,Z.funs,Z.frf⟩
def Cx.Ok.unwish{X:Cx}(Z:(X.wish E).Ok):X.Ok:=
 ⟨Z.mod,Z.kind,Z.glob,Z.blt,Z.above,Z.inj,Z.has,Z.cab,Z.hd,Z.frames,Z.stk,Z.exf,Z.bs,Z.bsz,Z.noex,Z.exfs,Z.funs,Z.frf⟩
section
def Inv.wish(I:Inv X Z U H s)(E:kO):Inv (X.wish E) Z U H s:=⟨I.ok.wish E,I.os,I.bare,I.base,I.loc,I.cell,I.free,I.freeC,I.pin,I.hok,I.len⟩
def Inv.unwish(I:Inv (X.wish E) Z U H s):Inv X Z U H s:=⟨I.ok.unwish,I.os,I.bare,I.base,I.loc,I.cell,I.free,I.freeC,I.pin,I.hok,I.len⟩
def SP.unwish(h:SP (X.wish E) G D f L):SP X G D f L:=by
 cases f with
 |next=>obtain⟨Z,J,I,q⟩:=h;exact⟨Z,J,I.unwish,q⟩
 |brk=>obtain⟨Z,J,I,q⟩:=h;exact⟨Z,J,I.unwish,q⟩
 |cont=>obtain⟨Z,J,I,q⟩:=h;exact⟨Z,J,I.unwish,q⟩
 |ret u=>obtain⟨v,Z,J,I,r,q⟩:=h;exact⟨v,Z,J,I.unwish,r,q⟩
def PSs.nox{st:List Stmt}(h:PSs X.nox st t):PSs X st t:=λZ s U H D I J=>
 Zn (h Z s U H D (I.wish _) J) (λ_ _ q=>q.unwish) λ_ _ z=>False.elim z
end
section
variable{st:Stmt}{rest:List Stmt}{t u:TS}{te:TE}
def II:TS:=λD U H=>D.nx U H
def Yl(t u:TS):TS:=λD U H=>t {D with nx:=u D} U H
def Yo:PSs X [] II:=λ_ _ U H _ I h=>qQ ⟨U,H,I,h⟩
def YY(L:PS X st t)(G:PSs X rest u):PSs X (st::rest) (Yl t u):=by
 intro Z s U H D I h;refine wpAny_execs_cons<|thn (L Z s U H {D with nx:=u D} I h) λf J q=>?_
 cases f with
 |next=>
  obtain⟨M,O,N,q⟩:=q;exact G Z J M O D N q
 |ret v=>exact q
 |brk=>exact q
 |cont=>exact q
def YZ(J:PS X st t):PSs X [st] t:=by
 intro Z s U H D I h;refine wpAny_execs_cons<|thn (J Z s U H D I h) λf G q=>?_
 cases f with
 |next=>exact qQ q
 |ret v=>exact q
 |brk=>exact q
 |cont=>exact q
def Oz:PS X (.Pass pos) II:=λ_ _ U H _ I h=>wpAny_Pass ⟨U,H,I,h⟩
def Inv.quiet(I:Inv X Z U H s):interactive X.env=false:=by simp[interactive,I.ok.kind]
def CN(te:TE):TS:=λD U H=>te U H λ_ Z=>D.nx U Z
def VZ(L:PE X e te)(G:swapsWith e none pos.line X.env=pure false:=by rfl):PS X (.Expr e pos) (CN te):=by
 intro Z s U H D I h;exact wpAny_Expr_any (thn (L Z s U H _ I h) λv O ⟨x,N,M,R,J⟩=>⟨U,N,M,J⟩) I.quiet G
def yK(te:TE):TS:=λD U H=>te U H D.rt
def Yi(L:PE X e te):PS X (.Return (some e) pos) (yK te):=by
 intro Z s U H D I h;exact wpAny_Return_some<|thn (L Z s U H _ I h) λv O ⟨x,N,M,J,G⟩=>⟨x,U,N,M,J,G⟩
def CH:TS:=λD _ H=>D.rt .non H
def Oy:PS X (.Return none pos) CH:=λ_ _ U H _ I h=>wpAny_Return_none ⟨.non,U,H,I,rfl,h⟩
def VF(c:TT)(t u:TS):TS:=λD U H=>c U H λb Z=>if b=true then t D U Z else u D U Z
def Y3(N:PT X c tc)(R:PSs X a t)(O:PSs X b u):PS X (.If c a b pos) (VF tc t u):=by
 intro Z s U H D I h;refine wpAny_If<|thn (N Z s U H _ I h) λd J ⟨M,L,G⟩=>?_
 cases d with
 |true=>exact R Z J U M D L G
 |false=>exact O Z J U M D L G
def SA:TS:=λ_ _ _=>False
def J4:PSs X sts SA:=λ_ _ _ _ _ _ h=>h.elim
end
abbrev TG:=V->St->Hp->(pe)->Prop
abbrev TGs:=List V->St->Hp->(pe)->Prop
def PG(X:Cx)(target:Expr)(t:TG):Prop:=
 ∀(Z:kM)(s:Shared)(U:St)(H:Hp)(v:V)(u:Value)(Q:pe),Inv X Z U H s->RelV v u->t v U H Q->
  wpAny (model X.prog X.w) X.A (assign target X.env u) (λ_ L=>∃J G,Inv X Z J G L/\Q J G) X.xe s
def PGs(X:Cx)(ts:pB)(t:TGs):Prop:=
 ∀(Z:kM)(s:Shared)(U:St)(H:Hp)(J:kZ)(G:kP)(Q:pe),Inv X Z U H s->Vals J G->t J U H Q->
  wpAny (model X.prog X.w) X.A (assignInOrder ((assignEach ts X.env).map (·.2)) G) (λ_ N=>∃L M,Inv X Z L M N/\Q L M) X.xe s
abbrev zj:=V->V->V->Hp->(Hp->Prop)->Prop
def yF(X:Cx)(t:zj):Prop:=
 ∀(Z:kM)(s:Shared)(U:St)(H:Hp)(o i v:V)(J G u:Value)(Q:Hp->Prop),Inv X Z U H s->RelV o J->RelV i G->RelV v u->t o i v H Q->
  wpAny (model X.prog X.w) X.A (setItem J G u) (λ_ M=>∃L,Inv X Z U L M/\Q L) X.xe s
abbrev TIp:=V->V->Hp->VK->Prop
def PIp(X:Cx)(op:Operator)(t:TIp):Prop:=
 ∀(Z:kM)(s:Shared)(U:St)(H:Hp)(x y:V)(v u:Value)(Q:VK),Inv X Z U H s->RelV x v->RelV y u->t x y H Q->
  wpAny (model X.prog X.w) X.A (inplaceOp op v u) (EP X Z U Q) X.xe s
section
variable{X:Cx}
def Vv(i:Nat):TG:=λv U H Q=>Q (U.set i<|some v) H
def Ym(i:Nat)(L:X.N.Nodup)(J:X.N[i]?=some x:=by exact Y)(hx:Loc X.env.scope x:=by exact Or.inl Y)(G:X.fn x=true\/X.env.scope.names.lookup x=some .local:=by first|exact .inl Y|exact .inr Y|assumption):PG X (.Name x pos) (Vv i):=by
 intro Z s U H v u Q I r h;exact wpAny_assign_Name<|Gh I L J hx r (λN M=>⟨_,H,M,h⟩) G
def Td:TGs:=λvs U H Q=>match vs with
 |[]=>Q U H
 |_=>False
def Td.old(h:Td Z U H Q):Z=[]/\Q U H:=by
 match Z,h with
 |[],h=>exact⟨Y,h⟩
def Jl(t:TG)(u:TGs):TGs:=λvs U H Q=>match vs with
 |v::r=>t v U H λU' H'=>u r U' H' Q
 |_=>False
def Jl.old(h:Jl t u Z U H Q):∃v r,Z=v::r/\t v U H λJ G=>u r J G Q:=by
 match Z,h with
 |v::r,h=>exact⟨v,r,Y,h⟩
def VM:PGs X [] Td:=by
 intro Z s U H J G Q I r h;replace h:=Td.old h;obtain⟨e,h⟩:=h;subst e;cases r;exact assignInOrder_nil ⟨U,H,I,h⟩
def Yn(R:PG X e t)(O:PGs X J u)(N:(assignEach (e::J) X.env).map (·.2)=assign e X.env::(assignEach J X.env).map (·.2):=by rfl):PGs X (e::J) (Jl t u):=by
 intro Z s U H E A Q I r h;replace h:=Jl.old h;obtain⟨v,F,T,h⟩:=h;subst T
 cases r with
 |cons r L=>
  rw[N];refine assignInOrder_cons<|thn (R Z s U H _ _ _ I r h) λ_ G ⟨σ1,D,B,M⟩=>?_;exact O Z G σ1 D _ _ Q B L M
def Nd(K:W.Frag)(n:Nat)(t:TGs):TG:=λv U H Q=>JI v λa=>∃Z,SqT K H a Z/\Z.length=n/\t Z U H Q
def Ve(F:X.calm=true)(h:PGs X L t)(D:(assignEach L X.env).length=n:=by rfl)(G:(assignEach L X.env).findIdx? (·.1)=none:=by rfl):PG X (.Tuple L k pos) (Nd X.K n t):=by
 intro Z s U H v u Q I r J;replace J:=JI.old J;obtain⟨a,S,N,B,E,J⟩:=J;subst S;cases r;obtain⟨O,M,T,P⟩:=I.tuple B;refine assign_Tuple_tuple (I.ok.hd F) T (by simp[D,<-E,M.length]) G λA R=>?_;have C:Inv X Z U H {s with heap:=A}:=I.kept (t':=s.toks) λb o e=>R b o (Ze<|ZP e) e;exact h Z _ U H N _ Q C (by simpa using M) J
def vH(to ti:TE)(t:zj):TG:=λv U H Q=>to U H λo G=>ti U G λi J=>t o i v J λZ=>Q U Z
def MQ(E:PE X o to)(F:PE X i ti)(D:yF X t)(A:∀v,assign (.Subscript o i pos) X.env v=(do
   let J <-holding [v] (eval o X.env)
   let G <-holding [v,J] (eval i X.env)
   standAt pos
   holding [v,J,G] (setItem J G v)
   release [v,J,G] []):=by intro _;rfl):PG X (.Subscript o i pos) (vH to ti t):=by
 intro Z s U H v u Q I r h;rw[A];refine Zl<|wpAny_holding<|thn (E Z s U H _ I h) λJ M ⟨x,q,P,O,B⟩=>?_;refine Zl<|wpAny_holding<|thn (F Z M U q _ P B) λG L ⟨y,z,C,N,T⟩=>?_;refine Zl<|jm<|Zl<|wpAny_holding<|thn (D Z L U z x y v J G u _ C O N r T) λ_ m ⟨j,S,R⟩=>?_;exact wpAny_release ⟨U,j,S,R⟩
def N8(te:TE)(g:TG):TS:=λD U H=>te U H λx Z=>g x U Z D.nx
def Jw(R:PE X e te)(O:PG X tg g)(N:swapsWithSole [tg] e pos.line X.env=pure false:=by rfl)(M:swappedStores [tg] e X.env=pure none:=by rfl)(T:(assignEach [tg] X.env).map (·.2)=[assign tg X.env]:=by rfl):PS X (.Assign [tg] e pos) (N8 te g):=by
 intro Z s U H D I h;refine wpAny_Assign_stores (thn (R Z s U H _ I h) λv J ⟨x,E,B,G,L⟩=>?_) N M;rw[T];exact thn (O Z J U E x v _ B G L) λ_ F q=>q
def Yz(i:Nat)(R:X.N.Nodup)(O:PE X e te)(M:X.N[i]?=some x:=by exact Y)(hx:Loc X.env.scope x:=by exact Or.inl Y)(L:swapsWith e (some<|.Name x pos') pos.line X.env=pure false:=by rfl)(N:X.fn x=true\/X.env.scope.names.lookup x=some .local:=by first|exact .inl Y|exact .inr Y|assumption):
  PS X (.Assign [.Name x pos'] e pos) (N8 te<|Vv i):=by
 intro Z s U H D I h;refine wpAny_Assign_Name (thn (O Z s U H _ I h) λv A ⟨y,E,B,J,G⟩=>?_) L;exact Gh B R M hx J (λF T=>⟨_,E,T,G⟩) N
def yQ(i:Nat)(te:TE)(ti:TIp):TS:=λD U H=>∃x,U[i]?=some (some x)/\te U H λy J=>ti x y J λz Z=>D.nx (U.set i<|some z) Z
def KJ(g:X.N.Nodup)(R:X.N[i]?=some x)(O:Loc X.env.scope x)(q:PE X e te)(S:PIp X op ti)(j:X.fn x=true\/X.env.scope.names.lookup x=some .local:=by first|exact .inl Y|exact .inr Y|assumption):
  PS X (.AugAssign (.Name x pos') op e pos) (yQ i te ti):=by
 intro Z s U H D I h;obtain⟨v,p,h⟩:=h;obtain⟨m,C,Q⟩:=I.loc;have N:Vis X.env.scope x:=by rcases O with k|k;exact .inl k;exact .inr<|.inl k
 obtain⟨u,r,l⟩:=Q i x v R p N;refine wpAny_AugAssign_Name ?_
 have go:wpAny (model X.prog X.w) X.A (eval e X.env) (λw M=>wpAny (model X.prog X.w) X.A (inplaceOp op u w) (λr L=>wpAny (model X.prog X.w) X.A (storeName X.env x r) (λ_=>SP X Z D .next) X.xe L) X.xe M) X.xe s:=by
  refine thn (q Z s U H _ I h) λw T ⟨y,n,b,E,A⟩=>?_;refine thn (S Z T U n v y u w _ b r E A) λz s2 ⟨a,o,f,B,F⟩=>?_;exact Gh f g R O B (λs3 d=>⟨_,o,d,F⟩) j
 rcases l with⟨J,P⟩|⟨J,c,t,G⟩
 .exact wpAny_loadName_local I.ok.kind J C P go
 .rcases J with J|J
  .exact wpAny_loadName_cell I.ok.kind J t G go
  .rcases O with k|k
   .have:X.env.scope.names.lookup x=some .free:=J
    rw[k]at this;cases this
   .have:X.env.scope.names.lookup x=some .free:=J
    rw[k]at this;cases this
end
section
def N6(c:TT)(tb:TS):TS:=λD U H=>∃W:pc,(∃m,W m U H)/\∀m U H,W m U H->
 c U H λb G=>if b=true then ∃N:pe,(∀J L,N J L->∃Z,Z<m/\W Z J L)/\tb {D with nx:=N,ct:=N,bk:=D.nx} U G else D.nx U G
def NI(E:PassesOwn (model X.prog X.w) X.A X.env X.xe)(g:PT X c tc)(k:PSs X body tb):PS X (.While c body [] pos) (N6 tc tb):=by
 intro Z s U H D I h;obtain⟨W,⟨m,y⟩,turn⟩:=h;refine wpAny_While<|codeAny_whileLoop (λn t=>∃A Q,Inv X Z A Q t/\W n A Q) ?_ m ⟨U,H,I,y⟩;rintro n q ⟨σ1,P,p,j⟩;refine jE E<|thn (g Z q σ1 P _ p<|turn n σ1 P j) λb z ⟨C,S,L⟩=>?_
 cases b with
 |true=>
  obtain⟨N,F,L⟩:=L;rw[Zp rfl];refine jE E<|thn (k Z z σ1 C _ S L) λf d G=>?_
  cases f with
  |next=>
   obtain⟨σ3,J,B,O⟩:=G;obtain⟨R,T,M⟩:=F σ3 J O;exact⟨R,T,σ3,J,B,M⟩
  |cont=>
   obtain⟨σ3,J,B,O⟩:=G;obtain⟨R,T,M⟩:=F σ3 J O;exact⟨R,T,σ3,J,B,M⟩
  |brk=>exact G
  |ret v=>exact G
 |false=>
  rw[Zq Zi];exact qQ ⟨σ1,C,S,L⟩
end
structure It where
 go:Nat->Hp->Prop
 yld:Nat->Hp->V->Hp->Prop
 stop:Nat->Hp->Prop
def J1(X:Cx)(pins:kM)(H:Hp)(b:Addr):Prop:=
 H b=none/\b≠X.env.locals/\b∉X.fs/\(b∈X.ex\/X.s₀.heap.objs.size<=b)/\(∀x c,X.env.cells.lookup x=some c->c≠b)/\∀p∈X.pn++ pins,p.1≠b
def Inv.fpOk(I:Inv X Z U H s)(J:s.heap.objs.size<=b)(L:M b=none):J1 X Z M b:=by
 refine⟨L,jp<|Zx I.lt J,I.nofs J,.inr<|Zb I.sz J,λx c e z=>?_,λp G z=>?_⟩
 .obtain ⟨v,q⟩:=I.cell x c e
  exact Zr (Zx q.lt (by rw[z];exact J))<|vw _
 .exact Zr (Zx (ZP (I.pin p G).1) (by rw[z];exact J)) (vw _)
structure Turn(P:Program)(w:World)(K:W.Frag)(tg:Expr)(J:It)(fp:List Addr)(it:Addr)(tn:Nat->Heap->Prop):Prop where
 mem:it∈fp
 obj:∀i h,tn i h->∀b∈fp,∃o,h.get? b=some o/\∀v,o.data≠.cell v
 keep:∀i h h',tn i h->(∀b∈fp,∀o,h.get? b=some o->h'.get? b=some o)->tn i h'
 item:∀(X:Cx),X.prog=P->X.w=w->X.K=K->X.calm=true->∀(i:Nat)(pins:List (Addr×Obj))(s:Shared)(U:St)(H:Hp)(E:Value->Shared->Prop),Inv X pins U H s->(∀b∈fp,J1 X pins H b)->tn i s.heap->J.go i H->
  wpAny (model P w) X.A (pyNext (.ref it)) (λr s1=>∃u,r=some u/\
   wpAny (model P w) X.A (letOwnedTupleGo tg (.ref it) u) (λ_ s2=>∃x H',Inv X pins U H' s2/\RelV x u/\J.yld i H x H'/\tn (i+1) s2.heap/\∀b∈fp,H' b=none) E s1) E s
 done:∀(X:Cx),X.prog=P->X.w=w->X.K=K->X.calm=true->∀(i:Nat)(pins:List (Addr×Obj))(s:Shared)(U:St)(H:Hp)(E:Value->Shared->Prop),Inv X pins U H s->(∀b∈fp,J1 X pins H b)->tn i s.heap->J.stop i H->
  wpAny (model P w) X.A (pyNext (.ref it)) (λr s1=>r=none/\Inv X pins U H s1) E s
 self:∀(A:Around)(i:Nat)(s:Shared)(Q:Value->Shared->Prop)(E:Value->Shared->Prop),tn i s.heap->Q (.ref it) s->wpAny (model P w) A (pyIter (.ref it)) Q E s
abbrev TI:=St->Hp->(It->Hp->Prop)->Prop
def PIE(X:Cx)(pins:kM)(U:St)(tg:Expr)(R:It->Hp->Prop)(itv:Value)(s2:Shared):Prop:=
 ∃(L:Addr)(M:kU)(G:Nat->Heap->Prop)(J:It)(Z:Hp),itv=.ref L/\Inv X pins U Z s2/\Turn X.prog X.w X.K tg J M L G/\G 0 s2.heap/\(∀b∈M,J1 X pins Z b)/\R J Z
def PI(X:Cx)(tg iter:Expr)(wi:TI):Prop:=
 ∀(Z:kM)(s:Shared)(U:St)(H:Hp)(R:It->Hp->Prop),Inv X Z U H s->wi U H R->
  wpAny (model X.prog X.w) X.A (eval iter X.env) (λv J=>wpAny (model X.prog X.w) X.A (pyIter v) (PIE X Z U tg R) X.xe J) X.xe s
def LY(G:s.heap.get? it=some o)(N:o.cls=.type n)(hd:o.data=.fields J)(L:["enumerate","zip","dict_itemiterator","dict_reverseitemiterator","odict_iterator","itertools.zip_longest","itertools.pairwise"].contains n=false)(Z:Q () s):wpAny M A (letOwnedTupleGo tg (.ref it) u) Q E s:=by
  unfold letOwnedTupleGo;cases tg <;> first
    |exact Zm Z
    | (cases u <;> first
        |exact Zm Z
        | (refine Zl<|wpAny_load G ?_
           rw[N,hd];show wpAny M A (if(["enumerate","zip","dict_itemiterator","dict_reverseitemiterator","odict_iterator","itertools.zip_longest","itertools.pairwise"].contains n && J[0]?==some (rawInt _))=true then _ else _) Q E s;rw[Zq (by intro h;rw[L,Bool.false_and]at h;cases h)];exact Zm Z))
def Itl(K:W.Frag)(a:Addr):It:=
 ⟨λi H=>∃Z x,SqL K H a Z/\Z[i]?=some x,λi H x J=>J=H/\∀Z,SqL K H a Z->Z[i]?=some x,λi H=>∃Z,SqL K H a Z/\Z.length<=i⟩
def Itt(K:W.Frag)(a:Addr):It:=
 ⟨λi H=>∃Z x,SqT K H a Z/\Z[i]?=some x,λi H x J=>J=H/\∀Z,SqT K H a Z->Z[i]?=some x,λi H=>∃Z,SqT K H a Z/\Z.length<=i⟩
def Itr(lo:Int)(n:Nat):It:=⟨λi _=>i<n,λi H x Z=>Z=H/\x=.int (lo+i),λi _=>n<=i⟩
def Ex{P:Program}{w:World}{K:W.Frag}{m:Expr}(a it:Addr):Turn P w K m (Itl K a) [it] it (λi h=>h.IsListIter it a i) where
 mem:=by simp
 obj:=λi h st b J=>by
  have e:b=it:=by simpa using J
  subst e;obtain⟨o,e,c,d⟩:=st;exact⟨o,e,λv z=>by rw[d]at z;cases z⟩
 keep:=λi h N st k=>st.at λo e=>k it (by simp) o e
 item:=by
  intro X F B A q i Z s U H E I M st D;subst F B A;obtain⟨t,x,L,T⟩:=D;obtain⟨R,O,p,r⟩:=I.list L;obtain⟨u,n,f⟩:=O.get T;obtain⟨y,j,f2,Q,C,S⟩:=M it (by simp);refine wpAny_pyNext_list_item st p.isList (x:=u) (by simpa using n) λN G g=>?_;have I1:Inv X Z U H {s with heap:=N}:=I.turned (t':=s.toks) (λb o J e=>(g.2 b J).trans e) y j Q C S;obtain⟨o,e,c,d⟩:=id G;exact⟨u,Y,LY (s:={s with heap:=N}) e c d (by decide) ⟨x,H,I1,f,⟨Y,λys l=>by rw[I.list_inj l L];exact T⟩,G,λb J=>(M b J).1⟩⟩
 done:=by
  intro X F B A q i Z s U H E I M st D;subst F B A;obtain⟨t,L,T⟩:=D;obtain⟨R,O,p,r⟩:=I.list L;obtain⟨y,j,f2,Q,C,S⟩:=M it (by simp);have hl:=O.length;exact wpAny_pyNext_list_end (I.ok.hd q) st p.isList (by simp;lia) λN eb=>⟨Y,I.turned (t':=s.toks) (λb o J e=>eb b o J e) y j Q C S⟩
 self:=λ_ _ _ _ _ st h=>wpAny_pyIter_listiter st h
def N2{P:Program}{w:World}{K:W.Frag}{m:Expr}(a it:Addr):Turn P w K m (Itt K a) [it] it (λi h=>h.IsTupleIter it a i) where
 mem:=by simp
 obj:=λi h st b G=>by
  have e:b=it:=by simpa using G
  subst e;obtain⟨o,e,c,d⟩:=st;exact⟨o,e,λv z=>by rw[d]at z;cases z⟩
 keep:=λi h O st k=>st.at λo e=>k it (by simp) o e
 item:=by
  intro X F B A q i Z s U H E I N st D;subst F B A;obtain⟨t,x,M,T⟩:=D;obtain⟨J,R,p,r⟩:=I.tuple M;obtain⟨u,n,f⟩:=R.get T;obtain⟨y,j,f2,Q,C,S⟩:=N it (by simp);refine wpAny_pyNext_tuple_item st (show s.heap.IsTuple a J.toArray from p) (x:=u) (by simpa using n) λO L g=>?_;have I1:Inv X Z U H {s with heap:=O}:=I.turned (t':=s.toks) (λb o G e=>(g.2 b G).trans e) y j Q C S;obtain⟨o,e,c,d⟩:=id L;exact⟨u,Y,LY (s:={s with heap:=O}) e c d (by decide) ⟨x,H,I1,f,⟨Y,λys l=>by rw[I.tuple_inj l M];exact T⟩,L,λb G=>(N b G).1⟩⟩
 done:=by
  intro X F B A q i Z s U H E I N st D;subst F B A;obtain⟨t,M,T⟩:=D;obtain⟨J,R,p,r⟩:=I.tuple M;obtain⟨y,j,f2,Q,C,S⟩:=N it (by simp);have hl:=R.length;exact wpAny_pyNext_tuple_end (I.ok.hd q) st (show s.heap.IsTuple a J.toArray from p) (by simp;lia) λO eb=>⟨Y,I.turned (t':=s.toks) (λb o G e=>eb b o G e) y j Q C S⟩
 self:=λ_ _ _ _ _ st h=>wpAny_pyIter_tupleiter st h
def N3{P:Program}{w:World}{K:PySem.W.Frag}{q:Expr}(it:Addr)(L:Int)(n:Nat):Turn P w K q (Itr L n) [it] it (λi h=>IsRangeIter h it (L+(i:Nat)*1) ((n:Int)-(i:Nat)) 1) where
 mem:=by simp
 obj:=λi h st b J=>by
  have e:b=it:=by simpa using J
  subst e
  exact⟨_,st,λv z=>by
   have y:Data.fields _=Data.cell v:=z;cases y⟩
 keep:=λi h N st k=>k it (by simp) _ st
 item:=by
  intro X B O D T i Z s U H E I M st R;subst B O D;obtain⟨Q,C,p,S,A,F⟩:=M it (by simp);have W:=Walks.range (prog:=X.prog) (w:=X.w) (I.ok.hd T) it L 1 n;refine W.item i s _ _ R st λv N j g G m=>?_;obtain⟨t,rfl⟩:=g;have d:Inv X Z U H {s with heap:=N,toks:=j}:=I.turned (λb o J e=>m b o (by simpa using J) e) Q C S A F;refine⟨_,Y,LY (s:={s with heap:=N,toks:=j}) (n:="range_iterator") G Y Y (by decide) ⟨.int<|L+i,H,d,⟨t,?_⟩,⟨rfl,rfl⟩,G,λb J=>(M b J).1⟩⟩;rw[Int.mul_one]
 done:=by
  intro X B O D T i Z s U H E I M st R;subst B O D;obtain⟨Q,C,p,S,A,F⟩:=M it (by simp);exact wpAny_pyNext_range_end (I.ok.hd T) st (by have:n<=i:=R;lia) λN c=>⟨Y,I.turned (t':=s.toks) (λb o J e=>c b o J e) Q C S A F⟩
 self:=λ_ _ _ _ _ st h=>wpAny_pyIter_rangeiter st h
end L2
namespace L2
open PySem PySem.Spec PyProof.Rows
section
def Qo(K:W.Frag)(tl:TE):TI:=λU H R=>tl U H λx Z=>JI x λa=>(∃J,SqL K Z a J)/\R (Itl K a) Z
def y0(K:W.Frag)(tl:TE):TI:=λU H R=>tl U H λx Z=>JI x λa=>(∃J,SqT K Z a J)/\R (Itt K a) Z
def Jz(T:PE X l tl):PI X tg l (Qo X.K tl):=by
 intro Z s U H R I h;refine thn (T Z s U H _ I h) λv J ⟨x,D,G,M,L⟩=>?_;replace L:=JI.old L;obtain⟨a,e,⟨E,O⟩,q⟩:=L;subst e;cases M;obtain⟨N,F,p,A⟩:=G.list O;refine qw p.isList ?_;refine⟨J.heap.objs.size,[J.heap.objs.size],_,_,D,Y,G.kept (t':=J.toks) λb o e=>ZE _ e,Ex a _,⟨_,ZY _ Y,Y,Y⟩,λb B=>?_,q⟩;have e:b=J.heap.objs.size:=by simpa using B
 subst e;exact G.fpOk (ZG _)<|G.hok.fresh<|ZG _
def J9(T:PE X l tl):PI X tg l (y0 X.K tl):=by
 intro J s U H R I h;refine thn (T J s U H _ I h) λv Z ⟨x,D,G,N,L⟩=>?_;replace L:=JI.old L;obtain⟨a,e,⟨E,O⟩,q⟩:=L;subst e;cases N;obtain⟨M,F,p,A⟩:=G.tuple O;refine wpAny_pyIter_tuple (show Z.heap.IsTuple a M.toArray from p) ?_;refine⟨Z.heap.objs.size,[Z.heap.objs.size],_,_,D,Y,G.kept (t':=Z.toks) λb o e=>ZE _ e,N2 a _,⟨_,ZY _ Y,Y,Y⟩,λb B=>?_,q⟩;have e:b=Z.heap.objs.size:=by simpa using B
 subst e;exact G.fpOk (ZG _)<|G.hok.fresh<|ZG _
def I0{Z J:Int}(I:Inv X G U H s)(B: -(2 ^ 62)<=Z)(T:Z<2 ^ 62)(O: -(2 ^ 62)<=J)(N:J<2 ^ 62)(q:R (Itr Z (J-Z).toNat) H):wpAny (model X.prog X.w) X.A (pyIter<|.ref s.heap.objs.size) (PIE X G U tg R) E {s with heap:=s.heap.push {cls:=.type "range",data:=.fields #[.int Z t,.int J u,.int 1 v]},toks:=tk}:=by
 refine wpAny_pyIter_range (IsRange.new ..) (small_one B T O N) ?_;have L:Inv X G U H {s with heap:=s.heap.push {cls:=.type "range",data:=.fields #[.int Z t,.int J u,.int 1 v]},toks:=tk}:=I.kept λb o e=>ZE _ e;refine⟨(s.heap.push {cls:=.type "range",data:=.fields #[.int Z t,.int J u,.int 1 v]}).objs.size,[(s.heap.push {cls:=.type "range",data:=.fields #[.int Z t,.int J u,.int 1 v]}).objs.size],_,_,H,Y,
  L.kept (t':=tk) λb o e=>ZE _ e,N3 _ Z (J-Z).toNat,?_,λb M=>?_,q⟩
 .have e1:Z+((0:Nat):Int)*1=Z:=by simp
  have D:(((J-Z).toNat:Nat):Int)-((0:Nat):Int)=Builtin.Range.rangeSize Z J 1:=by rw[rangeSize_one];split <;> omega
  show IsRangeIter _ _ (Z+((0:Nat):Int)*1) ((((J-Z).toNat:Nat):Int)-((0:Nat):Int)) 1;rw[e1,D];exact ZY _ Y
 .have e:b=(s.heap.push {cls:=.type "range",data:=.fields #[.int Z t,.int J u,.int 1 v]}).objs.size:=by simpa using M
  subst e;exact L.fpOk (ZG _)<|L.hok.fresh<|ZG _
def zS(ta:TA):TI:=λU H R=>ta U H λZ J=>∃j:Int,Z=[.int j]/\ -(2 ^ 62)<=j/\j<2 ^ 62/\R (Itr 0 j.toNat) J
def JL(T:Gl X "range")(O:X.mg "range"=none)(B:PA X [a] ta)(N:starEach [a] X.env=[(false,eval a X.env)]:=by rfl):PI X tg (.Call (.Name "range" p) [a] [] pos) (zS ta):=by
 intro Z s U H R I h;refine Call_<|U2 I T O boot_range<|ja (thn (B pos Z s U H _ I h) λF A ⟨E,S,D,L,J⟩=>?_) N rfl;obtain⟨j,e,J,M,q⟩:=J;subst e
 cases L with
 |cons r G=>
  cases G;obtain⟨t,rfl⟩:=r;exact call_range_1<|I0 D (by lia) (by lia) J M<|by simpa using q
def XS(wi:TI)(g:TG)(tb:TS):TS:=λD U H=>wi U H λJ O=>∃W:Nat->Nat->St->Hp->Prop,(∃m,W 0 m U O)/\∀i m U H,W i m U H->
 (J.stop i H/\D.nx U H)\/(J.go i H/\∃N:pe,(∀L Z,N L Z->∃G,G<m/\W (i+1) G L Z)/\∀x Z,J.yld i H x Z->g x U Z fun σ2 M=>tb {D with nx:=N,ct:=N,bk:=D.nx} σ2 M)
def VN(fp:kU)(h:Heap):kM:=fp.filterMap λb=>(h.get? b).map λo=>(b,o)
def Vr(Z:b∈fp)(e:h.get? b=some o):(b,o)∈VN fp h:=List.mem_filterMap.mpr ⟨b,Z,by rw[e];rfl⟩
def XJ(Z:p∈VN fp h):p.1∈fp/\h.get? p.1=some p.2:=by
 obtain⟨b,J,e⟩:=List.mem_filterMap.mp Z
 cases q:h.get? b with
 |none=>rw[q]at e;cases e
 |some o=>
  rw[q]at e;have G:(b,o)=p:=ZT e;subst G;exact⟨J,q⟩
def Inv.pinned(I:Inv X Z U H s)(N:∀b∈fp,J1 X Z H b)(M:∀b∈fp,∃o,s.heap.get? b=some o/\∀v,o.data≠.cell v):Inv X (Z++ VN fp s.heap) U H s:=
 I.pins_of λp L=>(ZX.mp L).elim (λz=>I.pin p<|ZU _ z) λz=>by
  obtain⟨J,e⟩:=XJ z;obtain⟨T,R,O,_⟩:=N p.1 J;obtain⟨o,G,d⟩:=M p.1 J;rw[e]at G;cases G;exact⟨e,T,R,O,d⟩
def Inv.unpinned(I:Inv X (Z++ pl) U H s):Inv X Z U H s:=I.pins_of λp J=>I.pin p<|ZU _<|vm _ J
def Ja(S:PassesOwn (model X.prog X.w) X.A X.env X.xe)(a:X.calm=true)(hi:PI X tg iter wi)(hg:PG X tg g)(L:PSs X body tb)(hs:∀x,foldedSetIterable iter X.env x=pure x:=by intro _;rfl):PS X (.For tg iter body [] pos) (XS wi g tb):=by
 intro Z s U H D I h;refine wpAny_For (thn (hi Z s U H _ I h) λv s1 h1=>thn h1 λJ2 s2 h2=>?_) hs;obtain⟨it,P,p,J,H2,e,I2,T,y,f2,W,⟨m0,w0⟩,turn⟩:=h2;subst e;have G:∀{R:Hp},(∀b∈P,R b=none)->∀b∈P,J1 X Z R b:=λhn b L=>⟨hn b L,(f2 b L).2⟩;refine codeAny_forLoop_any (λn l=>∃i Q R,Inv X Z Q R l/\p i l.heap/\(∀b∈P,R b=none)/\W i n Q R) ?_ m0 ⟨0,U,H2,I2,y,λb L=>(f2 b L).1,w0⟩;rintro n w ⟨i,σ3,j,I3,F,C,w3⟩;rcases turn i n σ3 j w3 with⟨stop,qn⟩|⟨go,N,hN,step⟩
 .refine jE S (thn (T.done X rfl rfl rfl a i Z w σ3 j X.xe I3 (G C) F stop) λr s4 ⟨q,I4⟩=>?_)
  subst q;exact qQ ⟨σ3,j,I4,qn⟩
 .refine jE S (thn (T.item X rfl rfl rfl a i Z w σ3 j X.xe I3 (G C) F go) λr s4 ⟨u,q,h4⟩=>?_)
  subst q;refine jE S<|thn h4 λ_ c ⟨x,H5,I5,r5,y5,E,t⟩=>?_;have k:=I5.pinned (G t)<|T.obj _ _ E;refine jE S<|thn (hg _ c σ3 H5 x u _ k r5<|step x H5 y5) λ_ s6 ⟨σ6,H6,I6,q6⟩=>?_;refine jE S<|thn (L _ s6 σ6 H6 _ I6 q6) λf z B=>?_
  have again:∀{σ7:St}{O:Hp},Inv X (Z++ VN P c.heap) σ7 O z->N σ7 O->∃m,m<n/\∃i Q R,Inv X Z Q R z/\p i z.heap/\(∀b∈P,R b=none)/\W i m Q R:=λ{σ7 O} M A=>by
   obtain⟨m',hm,w7⟩:=hN σ7 O A;refine⟨m',hm,i+1,σ7,O,M.unpinned,T.keep _ _ _ E λb L o e=>(M.pin (b,o)<|ZU _<|ZU _<|Vr L e).1,λb L=>?_,w7⟩;obtain⟨o,e,d⟩:=T.obj _ _ E b L;exact(M.pin (b,o)<|ZU _<|ZU _<|Vr L e).2.1
  cases f with
  |next=>obtain⟨σ7,O,M,A⟩:=B;exact again M A
  |cont=>obtain⟨σ7,O,M,A⟩:=B;exact again M A
  |brk=>obtain⟨σ7,O,M,B⟩:=B;exact⟨σ7,O,M.unpinned,B⟩
  |ret v=>obtain⟨x7,σ7,O,M,r7,B⟩:=B;exact⟨x7,σ7,O,M.unpinned,r7,B⟩
end
def Li{K:PySem.W.Frag}{g:TG}{O:TS}{D:Ends}(J:pc)(I:J 0 U H)(F:∀i U H,i<=Z.length->J i U H->SqL K H a Z)(E:∀i x U H,Z[i]?=some x->J i U H->g x U H fun σ2 M=>O {D with nx:=J<|i+1,ct:=J<|i+1,bk:=D.nx} σ2 M)(hd:∀U H,J Z.length U H->D.nx U H):
  ∃W:Nat->Nat->St->Hp->Prop,(∃m,W 0 m U H)/\∀i m U H,W i m U H->
   ((Itl K a).stop i H/\D.nx U H)\/((Itl K a).go i H/\∃N:pe,(∀L G,N L G->∃R,R<m/\W (i+1) R L G)/\∀x G,(Itl K a).yld i H x G->g x U G fun σ2 M=>O {D with nx:=N,ct:=N,bk:=D.nx} σ2 M):=by
 refine⟨λi m U H=>m=Z.length-i/\i<=Z.length/\J i U H,⟨Z.length,by simp,Zc _,I⟩,?_⟩;rintro i m U H ⟨rfl,A,p⟩;have q:=F i U H A p
 by_cases hlt:i<Z.length
 .refine .inr ⟨⟨Z,Z[i],q,by simp[hlt]⟩,J<|i+1,λL G T=>⟨Z.length-(i+1),by lia,rfl,hlt,T⟩,λx G y=>?_⟩
  obtain⟨e,y⟩:=y;subst e;exact E i x U _ (y Z q) p
 .have e:i=Z.length:=by lia
  subst e;exact .inl ⟨⟨Z,q,ZG _⟩,hd U H p⟩
def Ec{K:PySem.W.Frag}{g:TG}{M:TS}{D:Ends}(Z:pc)(A:Z 0 U H)(E:∀i U H,i<=xs.length->Z i U H->SqT K H a xs)(B:∀i x U H,xs[i]?=some x->Z i U H->g x U H fun σ2 L=>M {D with nx:=Z<|i+1,ct:=Z<|i+1,bk:=D.nx} σ2 L)(hd:∀U H,Z xs.length U H->D.nx U H):
  ∃W:Nat->Nat->St->Hp->Prop,(∃m,W 0 m U H)/\∀i m U H,W i m U H->
   ((Itt K a).stop i H/\D.nx U H)\/((Itt K a).go i H/\∃N:pe,(∀G J,N G J->∃O,O<m/\W (i+1) O G J)/\∀x J,(Itt K a).yld i H x J->g x U J fun σ2 L=>M {D with nx:=N,ct:=N,bk:=D.nx} σ2 L):=by
 refine⟨λi m U H=>m=xs.length-i/\i<=xs.length/\Z i U H,⟨xs.length,by simp,Zc _,A⟩,?_⟩;rintro i m U H ⟨rfl,F,p⟩;have q:=E i U H F p
 by_cases hlt:i<xs.length
 .refine .inr ⟨⟨xs,xs[i],q,by simp[hlt]⟩,Z<|i+1,λG J R=>⟨xs.length-(i+1),by lia,rfl,hlt,R⟩,λx J y=>?_⟩
  obtain⟨e,y⟩:=y;subst e;exact B i x U _ (y xs q) p
 .have e:i=xs.length:=by lia
  subst e;exact .inl ⟨⟨xs,q,ZG _⟩,hd U H p⟩
def FV{G:Int}{g:TG}{O:TS}{D:Ends}(Z:pc)(F:Z 0 U H)(E:∀i U H,i<n->Z i U H->g (.int<|G+i) U H fun σ2 M=>O {D with nx:=Z<|i+1,ct:=Z<|i+1,bk:=D.nx} σ2 M)(hd:∀U H,Z n U H->D.nx U H):
  ∃W:Nat->Nat->St->Hp->Prop,(∃m,W 0 m U H)/\∀i m U H,W i m U H->
   ((Itr G n).stop i H/\D.nx U H)\/((Itr G n).go i H/\∃N:pe,(∀L J,N L J->∃R,R<m/\W (i+1) R L J)/\∀x J,(Itr G n).yld i H x J->g x U J fun σ2 M=>O {D with nx:=N,ct:=N,bk:=D.nx} σ2 M):=by
 refine⟨λi m U H=>m=n-i/\i<=n/\Z i U H,⟨n,by simp,Zc _,F⟩,?_⟩;rintro i m U H ⟨rfl,A,p⟩
 by_cases hlt:i<n
 .refine .inr ⟨hlt,Z<|i+1,λL J T=>⟨n-(i+1),by lia,rfl,hlt,T⟩,λx J y=>?_⟩
  obtain⟨e,y⟩:=y;subst e y;exact E i U _ hlt p
 .have e:i=n:=by lia
  subst e;exact .inl ⟨ZG _,hd U H p⟩
abbrev R2:=V->V->Hp->VK->Prop
def OpR(X:Cx)(f:Value->Value->Sem Value)(r:R2):Prop:=
 ∀(Z:kM)(s:Shared)(U:St)(H:Hp)(x y:V)(v u:Value)(Q:VK),Inv X Z U H s->RelV x v->RelV y u->r x y H Q->
  wpAny (model X.prog X.w) X.A (f v u) (EP X Z U Q) X.xe s
def UnR(X:Cx)(f:Value->Sem Value)(r:V->Hp->VK->Prop):Prop:=
 ∀(Z:kM)(s:Shared)(U:St)(H:Hp)(x:V)(v:Value)(Q:VK),Inv X Z U H s->RelV x v->r x H Q->
  wpAny (model X.prog X.w) X.A (f v) (EP X Z U Q) X.xe s
def UL(X:Cx)(f:Value)(r:List V->Hp->VK->Prop):Prop:=
 ∀(Z:kM)(s:Shared)(U:St)(H:Hp)(J:kZ)(G:kP)(Q:VK),Inv X Z U H s->Vals J G->r J H Q->
  wpAny (model X.prog X.w) X.A (call f G) (EP X Z U Q) X.xe s
def tOp(r:R2)(ta tb:TE):TE:=λU H Q=>ta U H λx J=>tb U J λy Z=>r x y Z Q
def tUn(r:V->Hp->VK->Prop)(ta:TE):TE:=λU H Q=>ta U H λx Z=>r x Z Q
def rI(C:Int->Int->Prop)(g:Int->Int->V):R2:=λx y H Q=>U3 x λi=>U3 y λj=>C i j/\Q (g i j) H
def rI.old(h:rI C g x y H Q):∃i j,x=.int i/\y=.int j/\C i j/\Q (g i j) H:=by
 replace h:=U3.old h;obtain⟨i,e,h⟩:=h;replace h:=U3.old h;obtain⟨j,Z,h⟩:=h;exact⟨i,j,e,Z,h⟩
def rI0(g:Int->Int->V):R2:=λx y H Q=>U3 x λi=>U3 y λj=>Q (g i j) H
def rI0.old(h:rI0 g x y H Q):∃i j,x=.int i/\y=.int j/\Q (g i j) H:=by
 replace h:=U3.old h;obtain⟨i,e,h⟩:=h;replace h:=U3.old h;obtain⟨j,Z,h⟩:=h;exact⟨i,j,e,Z,h⟩
def rU(g:Int->V):V->Hp->VK->Prop:=λx H Q=>∃i,x=.int i/\Q (g i) H
section
def Ay(S:PE X a ta)(A:PE X b tb){R:V->V->Hp->Prop}(I:Inv X Z U H s)(h:ta U H λx N=>tb U N λy J=>R x y J){f:Value->Value->Sem Value}(F:∀v u M x y J,Inv X Z U J M->RelV x v->RelV y u->R x y J->wpAny (model X.prog X.w) X.A (f v u) Q X.xe M):
  wpAny (model X.prog X.w) X.A (eval a X.env) (λv L=>wpAny (model X.prog X.w) X.A (eval b X.env) (λu G=>wpAny (model X.prog X.w) X.A (f v u) Q X.xe G) X.xe L) X.xe s:=by
 refine thn (S Z s U H _ I h) λv O ⟨x,N,P,B,E⟩=>?_;refine thn (A Z O U N _ P E) λu M ⟨y,J,C,T,D⟩=>?_;exact F v u M x y J C B T D
def VB(M:OpR X (binaryOp op) r)(O:PE X a ta)(N:PE X b tb):PE X (.BinOp a op b pos) (tOp r ta tb):=by
 intro Z s U H Q I h;exact wpAny_BinOp<|Ay O N I h λv u J x y T R L G q=>M Z J U T x y v u Q R L G q
def G9(M:UnR X (unaryOp op) r)(N:PE X a ta):PE X (.UnaryOp op a pos) (tUn r ta):=by
 intro Z s U H Q I h;exact UnaryOp_<|thn (N Z s U H _ I h) λv J ⟨x,R,O,G,L⟩=>M Z J U R x v Q O G L
def opI{g:Int->Int->Int}(rule:∀(i j:Int)(t u:Tok)(s:Shared)(Q:kO)(E:kO),C i j->Q (.int (g i j) s.toks) {s with toks:=s.toks+1}->wpAny (model X.prog X.w) X.A (f (.int i t)<|.int j u) Q E s):
  OpR X f (rI C λi j=>.int<|g i j):=by
 intro Z s U H x y v u Q I L G h;replace h:=rI.old h;obtain⟨i,j,rfl,rfl,M,q⟩:=h;obtain⟨t,rfl⟩:=L;obtain⟨J,rfl⟩:=G;exact rule i j t J s _ _ M ⟨.int<|g i j,H,I.tok _,⟨_,rfl⟩,q⟩
def S9{g:Int->Int->Int}(rule:∀(i j:Int)(t u:Tok)(s:Shared)(Q:kO)(E:kO),Q (.int (g i j) s.toks) {s with toks:=s.toks+1}->wpAny (model X.prog X.w) X.A (f (.int i t)<|.int j u) Q E s):
  OpR X f (rI0 λi j=>.int<|g i j):=by
 intro Z s U H x y v u Q I L G h;replace h:=rI0.old h;obtain⟨i,j,rfl,rfl,q⟩:=h;obtain⟨t,rfl⟩:=L;obtain⟨J,rfl⟩:=G;exact rule i j t J s _ _ ⟨.int<|g i j,H,I.tok _,⟨_,rfl⟩,q⟩
def PL{g:Int->Int->Bool}(rule:∀(i j:Int)(t u:Tok)(s:Shared)(Q:kO)(E:kO),Q (.bool<|g i j) s->wpAny (model X.prog X.w) X.A (f (.int i t)<|.int j u) Q E s):
  OpR X f (rI0 λi j=>.bl<|g i j):=by
 intro Z s U H x y v u Q I L G h;replace h:=rI0.old h;obtain⟨i,j,rfl,rfl,q⟩:=h;obtain⟨t,rfl⟩:=L;obtain⟨J,rfl⟩:=G;exact rule i j t J s _ _ ⟨.bl<|g i j,H,I,rfl,q⟩
def vT(i j:Int):Prop:=0<j/\j<1073741824
def yH(i j:Int):Prop:=0<=j/\j<=1000000/\i.natAbs<2 ^ 64
def OH(i j:Int):Prop:=(-(2 ^ 64)<i/\i<2 ^ 64)\/(-(2 ^ 64)<j/\j<2 ^ 64)
def OH.ok(h:OH i j):IntMulOk i j:=by
 rcases h with⟨J,Z⟩|⟨J,Z⟩
 .exact .of_left (intBits_le_64 J Z)
 .exact .of_right (intBits_le_64 J Z)
def V9:OpR X (binaryOp .Add) (rI0 λi j=>.int<|i+j):=S9 λ_ _ _ _ _ _ _ q=>add_int q
def Bu:OpR X (binaryOp .Sub) (rI0 λi j=>.int<|i-j):=S9 λ_ _ _ _ _ _ _ q=>sub_int q
def Uz:OpR X (binaryOp .Mult) (rI OH λi j=>.int<|i*j):=opI λ_ _ _ _ _ _ _ Z q=>mul_int q Z.ok
def EF:OpR X (binaryOp .FloorDiv) (rI vT λi j=>.int<|i / j):=opI λi j _ _ _ _ _ Z q=>by
 have G:(0:Int)<j:=Z.1;have J:j<1073741824:=Z.2;exact floordiv_int (by lia) (by rw[Int.fdiv_eq_ediv_of_nonneg i (by lia)];exact q)<|.inl<|PyProof.noPylong_small<|by lia
def V8:OpR X (binaryOp .Mod) (rI (λ_ j=>0<j) λi j=>.int<|i % j):=opI λi j _ _ _ _ _ Z q=>by
 have J:(0:Int)<j:=Z;exact mod_int' (by lia) (by rw[Int.fmod_eq_emod_of_nonneg i (by lia)];exact q)
def Ka:OpR X (binaryOp .Pow) (rI yH λi j=>.int<|i ^ j.toNat):=opI λ_ _ _ _ _ _ _ Z q=>pow_int_small Z.1 Z.2.1 Z.2.2 q
def Pt:OpR X (inplaceOp .Add) (rI0 λi j=>.int<|i+j):=S9 λ_ _ _ _ _ _ _ q=>iadd_int q
def Ps:OpR X (inplaceOp .Mult) (rI OH λi j=>.int<|i*j):=opI λ_ _ _ _ _ _ _ Z q=>imul_int q Z.ok
def unI{g:Int->Int}(rule:∀(i:Int)(t:Tok)(s:Shared)(Q:kO)(E:kO),Q (.int (g i) s.toks) {s with toks:=s.toks+1}->wpAny (model X.prog X.w) X.A (f<|.int i t) Q E s):
  UnR X f (rU λi=>.int<|g i):=by
 intro Z s U H x v Q I J h;obtain⟨i,rfl,q⟩:=h;obtain⟨t,rfl⟩:=J;exact rule i t s _ _ ⟨.int<|g i,H,I.tok _,⟨_,rfl⟩,q⟩
def Xa:UnR X (unaryOp .USub) (rU λi=>.int<|-i):=unI λ_ _ _ _ _ q=>neg_int q
end
def CT:V->V->Bool
 |.non,.non=>true|.non,.int _=>true|.int _,.non=>true|.non,.bl _=>true|.bl _,.non=>true|.non,.str _=>true|.str _,.non=>true
 |.int _,.int _=>true|.bl _,.bl _=>true|.str _,.str _=>true|.byt _,.byt _=>true
 |.int _,.str _=>true|.str _,.int _=>true|.bl _,.str _=>true|.str _,.bl _=>true
 |_,_=>false
def rEq:R2:=λx y H Q=>CT x y=true/\Q (.bl<|decide<|x=y) H
def rNe:R2:=λx y H Q=>CT x y=true/\Q (.bl<|!decide (x=y)) H
def Ei:decide (V.int i=V.int j)=(i==j):=by
 rw[jz];simp
def Ls:decide (V.bl i=V.bl j)=(i==j):=by
 rw[jz];simp
def Eh:decide (V.str i=V.str j)=(i==j):=by
 rw[jz];simp
def Ej:decide (V.byt i=V.byt j)=(i.toList==j.toList):=by
 rw[jz];cases i;cases j;simp
section
variable{a b c:Expr}{ta tb tc:TE}
def VO(I:Inv X Z U H s)(q:Q (.bl k) H)(e:k=k'):EP X Z U Q (.bool k') s:=by
 subst e;exact⟨.bl k,H,I,Y,q⟩
def VX:OpR X (compareOp .Eq) rEq:=by
 intro M s U H x y v u Q I L Z h;obtain⟨G,q⟩:=h
 cases x with
 |non=>
  cases L
  cases y with
  |non=>cases Z;exact PySem.EqNone.eq_none_none<|VO I q<|by simp
  |bl j=>cases Z;exact PySem.EqNone.eq_none_bool<|VO I q<|by simp
  |int j=>obtain⟨J,rfl⟩:=Z;exact PySem.EqNone.eq_none_int<|VO I q<|by simp
  |str j=>obtain⟨J,rfl⟩:=Z;exact PySem.EqNone.eq_none_str<|VO I q<|by simp
  |_=>exact Zr (show false=true from G) Zi
 |bl i=>
  cases L
  cases y with
  |non=>cases Z;exact PySem.EqNone.eq_bool_none<|VO I q<|by simp
  |bl j=>cases Z;exact eq_bool<|VO I q Ls
  |str j=>obtain⟨J,rfl⟩:=Z;exact PySem.EqMixed.eq_bool_str<|VO I q<|by simp
  |_=>exact Zr (show false=true from G) Zi
 |int i=>
  obtain⟨t,rfl⟩:=L
  cases y with
  |non=>cases Z;exact PySem.EqNone.eq_int_none<|VO I q<|by simp
  |int j=>obtain⟨J,rfl⟩:=Z;exact eq_int<|VO I q Ei
  |str j=>obtain⟨J,rfl⟩:=Z;exact PySem.EqMixed.eq_int_str<|VO I q<|by simp
  |_=>exact Zr (show false=true from G) Zi
 |str i=>
  obtain⟨t,rfl⟩:=L
  cases y with
  |non=>cases Z;exact PySem.EqNone.eq_str_none<|VO I q<|by simp
  |bl j=>cases Z;exact PySem.EqMixed.eq_str_bool<|VO I q<|by simp
  |int j=>obtain⟨J,rfl⟩:=Z;exact PySem.EqMixed.eq_str_int<|VO I q<|by simp
  |str j=>obtain⟨J,rfl⟩:=Z;exact eq_str<|VO I q Eh
  |_=>exact Zr (show false=true from G) Zi
 |byt i=>
  obtain⟨t,rfl⟩:=L
  cases y with
  |byt j=>obtain⟨J,rfl⟩:=Z;exact W.eq_bytes<|VO I q Ej
  |_=>exact Zr (show false=true from G) Zi
 |_=>cases y <;> exact Zr (show false=true from G) Zi
def UF:OpR X (compareOp .NotEq) rNe:=by
 intro M s U H x y v u Q I L Z h;obtain⟨G,q⟩:=h
 cases x with
 |non=>
  cases L
  cases y with
  |non=>cases Z;exact PySem.EqNone.ne_none_none<|VO I q<|by simp
  |bl j=>cases Z;exact PySem.EqNone.ne_none_bool<|VO I q<|by simp
  |int j=>obtain⟨J,rfl⟩:=Z;exact PySem.EqNone.ne_none_int<|VO I q<|by simp
  |str j=>obtain⟨J,rfl⟩:=Z;exact PySem.EqNone.ne_none_str<|VO I q<|by simp
  |_=>exact Zr (show false=true from G) Zi
 |bl i=>
  cases L
  cases y with
  |non=>cases Z;exact PySem.EqNone.ne_bool_none<|VO I q<|by simp
  |bl j=>cases Z;exact ne_bool<|VO I q<|congrArg not Ls
  |str j=>obtain⟨J,rfl⟩:=Z;exact PySem.EqMixed.ne_bool_str<|VO I q<|by simp
  |_=>exact Zr (show false=true from G) Zi
 |int i=>
  obtain⟨t,rfl⟩:=L
  cases y with
  |non=>cases Z;exact PySem.EqNone.ne_int_none<|VO I q<|by simp
  |int j=>obtain⟨J,rfl⟩:=Z;exact ne_int<|VO I q<|congrArg not Ei
  |str j=>obtain⟨J,rfl⟩:=Z;exact PySem.EqMixed.ne_int_str<|VO I q<|by simp
  |_=>exact Zr (show false=true from G) Zi
 |str i=>
  obtain⟨t,rfl⟩:=L
  cases y with
  |non=>cases Z;exact PySem.EqNone.ne_str_none<|VO I q<|by simp
  |bl j=>cases Z;exact PySem.EqMixed.ne_str_bool<|VO I q<|by simp
  |int j=>obtain⟨J,rfl⟩:=Z;exact PySem.EqMixed.ne_str_int<|VO I q<|by simp
  |str j=>obtain⟨J,rfl⟩:=Z;exact ne_str<|VO I q<|congrArg not Eh
  |_=>exact Zr (show false=true from G) Zi
 |byt i=>
  obtain⟨t,rfl⟩:=L
  cases y with
  |byt j=>obtain⟨J,rfl⟩:=Z;exact W.ne_bytes<|VO I q<|congrArg not Ej
  |_=>exact Zr (show false=true from G) Zi
 |_=>cases y <;> exact Zr (show false=true from G) Zi
def Co:OpR X (compareOp .Lt) (rI0 λi j=>.bl<|decide<|i<j):=PL λ_ _ _ _ _ _ _ q=>lt_int q
def XT:OpR X (compareOp .LtE) (rI0 λi j=>.bl<|decide<|i<=j):=PL λ_ _ _ _ _ _ _ q=>le_int q
def RD:OpR X (compareOp .Gt) (rI0 λi j=>.bl<|decide<|j<i):=PL λ_ _ _ _ _ _ _ q=>gt_int q
def QZ:OpR X (compareOp .GtE) (rI0 λi j=>.bl<|decide<|j<=i):=PL λ_ _ _ _ _ _ _ q=>ge_int q
def FC:OpR X (compareOp .In) (λx y H Q=>∃i j,x=.str i/\y=.str j/\Q (.bl<|!(Builtin.Str.occurrences j i 0 j.length 1).isEmpty) H):=by
 intro Z s U H x y v u Q I G J h;obtain⟨i,j,rfl,rfl,q⟩:=h;obtain⟨t,rfl⟩:=G;obtain⟨L,rfl⟩:=J;exact in_str<|VO I q rfl
def Wh:OpR X (compareOp .Is) (λx y H Q=>y=.non/\Q (.bl<|decide<|x=.non) H):=by
 intro J s U H x y v u Q I Z G h;obtain⟨rfl,q⟩:=h;cases G;refine is_none_gen<|VO I q ?_;cases x <;> first
  |(cases Z;rfl)
  |(obtain⟨t,rfl⟩:=Z;rfl)
def OpR.or(h:OpR X f r)(L:OpR X f r'):OpR X f (λx y H Q=>r x y H Q\/r' x y H Q):=by
 intro Z s U H x y v u Q I G J q;rcases q with q|q
 .exact h Z s U H x y v u Q I G J q
 .exact L Z s U H x y v u Q I G J q
def Yx(b:Expr)(h:op≠.In:=by decide)(Z:op≠.NotIn:=by decide):behindInMarks op b=false:=by
 have G:(op==CmpOp.In)=false:=by cases op <;> first|rfl|exact Zr Y h
 have J:(op==CmpOp.NotIn)=false:=by cases op <;> first|rfl|exact Zr Y Z
 cases b <;> simp[behindInMarks,G,J]
def V6(M:OpR X (compareOp op) r)(R:PE X a ta)(O:PE X b tb)(N:behindInMarks op b=false):PE X (.Compare a [op] [b] pos) (tOp r ta tb):=by
 intro Z s U H Q I h;exact wpAny_Compare1 (Ay R O I h λv u J x y B T L G q=>M Z J U B x y v u Q T L G q) N
def QT(t:TE):TT:=λU H Q=>t U H λx Z=>∃k,x=.bl k/\Q k Z
def Yp(B:OpR X (compareOp op) r)(F:PE X a ta)(E:PE X b tb)(D:behindInMarks op b=false):PT X (.Compare a [op] [b] pos) (QT<|tOp r ta tb):=by
 intro Z s U H Q I h
 refine wpAny_isTrue_Compare1 (thn (F Z s U H _ I h) λv G ⟨x,q,C,N,T⟩=>thn (E Z G U q _ C T) λu J ⟨y,j,S,M,R⟩=>
  thn (B Z J U j x y v u _ S N M R) λc t ⟨z,P,A,L,k,e,O⟩=>?_) D
 subst e;cases L;exact vy ⟨P,A,O⟩
def IL(r r':R2)(ta tb tc:TE):TE:=λU H Q=>ta U H λx M=>tb U M λy L=>r x y L λz Z=>∃k,z=.bl k/\
 (if k=true then tc U Z λJ G=>r' y J G Q else Q (.bl false) Z)
def KS(q:OpR X (compareOp op) r)(J:OpR X (compareOp op') r')(p:PE X a ta)(g:PE X b tb)(m:PE X c tc)(t:lastMarks [op,op'] [b,c]=false:=by with_unfolding_all rfl):PE X (.Compare a [op,op'] [b,c] pos) (IL r r' ta tb tc):=by
 intro Z s U H Q I h
 refine Compare_chain (thn (p Z s U H _ I h) λv E ⟨x,n,l,S,j⟩=>chain_link (thn (g Z E U n _ l j) λu D ⟨y,i,w,G,P⟩=>
  thn (q Z D U i x y v u _ w S G P) λd B ⟨z,N,M,A,k,e,L⟩=>?_)) t
 subst e;cases A;refine vy ?_
 cases k with
 |false=>exact ite_ff ⟨.bl false,N,M,Y,L⟩
 |true=>exact ite_tt<|chain_last<|thn (m Z B U N _ M L) λR T ⟨O,o,f,F,C⟩=>J Z T U o y O u R Q f G F C
def Xx(g:OpR X (compareOp op) r)(J:OpR X (compareOp op') r')(l:PE X a ta)(w:PE X b tb)(f:PE X c tc)(p:lastMarks [op,op'] [b,c]=false:=by with_unfolding_all rfl):PT X (.Compare a [op,op'] [b,c] pos) (QT<|IL r r' ta tb tc):=by
 intro Z s U H Q I h
 refine isTrue_chain (thn (l Z s U H _ I h) λv E ⟨x,H1,I1,C,t⟩=>test_link (thn (w Z E U H1 _ I1 t) λu D ⟨y,H2,I2,G,q⟩=>
  thn (g Z D U H2 x y v u _ I2 C G q) λd B ⟨z,N,M,S,k,e,L⟩=>?_)) p
 subst e;cases S;refine vy ?_
 cases k with
 |false=>
  obtain⟨k',i,m⟩:=L;cases i;exact ite_ff ⟨N,M,m⟩
 |true=>
  refine ite_tt<|test_last<|thn (f Z B U N _ M L) λR T ⟨O,H4,I4,A,j⟩=>thn (J Z T U H4 y O u R _ I4 G A j) λd' s5 ⟨z2,H5,n,F,k2,o,P⟩=>?_;subst o;cases F;exact vy ⟨H5,n,P⟩
def Wn:(sizeLine:Nat)<2 ^ 63:=by rw[sizeLine_eq];decide
def Xi:OpR X (binaryOp .Add) (λx y H Q=>∃i j,x=.str i/\y=.str j/\i.length+j.length<=sizeLine/\Q (.str<|i++ j) H):=by
 intro Z s U H x y v u Q I L G h;obtain⟨i,j,rfl,rfl,M,q⟩:=h;obtain⟨t,rfl⟩:=L;obtain⟨J,rfl⟩:=G;exact add_str (λJ N=>⟨.str<|i++ j,H,I.tok _,⟨_,rfl⟩,q⟩) M
def vals1(r:Vals [x] Z):∃u,Z=[u]/\RelV x u:=by
 cases r with
 |cons G J=>cases J;exact⟨_,Y,G⟩
def vals2(r:Vals [x,y] J):∃u Z,J=[u,Z]/\RelV x u/\RelV y Z:=by
 cases r with
 |cons N M=>
  cases M with
  |cons L G=>cases G;exact⟨_,_,Y,N,L⟩
def Fg:UL X (.type "int") (λZ H Q=>(∃i,Z=[.int i]/\Q (.int i) H) \/ ∃k,Z=[.bl k]/\Q (.int<|if k then 1 else 0) H):=by
 intro J s U H Z G Q I r h;rcases h with⟨i,rfl,q⟩|⟨k,rfl,q⟩
 .obtain ⟨u,rfl,t,rfl⟩:=vals1 r
  exact call_int_int ⟨.int i,H,I,⟨_,Y⟩,q⟩
 .obtain ⟨u,rfl,r1⟩:=vals1 r
  cases r1;exact call_int_bool ⟨.int<|if k then 1 else 0,H,I.tok _,⟨_,rfl⟩,q⟩
end
structure Ds(h:Heap)(x dx C:Addr)(mA:Str->Option Value):Prop where
 obj:h.get? x=some (W.instObj C dx)
 ns:h.Ns1 dx mA
 ne:dx≠x
set_option tactic.hygienic true in
def FJ{h:Heap}(n:h.Ns1 R mA):∃J,h.get? R=some J/\∀name,W.lookIn name J=some (mA name):=by
 obtain⟨o,G,B,M,hd,O,_,N⟩:=n;refine⟨o,M,λname=>?_⟩;have e:=N name;unfold nsFind findBy at e;rw[<-Array.find?_toList]at e;unfold W.lookIn;rw[hd];dsimp only
 split
 .rename_i y q
  rw[q]at e;exact congrArg some e
 .rename_i q
  rw[q]at e
  have a:G.toList.any (·.refKey)=false:=by
   rw[qZ];intro y L;obtain⟨z,t,Z⟩:=O y<|Array.mem_toList_iff.mp L;simp[DictEntry.refKey,Z]
  have T:¬G.toList.any (·.refKey)=true:=by rw[a];exact Zi
  rw[Zq T];exact congrArg some e
def Ds.look(I:Ds h x L C mA):∃Z,W.InstAt h x (W.instObj C L) C (some Z)/\∀name,W.lookIn name Z=some (mA name):=
 let⟨Z,J,G⟩:=FJ I.ns
 ⟨Z,⟨I.obj,rfl,rfl,J⟩,G⟩
section
variable{K:W.Frag}
def Pz(X:K.In s.heap)(I:Ds s.heap x T C mA)(N:W.plainGet K C name=true)(M:W.hasDictIn K C=true)(O:W.findIn K (.ref C) name=some none)(G:mA name=some v)(Z:W.handedIn v=true)(h:Q v {s with toks:=s.toks+1}):
  wpAny (model prog w) A (getAttr (.ref x) name expr) Q E s:=by
 obtain⟨R,J,L⟩:=I.look;exact W.get_value X J (W.plainGet_of N).1 (W.findObj_own M O Y (by rw[L,G])) Z h
def Lc(X:K.In s.heap)(I:Ds s.heap x R C mA)(Z:W.plainGet K C name=true)(O:W.findIn K (.ref C) name=some (some<|.ref f))(M:W.isFn K (.ref f)=true)(L:mA name=none)(h:Q (.ref f,[.ref x]) s):
  wpAny (model prog w) A (getMethod (.ref x) name pl) Q E s:=by
 obtain⟨G,J,N⟩:=I.look;exact W.method_fn X J (W.plainGet_of Z).1 (W.plainGet_of Z).2 O (beq_iff_eq.mp M) (by show(W.lookIn name G).map (·.isSome)=some false;rw[N,L];rfl) h
def Oa(X:K.In s.heap)(I:Ds s.heap x M C mA)(U:W.findIn K (.ref C) "__setattr__"=some (some<|.builtin "object.__setattr__"))(P:W.plainOver K C=true)(F:W.takerIn K C name=some none)(j:W.hasDictIn K C=true)(D:PySem.Within mA T)(S:T.length<=sizeLine)(h:∀L,Ds L x M C (λy=>if y=name then some v else mA y)->Heap.SameBut M s.heap L->Q () {s with heap:=L,toks:=s.toks+2}):
  wpAny (model prog w) A (setAttr (.ref x) name v) Q E s:=by
 obtain⟨m,J,k⟩:=I.look;refine W.set_plain X J U<|W.osa_open (s:={s with toks:=s.toks+1}) (r:=none) X J P F λb=>?_;obtain⟨p,z,O⟩:=W.any_some j;have B:s.heap.get? x=some ⟨.ref C,some M,.plain,#[]⟩:=I.obj;refine Zl<|Zm<|Zl<|Zl<|wpAny_loadPart B<|Zl<|W.Looks.here (s:={s with toks:=s.toks+1}) (W.looks_clsIn X z) ?_;rw[O];refine Zm (a:=some M)<|Zl<|Zm<|Zl ?_;refine wpAny_nsSet1 (s:={s with toks:=s.toks+1}) I.ns λL G Z=>?_;obtain⟨g,q,t,N,hdD,R⟩:=G.count<|PySem.Within.cons name v D;refine Zl<|wpAny_lookBehind N (by rw[hdD];exact pastItsLine_dict<|Zb R (by rw[Zf];lia)) ?_;exact Zm<|h _ ⟨(Z.2 _<|Zs I.ne).trans I.obj,G,I.ne⟩ Z
def LD(X:K.In s.heap)(J:W.makesIn K C=true)(G:W.findIn K (.ref C) "__init__"=some (some<|.ref f))(L:W.typeIn K (.ref f)=some (.type "function"))(h:codeAny (model prog w) (A.under<|.builtin "type.__call__" ⟨.ref C::Z,kw⟩) (.call (.ref f) ⟨.ref (s.heap.objs.size+1)::Z,kw⟩) (W.InitBack (s.heap.objs.size+1) R)
   {s with heap:=(s.heap.push W.emptyDict).push (W.instObj C s.heap.objs.size)}):
  codeAny (model prog w) A (.call (.ref C) ⟨Z,kw⟩) R s:=by
 obtain⟨N,g,d,t,M⟩:=s;exact W.make_core (W.makes_of X J) (W.looks_findIn X G) (λself=>W.bind_fn X self L) (.inl Y) h
end
def VU(f:Str)(v:V):List (Str×V)->List (Str×V)
 |[]=>[(f,v)]
 |(g,x)::r=>if g=f then(g,v)::r else(g,x)::VU f v r
theorem W1(f g:Str)(v:V):∀Z:List (Str×V),(VU f v Z).lookup g=if g=f then some v else Z.lookup g
 |[]=>by
  show List.lookup g [(f,v)]=_
  by_cases h:g=f
  .have hb:(g==f)=true:=beq_iff_eq.mpr h
   simp only[List.lookup,hb,Zp h]
  .have hb:(g==f)=false:=beq_eq_false_iff_ne.mpr h
   simp only[List.lookup,hb,Zq h]
 |(k,x)::r=>by
  have ih:=W1 f g v r;rw[show VU f v ((k,x)::r)=(if k=f then(k,v)::r else(k,x)::VU f v r)from rfl]
  by_cases hk:k=f
  .rw [Zp hk]
   by_cases h:g=k
   .have hb:(g==k)=true:=beq_iff_eq.mpr h
    simp only[List.lookup,hb,Zp (h.trans hk)]
   .have hb:(g==k)=false:=beq_eq_false_iff_ne.mpr h
    simp only[List.lookup,hb,Zq (λe:g=f=>h<|e.trans hk.symm)]
  .rw [Zq hk]
   by_cases h:g=k
   .have hb:(g==k)=true:=beq_iff_eq.mpr h
    simp only[List.lookup,hb,Zq (λe:g=f=>hk<|h.symm.trans e)]
   .have hb:(g==k)=false:=beq_eq_false_iff_ne.mpr h
    simp only[List.lookup,hb];exact ih
theorem Wo(f:Str)(v:V):∀Z:List (Str×V),f∈(VU f v Z).map (·.1)/\∀g,g∈Z.map (·.1)->g∈(VU f v Z).map (·.1)
 |[]=>⟨by simp[VU],λg h=>by simp at h⟩
 |(k,x)::r=>by
  obtain⟨G,J⟩:=Wo f v r;rw[show VU f v ((k,x)::r)=(if k=f then(k,v)::r else(k,x)::VU f v r)from rfl]
  by_cases hk:k=f
  .rw [Zp hk]
   subst hk;exact⟨by simp,λg h=>by simpa using h⟩
  .rw [Zq hk]
   refine⟨?_,λg h=>?_⟩
   .rw [ZV]
    exact ZM _ G
   .rw [ZV]at h |-
    rcases Zd.mp h with e|e
    .exact Zd.mpr (.inl e)
    .exact ZM _ (J g e)
theorem W3(f:Str)(v:V):∀Z:List (Str×V),(VU f v Z).length<=Z.length+1
 |[]=>by simp[VU]
 |(k,x)::r=>by
  have ih:=W3 f v r;rw[show VU f v ((k,x)::r)=(if k=f then(k,v)::r else(k,x)::VU f v r)from rfl]
  by_cases hk:k=f
  .rw [Zp hk,Zf,Zf];lia
  .rw [Zq hk,Zf,Zf];lia
def UX.some_of(r:UX (some v) o):∃u,o=some u/\RelV v u:=by
 cases o with
 |none=>exact(show False from r).elim
 |some u=>exact⟨u,Y,r⟩
def UX.none_of(r:UX none o):o=none:=by
 cases o with
 |none=>rfl
 |some u=>exact(show False from r).elim
def FS(r:RelV v u):W.handedIn u=true:=by
 cases v with
 |non=>cases(show u=Value.none from r);rfl
 |bl b=>cases(show u=Value.bool b from r);rfl
 |int i=>obtain⟨t,e⟩:=(show ∃t,u=Value.int i t from r);cases e;rfl
 |str x=>obtain⟨t,e⟩:=(show ∃t,u=Value.str x t from r);cases e;rfl
 |byt b=>obtain⟨t,e⟩:=(show ∃t,u=Value.bytes b t from r);cases e;rfl
 |flt b=>obtain⟨t,e⟩:=(show ∃t,u=Value.float b t from r);cases e;rfl
 |ref a=>cases(show u=Value.ref a from r);rfl
 |ty n=>cases(show u=Value.type n from r);rfl
section
def GX(J:HOk P w H h)(e:H a=some (.ins C G fs)):∃Z,Ds h a G C Z/\(∀f,UX (fs.lookup f)<|Z f)/\PySem.Within Z (fs.map (·.1))/\fs.length<=1000/\H G=some (.own a):=by
 obtain⟨d,z,M,L,Z,n,r,q⟩:=(show VS P w H h a (.ins C G fs)from J a _ e);exact⟨Z,⟨L,n,M⟩,r,q,z,d⟩
end
structure Cls(K:W.Frag)(C:Addr):Prop where
 pg:W.plainGet K C Str.empty=true
 hd:W.hasDictIn K C=true
 po:W.plainOver K C=true
 sa:W.findIn K (.ref C) "__setattr__"=some (some (.builtin "object.__setattr__"))
def Cls.get{K:W.Frag}(c:Cls K C)(f:Str):W.plainGet K C f=true:=c.pg
def VI(K:W.Frag)(C:Addr)(f:Str):Prop:=W.findIn K (.ref C) f=some none
def VI.taker{K:W.Frag}(n:VI K C f):W.takerIn K C f=some none:=by
 unfold W.takerIn;rw[show W.findIn K (.ref C) f=some none from n]
 rfl
structure VJ(K:W.Frag)(C:Addr)(m:Str)(f:Addr):Prop where
 at_:W.findIn K (.ref C) m=some (some (.ref f))
 fn:W.isFn K (.ref f)=true
 kp:W.keepIn K (.ref f)=true
section
def Tc(I:Inv X Z U H s)(e:H a=some (.ins C N fs))(c:Cls X.K C)(n:VI X.K C f)(l:fs.lookup f=some v)(h:∀u J,Inv X Z U H J->RelV v u->Q u J):wpAny (model X.prog X.w) A (getAttr (.ref a) f b) Q E s:=by
 obtain⟨L,O,r,_,_,_⟩:=GX I.hok e;obtain⟨u,M,G⟩:=UX.some_of (v:=v) (o:=L f) (by rw[<-l];exact r f);exact Pz I.kIn O (c.get f) c.hd n M (FS G)<|h u _ (I.tok _) G
def Tb(I:Inv X Z U H s)(e:H a=some (.ins C L fs))(c:Cls X.K C)(k:VJ X.K C m g)(l:fs.lookup m=none)(h:Q (.ref g,[.ref a]) s):wpAny (model X.prog X.w) A (getMethod (.ref a) m pl) Q E s:=by
 obtain⟨J,O,r,_,_,_⟩:=GX I.hok e;have G:J m=none:=UX.none_of (by rw[<-l];exact r m);exact Lc I.kIn O (c.get m) k.at_ k.fn G h
def Xd(I:Inv X Z U H s)(e:H a=some (.ins C J fs))(c:Cls X.K C)(n:VI X.K C f)(t:fs.length<1000)(B:RelV y u)(h:∀M,Inv X Z U (upd H a<|.ins C J<|VU f y fs) M->Q () M):wpAny (model X.prog X.w) A (setAttr (.ref a) f u) Q E s:=by
 obtain⟨N,O,r,L,_,R⟩:=GX I.hok e;have D:(fs.map (·.1)).length<=sizeLine:=by rw[ZA,sizeLine_eq];lia
 refine Oa I.kIn O c.sa c.po n.taker c.hd L D λP G T=>h _ ?_;have hd:∃o,P.get? J=some o:=let⟨o,_,_,j,_⟩:=G.ns;⟨o,j⟩
 refine I.write (x:=a) (e:=J) (by rw[e];exact True.intro) (.inr R) (λb q S z=>(T.2 b S).trans z) hd ?_;refine⟨by rw[Yg O.ne];exact R,?_,O.ne,G.obj,_,G.ns,λg=>?_,λg F=>?_⟩
 .have:=W3 f y fs;lia
 .show UX ((VU f y fs).lookup g) (if g=f then some u else N g)
  rw[W1]
  by_cases q:g=f
  .rw [Zp q,Zp q];exact B
  .rw [Zq q,Zq q];exact r g
 .by_cases q:g=f
  .rw [q];exact(Wo f y fs).1
  .refine (Wo f y fs).2 g (L g λz=>F ?_)
   show(if g=f then some u else N g)=none;rw[Zq q];exact z
def Inv.made(I:Inv X Z U H s):Inv X Z U (upd (upd H s.heap.objs.size<|.own<|s.heap.objs.size+1) (s.heap.objs.size+1)<|.ins C s.heap.objs.size [])
  {s with heap:=(s.heap.push W.emptyDict).push (W.instObj C s.heap.objs.size)}:=by
 have G:(s.heap.push W.emptyDict).get? s.heap.objs.size=some W.emptyDict:=ZY s.heap rfl
 have O:((s.heap.push W.emptyDict).push<|W.instObj C s.heap.objs.size).get? (s.heap.objs.size+1)=some (W.instObj C s.heap.objs.size):=by
  have:=ZY (s.heap.push W.emptyDict) (o:=W.instObj C s.heap.objs.size) rfl
  rwa [jd]at this
 have N:(s.heap.push W.emptyDict).Ns s.heap.objs.size (λ_=>none):=⟨W.emptyDict,#[],_,G,rfl,(λe M=>Zr M<|by simp),λ_=>rfl⟩;have R:=I.laid (a:=s.heap.objs.size) (o:=.own<|s.heap.objs.size+1) (h':=s.heap.push W.emptyDict) (t':=s.toks) (λb u q=>ZE _ q) (ZG _) ⟨_,G⟩;refine R.laid (a:=s.heap.objs.size+1) (o:=.ins C s.heap.objs.size []) (t':=s.toks) (λb u q=>ZE _ q) (jF<|jd _ _) ?_;have J:s.heap.objs.size≠s.heap.objs.size+1:=Ze<|vj _;refine⟨by rw[Yg J,Yf],Zc _,J,O,λ_=>none,(Heap.Ns1.of_empty N).at λo q=>ZE _ q,λ_=>True.intro,λy L=>Zr Y L⟩
def QH(J:attributeBase e f env (eval e env)=eval e env)(h:wpAny (model prog w) A (eval e env) (λo Z=>wpAny (model prog w) A (getAttr o f true) Q E Z) E s):wpAny (model prog w) A (eval (.Attribute e f pos) env) Q E s:=
 Attribute_any_ h (by rw[arm_eval_Attribute,J])
end
def CM(K:W.Frag)(ta:TE)(f:Str):TE:=λU H Q=>ta U H λx J=>JI x λa=>∃C G Z v,J a=some (.ins C G Z)/\Cls K C/\VI K C f/\Z.lookup f=some v/\Q v J
def yi(K:W.Frag)(ta tv:TE)(f:Str):TS:=λD U H=>tv U H λy L=>ta U L λx G=>∃a C J Z,x=.ref a/\G a=some (.ins C J Z)/\Cls K C/\VI K C f/\Z.length<1000/\
 D.nx U (upd G a<|.ins C J<|VU f y Z)
def yG(X:Cx)(op:Operator)(rd:V->V->Hp->VK->Prop):Prop:=
 ∀(Z:kM)(s:Shared)(U:St)(H:Hp)(x y:V)(u v:Value)(Q:VK),Inv X Z U H s->RelV x u->RelV y v->rd x y H Q->wpAny (model X.prog X.w) X.A (inplaceOp op u v) (EP X Z U Q) X.xe s
def Ov(K:W.Frag)(ta tv:TE)(rd:V->V->Hp->VK->Prop)(f:Str):TS:=λD U H=>ta U H λx M=>∃a C N G v,x=.ref a/\M a=some (.ins C N G)/\Cls K C/\VI K C f/\G.lookup f=some v/\
 tv U M λy O=>rd v y O λz L=>∃J Z,L a=some (.ins C J Z)/\Z.length<1000/\D.nx U (upd L a<|.ins C J<|VU f z Z)
section
def Yt(L:PE X e ta)(M:attributeBase e f X.env (eval e X.env)=eval e X.env):PE X (.Attribute e f pos) (CM X.K ta f):=by
 intro Z s U H Q I h;refine QH M<|thn (L Z s U H _ I h) λu F ⟨x,B,T,J,q⟩=>?_;replace q:=JI.old q;obtain⟨a,N,C,S,A,v,O,c,n,l,q⟩:=q;subst N;obtain rfl:u=Value.ref a:=J;exact Tc T O c n l λD E R G=>⟨v,B,R,G,q⟩
def Va(T:PE X o ta)(O:PE X value tv)(R:swapsWith value (some<|.Attribute o f pos') pos.line X.env=pure false):PS X (.Assign [.Attribute o f pos'] value pos) (yi X.K ta tv f):=by
 intro Z s U H D I h;refine plainObj_wpAny_Assign_Attribute (thn (O Z s U H _ I h) λu J ⟨y,P,S,G,q⟩=>thn (T Z J U P _ S q) λN j ⟨x,m,A,L,a,C,t,z,B,E,c,n,l,M⟩=>?_) R;subst B;obtain rfl:N=Value.ref a:=L;exact Xd A E c n l G λQ F=>⟨U,_,F,M⟩
def E8(Q:PE X o ta)(P:PE X value tv)(J:yG X op rd):PS X (.AugAssign (.Attribute o f tpos) op value pos) (Ov X.K ta tv rd f):=by
 intro Z s U H D I h;refine wpAny_AugAssign_AttributeAny<|thn (Q Z s U H _ I h) λA s1 ⟨x,e,r,T,a,C,dx,fs,v,t,m,c,n,l,q⟩=>?_;subst t;obtain rfl:A=Value.ref a:=T;refine Tc r m c n l λu N w B=>thn (P Z N U e _ w q) λL M ⟨y,b,d,R,F⟩=>thn (J Z M U b v y u L _ d B R F) λi s4 ⟨z,H3,p,O,g,j,G,S,E⟩=>?_;exact Xd p G c n S O λs5 k=>⟨U,_,k,E⟩
def yt:V->V->Hp->VK->Prop:=λx y H Q=>∃i j,x=.int i/\y=.int j/\Q (.int<|i+j) H
def Ag:yG X .Add yt:=by
 rintro J s U H x y u v Q I L G ⟨i,j,rfl,rfl,q⟩;obtain⟨t,rfl⟩:=(show ∃t,u=Value.int i t from L);obtain⟨Z,rfl⟩:=(show ∃Z,v=Value.int j Z from G);exact PyProof.Rows.iadd_int ⟨.int<|i+j,H,I.tok _,⟨_,rfl⟩,q⟩
end
section
variable{H:Hp}
inductive Xn(K:W.Frag)(H:Hp):V->Value->Prop where
 |non:Xn K H .non (.type "NoneType")
 |bl (x:Bool):Xn K H (.bl x) (.type "bool")
 |int (i:Int):Xn K H (.int i) (.type "int")
 |str (x:Str):Xn K H (.str x) (.type "str")
 |flt (x:UInt64):Xn K H (.flt x) (.type "float")
 |lst {a:Addr}{xs:List V}(e:H a=some (.lst xs)):Xn K H (.ref a) (.type "list")
 |frz {a:Addr}{o:Obj}{xs:List V}(e:H a=some (.frz o (.lst xs))):Xn K H (.ref a) (.type "list")
 |tup {a:Addr}{xs:List V}(e:H a=some (.tup xs)):Xn K H (.ref a) (.type "tuple")
 |dK {a:Addr}{kvs:List (Key×V)}(e:H a=some (.dK kvs)):Xn K H (.ref a) (.type "dict")
 |dT {a:Addr}{kvs:List (List Key×V)}(e:H a=some (.dT kvs)):Xn K H (.ref a) (.type "dict")
 |ins {a C dx:Addr}{fs:List (Str×V)}(e:H a=some (.ins C dx fs)) (cl:Cls K C) (ha:W.findIn K (.ref C) "__class__"=some (some (.builtin "object.__class__")))
   (hn:W.specialIn K (.builtin "object.__class__") "__get__"=some (some (.builtin "getset_descriptor.__get__"))) (htk:W.takesIn K (.builtin "object.__class__")=some true)
   (hm:W.mroIn K C (.type "object")=some true):Xn K H (.ref a) (.ref C)
def FL(I:Inv X B U H s)(Z:RelV x u)(ty:Xn X.K H x t)(e:W.kitOne X.K t c=some b)(h:∀F,Q (.bool b) {s with toks:=F}):
  wpAny (model X.prog X.w) A (call (.builtin "isinstance") [u,c]) Q E s:=by
 cases ty with
 |non=>cases(show u=Value.none from Z);exact jM W.kitx_none I.kIn True.intro e (λz=>nomatch z) h
 |bl y=>cases(show u=Value.bool y from Z);exact jM W.kitx_bool I.kIn True.intro e (λz=>nomatch z) h
 |int i=>obtain⟨t,q⟩:=(show ∃t,u=Value.int i t from Z);cases q;exact jM W.kitx_int I.kIn True.intro e (λz=>nomatch z) h
 |str y=>obtain⟨t,q⟩:=(show ∃t,u=Value.str y t from Z);cases q;exact jM W.kitx_str I.kIn True.intro e (λz=>nomatch z) h
 |flt y=>obtain⟨t,q⟩:=(show ∃t,u=Value.float y t from Z);cases q;exact jM W.kitx_float I.kIn True.intro e (λz=>nomatch z) h
 | @lst a N G=>
  cases(show u=Value.ref a from Z);obtain⟨_,_,n,_,L⟩:=(show VS X.prog X.w H s.heap a (.lst N)from I.hok a _ G);exact jM W.kitx_list I.kIn ⟨_,L,Y⟩ e (λz=>nomatch z) h
 | @frz a S N G=>
  cases(show u=Value.ref a from Z);obtain⟨_,_,_,n,_,L⟩:=(show VS X.prog X.w H s.heap a (.frz S<|.lst N)from I.hok a _ G);exact jM W.kitx_list I.kIn ⟨_,L,Y⟩ e (λz=>nomatch z) h
 | @tup a N G=>
  cases(show u=Value.ref a from Z);obtain⟨_,_,_,p⟩:=(show VS X.prog X.w H s.heap a (.tup N)from I.hok a _ G);obtain⟨o,L,_,R,_⟩:=p;exact jM W.kitx_tuple I.kIn ⟨o,L,R⟩ e (λz=>nomatch z) h
 | @dK a M G=>
  cases(show u=Value.ref a from Z);obtain⟨_,_,d,_,p⟩:=(show VS X.prog X.w H s.heap a (.dK M)from I.hok a _ G);obtain⟨o,g,k,L,R,_⟩:=p;exact jM W.kitx_dict I.kIn ⟨o,L,R.1⟩ e (λz=>nomatch z) h
 | @dT a M G=>
  cases(show u=Value.ref a from Z);obtain⟨_,_,N,_,o,g,k,L,R,_⟩:=(show VS X.prog X.w H s.heap a (.dT M)from I.hok a _ G);exact jM W.kitx_dict I.kIn ⟨o,L,R.1⟩ e (λz=>nomatch z) h
 | @ins a C r w G D m P T j=>
  cases(show u=Value.ref a from Z);obtain⟨v,O,_⟩:=GX I.hok G;obtain⟨f,J,_⟩:=O.look;exact jM (W.kitx_own (D.get _) D.hd m P T j) I.kIn J e (λz=>nomatch z) h
end
structure Vu(k:Nat)(A:Around):Prop where
 hd:A.handled=none
 dp:A.depth+3*k+5<recursionLimit
 un:A.units+16*k+200<cLine
def Vu.mono(r:Vu k A)(h:j<=k):Vu j A:=⟨r.hd,by have:=r.dp;lia,by have:=r.un;lia⟩
def Vu.deeper(r:Vu (k+1) A)(Z:Env):Vu k (A.deeper Z):=
 ⟨r.hd,by have:=r.dp;show A.depth+1+3*k+5<_;lia,by have:=r.un;show A.units+3+16*k+200<_;lia⟩
def Vu.in1(r:Vu (k+1) A):Vu k A.in1:=
 ⟨r.hd,by have:=r.dp;show A.depth+3*k+5<_;lia,by have:=r.un;show A.units+1+16*k+200<_;lia⟩
def B6{A:Around}:(A.under<|.builtin "type.__call__" ⟨.ref C::Z,kw⟩).depth=A.depth+1:=by
 first|rfl|simp[Around.under,Code.weight,Code.isCreation,Code.isGuard,Code.isCaller,Code.frames,Code.isFrame,guardIds]
def B5{A:Around}:(A.under<|.builtin "type.__call__" ⟨.ref C::Z,kw⟩).units=A.units+1:=by
 first|rfl|simp[Around.under,Code.cUnits,Code.frames,Code.isFrame]
def Vu.make(r:Vu (k+1) A)(C:Addr)(Z:kP)(J:List (Str×Value)):Vu k (A.under<|.builtin "type.__call__" ⟨.ref C::Z,J⟩):=
 ⟨r.hd,by have:=r.dp;rw[B6];lia,by have:=r.un;rw[B5];lia⟩
def Vu.depth(r:Vu k A):A.depth<recursionLimit:=by have:=r.dp;lia
def Vu.units(r:Vu k A):A.units+64<cLine:=by have:=r.un;lia
def Vu.units0(r:Vu k A):A.units<cLine:=by have:=r.un;lia
def Rm:TA:=λ_ H Q=>Q [] H
def Jd(ta:TE)(tr:TA):TA:=λU H Q=>ta U H λx G=>tr U G λZ J=>Q (x::Z) J
section
variable{t:TA}
def Vq:PA X [] Rm:=λ_ _ _ _ H Q I h=>Calls.spliced_nil ⟨[],H,I,.nil,h⟩
def V7(E:PE X e te)(D:PA X G t)(B:starEach (e::G) X.env=(false,eval e X.env)::starEach G X.env:=by rfl):PA X (e::G) (Jd te t):=by
 intro J Z s U H Q I h;rw[B];show wpAny _ _ (spliced ((false,eval e X.env)::backTo J (starEach G X.env))) _ _ s;refine Calls.spliced_cons<|thn (E Z s U H _ I h) λu M ⟨x,C,A,O,T⟩=>?_;exact thn (D J Z M U C _ A T) λP j ⟨L,S,F,N,R⟩=>⟨x::L,S,F,.cons O N,R⟩
def pa1(J:PE X e0 t0)(Z:starEach [e0] X.env=(false,eval e0 X.env)::starEach [] X.env:=by rfl):PA X [e0] (Jd t0<|Rm):=V7 J (Vq) Z
def pa2(L:PE X e0 t0)(G:PE X e1 t1)(J:starEach [e0,e1] X.env=(false,eval e0 X.env)::starEach [e1] X.env:=by rfl)(Z:starEach [e1] X.env=(false,eval e1 X.env)::starEach [] X.env:=by rfl):PA X [e0,e1] (Jd t0<|Jd t1<|Rm):=V7 L (V7 G (Vq) Z) J
def pa3(N:PE X e0 t0)(M:PE X e1 t1)(L:PE X e2 t2)(G:starEach [e0,e1,e2] X.env=(false,eval e0 X.env)::starEach [e1,e2] X.env:=by rfl)(J:starEach [e1,e2] X.env=(false,eval e1 X.env)::starEach [e2] X.env:=by rfl)(Z:starEach [e2] X.env=(false,eval e2 X.env)::starEach [] X.env:=by rfl):PA X [e0,e1,e2] (Jd t0<|Jd t1<|Jd t2<|Rm):=V7 N (V7 M (V7 L (Vq) Z) J) G
def pa4(R:PE X e0 t0)(O:PE X e1 t1)(N:PE X e2 t2)(M:PE X e3 t3)(L:starEach [e0,e1,e2,e3] X.env=(false,eval e0 X.env)::starEach [e1,e2,e3] X.env:=by rfl)(G:starEach [e1,e2,e3] X.env=(false,eval e1 X.env)::starEach [e2,e3] X.env:=by rfl)(J:starEach [e2,e3] X.env=(false,eval e2 X.env)::starEach [e3] X.env:=by rfl)(Z:starEach [e3] X.env=(false,eval e3 X.env)::starEach [] X.env:=by rfl):PA X [e0,e1,e2,e3] (Jd t0<|Jd t1<|Jd t2<|Jd t3<|Rm):=V7 R (V7 O (V7 N (V7 M (Vq) Z) J) G) L
def pa5(B:PE X e0 t0)(T:PE X e1 t1)(R:PE X e2 t2)(O:PE X e3 t3)(N:PE X e4 t4)(M:starEach [e0,e1,e2,e3,e4] X.env=(false,eval e0 X.env)::starEach [e1,e2,e3,e4] X.env:=by rfl)(L:starEach [e1,e2,e3,e4] X.env=(false,eval e1 X.env)::starEach [e2,e3,e4] X.env:=by rfl)(G:starEach [e2,e3,e4] X.env=(false,eval e2 X.env)::starEach [e3,e4] X.env:=by rfl)(J:starEach [e3,e4] X.env=(false,eval e3 X.env)::starEach [e4] X.env:=by rfl)(Z:starEach [e4] X.env=(false,eval e4 X.env)::starEach [] X.env:=by rfl):PA X [e0,e1,e2,e3,e4] (Jd t0<|Jd t1<|Jd t2<|Jd t3<|Jd t4<|Rm):=V7 B (V7 T (V7 R (V7 O (V7 N (Vq) Z) J) G) L) M
def yJ(t:TA):TE:=λU H Q=>t U H λZ J=>Z.length<=sizeLine/\∀p,J p=none->Q (.ref p) (upd J p<|.tup Z)
def yN(t:TA):TE:=λU H Q=>t U H λZ J=>Z.length<=sizeLine/\∀p,J p=none->Q (.ref p) (upd J p<|.lst Z)
def Yj(h:PA X T t):PE X (.Tuple T x1 pos) (yJ t):=by
 intro Z s U H Q I O;refine wpAny_Tuple_spliced<|thn (h pos Z s U H _ I O) λN J ⟨M,L,G,r,z,q⟩=>⟨by rw[<-r.length];exact z,?_⟩;have R:L J.heap.objs.size=none:=G.hok.fresh<|ZG _;refine⟨.ref J.heap.objs.size,upd L J.heap.objs.size<|.tup M,G.laid (t':=J.toks) (λb u e=>ZE _ e) (ZG _) ?_,rfl,q _ R⟩;exact⟨z,N,r,⟨_,ZY _ Y,Y,Y,_,Y⟩⟩
def JJ(h:PA X T t):PE X (.List T pos) (yN t):=by
 intro Z s U H Q I O;refine wpAny_List_spliced<|thn (h pos Z s U H _ I O) λN J ⟨M,L,G,r,z,q⟩=>⟨by rw[<-r.length];exact z,?_⟩;have R:L J.heap.objs.size=none:=G.hok.fresh<|ZG _;refine⟨.ref J.heap.objs.size,upd L J.heap.objs.size<|.lst M,G.laid (t':=J.toks) (λb u e=>ZE _ e) (ZG _) ?_,rfl,q _ R⟩;exact⟨z,N,0,r,ZY _ Y⟩
end
abbrev Sp:=List V->Hp->VK->XK->Prop
abbrev CXT:=List Env->Hp->Shared->XK->Value->Shared->Prop
structure Dt(P:Program)(w:World)(K:W.Frag)(mg:Str->Option Value)(base:Heap)(A:Around)(outer:List Env)(s:Shared)(H:Hp):Prop where
 frames:A.frames=some outer
 mod:Mod K mg base
 bs:∀b o,base.get? b=some o->s.heap.get? b=some o/\H b=none
 bsz:base.objs.size<=s.heap.objs.size
 funs:s.heap.FunFrames base outer
 frf:∀b∈frs outer,H b=none
 hok:HOk P w H s.heap
 bare:AllBare s.gens
def CE(outer:List Env)(P:Program)(w:World)(H:Hp)(s:Shared)(Q:VK)(u:Value)(s':Shared):Prop:=
 ∃v Z,s'.os=s.os/\AllBare s'.gens/\Un (frs outer) [] H Z s.heap s'.heap/\HOk P w Z s'.heap/\RelV v u/\Q v Z
def CR(CX:CXT)(outer:List Env)(P:Program)(w:World)(H:Hp)(s:Shared)(Q:VK)(E:XK)(r:Result)(s':Shared):Prop:=
 match r with
 |.ok (.ret u)=>CE outer P w H s Q u s'
 |.ok _=>False
 |.error e=>CX outer H s E e s'
structure Ye(P:Program)(w:World)(K:W.Frag)(mg:Str->Option Value)(base:Heap)(CX:CXT)(k:Nat)(f:Addr)(fd:FuncData)(ps:List Str)(sp:Sp):Prop where
 len:∀vs H Q E,sp vs H Q E->vs.length=ps.length
 run:∀(A:Around)(outer:List Env)(s:Shared)(H:Hp)(args:Args)(us:List Value)(vs:List V)(Q:VK)(E:XK),Vu k A->Dt P w K mg base A outer s H->BindsTo s fd args (ps.zip us)->Vals vs us->sp vs H Q E->
  codeAny (model P w) A (.call (.ref f) args) (CR CX outer P w H s Q E) s
def Ye.mono{K:W.Frag}(F:Ye P w K N base CX j f R M L)(h:j<=k):
  Ye P w K N base CX k f R M L:=⟨F.len,λA Z s H args G J Q E O=>F.run A Z s H args G J Q E<|O.mono h⟩
def Dt.make{K:W.Frag}(e:Dt P w K J base A outer s H)(C:Addr)(Z:kP)(G:List (Str×Value)):
  Dt P w K J base (A.under<|.builtin "type.__call__" ⟨.ref C::Z,G⟩) outer s H:=⟨by first|exact e.frames|(simpa[Around.under,Code.envs,Code.isFrame,pushEnvs]using e.frames),e.mod,e.bs,e.bsz,e.funs,e.frf,e.hok,e.bare⟩
section
def Inv.env0(I:Inv X Z U H s):Dt X.prog X.w X.K X.mg X.base X.A X.stack s H:=
 ⟨I.ok.frames,I.ok.mod,I.bs,Zb I.ok.bsz I.sz,I.stack,I.stkFree,I.hok,I.bare⟩
def Inv.after(I:Inv X Z U H s)(h:CE X.stack X.prog X.w H s Q u L):EP X Z U Q u L:=by
 obtain⟨v,R,N,bare,M,G,r,q⟩:=h;obtain⟨O,g,d,t,J⟩:=L;obtain rfl:J=s.os:=N;exact⟨v,R,I.call (h':=O) (g':=g) (d':=d) (t':=t) (ch:=[]) M G bare (λb z=>Zr z<|by simp),r,q⟩
end
def M8(sp:Sp)(dvs:kZ)(E:XK)(t:TA):TE:=λU H Q=>t U H λZ J=>sp (Z++ dvs) J Q E
def IJ(C:Addr)(m:Str)(sp:Sp)(dvs:kZ)(E:XK)(ta:TE)(t:TA):TE:=λU H Q=>ta U H λx J=>JI x λa=>∃L Z,J a=some (.ins C L Z)/\Z.lookup m=none/\
 t U J λG M=>sp (x::(G++ dvs)) M Q E
def CJ(C:Addr)(sp:Sp)(dvs:kZ)(E:XK)(t:TA):TE:=λU H Q=>t U H λG J=>∀x Z,J x=none->J Z=none->Z≠x->
 sp (.ref x::(G++ dvs)) (upd (upd J Z<|.own x) x<|.ins C Z []) (λv L=>v=.non/\Q (.ref x) L) E
def Binds(K:W.Frag)(fd:FuncData)(ps:kQ)(ds:kP):Prop:=
 ∀(s:Shared)(Z:kP),K.In s.heap->(Z++ ds).length=ps.length->BindsTo s fd ⟨Z,[]⟩ (ps.zip<|Z++ ds)
def Binds.all{K:W.Frag}(h:∀Z:kP,Z.length=J.length->bindArgs L ⟨Z,[]⟩=pure (J.zip Z)):Binds K L J []:=λs Z _ G=>by
 rw[j5]at G |-;exact .of_eq<|h Z G
def Up(CX:CXT)(X:Cx)(E:XK):Prop:=∀(Z:kM)(U:St)(H:Hp)(s:Shared)(e:Value)(J:Shared),Inv X Z U H s->CX X.stack H s E e J->X.xe e J
section
variable{f C:Addr}
def G4(F:Ye X.prog X.w X.K X.mg X.base CX k f S M N)(T:Vu k X.A)(D:Binds X.K S M G)(hd:Vals dvs G)(R:Up CX X E)(I:Inv X Z U H s)(r:Vals vs us)(h:N (vs++ dvs) H Q E):wpAny (model X.prog X.w) X.A (call (.ref f) us) (EP X Z U Q) X.xe s:=by
 have L:Vals (vs++ dvs) (us++ G):=r.append hd;have B:(us++ G).length=M.length:=by rw[<-L.length];exact F.len _ _ _ _ h
 refine wpAny_call<|qL (F.run X.A X.stack s H ⟨us,[]⟩ (us++ G) (vs++ dvs) Q E T I.env0 (D s us I.kIn B) L h) λr O J=>?_
 cases r with
 |error e=>exact R Z U H s e O I J
 |ok A=>
  cases A with
  |ret u=>exact I.after J
  |next=>exact False.elim J
  |brk=>exact False.elim J
  |cont=>exact False.elim J
def JY(F:Ye X.prog X.w X.K X.mg X.base CX k f y O N)(T:Vu k X.A)(A:Gl X x)(B:X.mg x=some (.ref f))(D:W.keepIn X.K (.ref f)=true)(P:Binds X.K y O z)(hd:Vals dvs z)(R:Up CX X E)(j:PA X (e::J) t)(L:(x==("__debug__":Str))=false:=by decide)(S:starEach (e::J) X.env=(false,eval e X.env)::starEach J X.env:=by rfl)(G:(backTo pos<|starEach J X.env).any (·.1)=false:=by rfl):
  PE X (.Call (.Name x p) (e::J) [] pos) (M8 N dvs E t):=by
 intro Z s U H Q I h;refine jW<|GQ I A B ?_ L;refine qM (h₀:=X.base) I.ok.mod.kin D (thn (j pos Z s U H _ I h) λg c ⟨m,d,M,r,q⟩=>⟨M.kIn,?_⟩) S G;exact G4 F T P hd R M r q
def Y6(y:PE X o ta)(c:Cls X.K C)(M:VJ X.K C m f)(F:Ye X.prog X.w X.K X.mg X.base CX k f p A R)(j:Vu k X.A)(z:Binds X.K p A w)(hd:Vals dvs w)(S:Up CX X E)(g:PA X (e::J) t)(G:starEach (e::J) X.env=(false,eval e X.env)::starEach J X.env:=by rfl)(L:(backTo pos<|starEach J X.env).any (·.1)=false:=by rfl)(P:eval (.Call (.Attribute o m apos) (e::J) [] pos) X.env=(do
   let ov <-eval o X.env
   standAt apos.atName
   let(f,first) <-holding [ov] (getMethod ov m pl)
   callWith pos f first (backTo pos<|starEach (e::J) X.env) (backToKw pos<|keywordEach [] X.env)):=by rfl):
  PE X (.Call (.Attribute o m apos) (e::J) [] pos) (IJ C m R dvs E ta t):=by
 intro Z s U H Q I h;refine W.methodCall_KW (pl:=pl) (thn (y Z s U H _ I h) λu T ⟨x,b,O,B,q⟩=>?_) P;replace q:=JI.old q;obtain⟨a,d,dx,n,v,l,q⟩:=q;subst d;obtain rfl:u=Value.ref a:=B;refine Tb O v c M l ?_;refine qM (first:=[.ref a]) (h₀:=X.base) I.ok.mod.kin M.kp (thn (g pos Z T U b _ O q) λus i ⟨vs,H2,N,r,D⟩=>⟨N.kIn,?_⟩) G L;exact G4 (us:=.ref a::us) (vs:=.ref a::vs) F j z hd S N (.cons Y r) D
def Vp(B:PE X o ta)(c:Cls X.K C)(G:VJ X.K C m f)(F:Ye X.prog X.w X.K X.mg X.base CX k f A N L)(T:Vu k X.A)(D:Binds X.K A N j)(hd:Vals dvs j)(O:Up CX X E)(R:eval (.Call (.Attribute o m apos) [] [] pos) X.env=(do
   let ov <-eval o X.env
   standAt apos.atName
   let(f,first) <-holding [ov] (getMethod ov m pl)
   callWith pos f first (backTo pos<|starEach [] X.env) (backToKw pos<|keywordEach [] X.env)):=by rfl):
  PE X (.Call (.Attribute o m apos) [] [] pos) (IJ C m L dvs E ta Rm):=by
 intro Z s U H Q I h;refine W.methodCall_KW (pl:=pl) (thn (B Z s U H _ I h) λu y ⟨x,g,J,M,q⟩=>?_) R;replace q:=JI.old q;obtain⟨a,S,t,z,P,l,q⟩:=q;subst S;obtain rfl:u=Value.ref a:=M;refine Tb J P c G l ?_;exact W.callWith_K0 (first:=[.ref a]) J.kIn G.kp<|G4 (us:=[.ref a]) (vs:=[.ref a]) F T D hd O J (.cons rfl .nil) q
structure Mk(K:W.Frag)(C f:Addr):Prop where
 makes:W.makesIn K C=true
 init:W.findIn K (.ref C) "__init__"=some (some (.ref f))
 fn:W.isFn K (.ref f)=true
 kp:W.keepIn K (.ref C)=true
def Iv(M:Mk X.K C f)(F:Ye X.prog X.w X.K X.mg X.base CX k f g B A)(z:Vu (k+1) X.A)(t:Binds X.K g B N)(hd:Vals dvs N)(y:Up CX X E)(I:Inv X G U H s)(r:Vals R J)(h:∀x L,H x=none->H L=none->L≠x->A (.ref x::(R++ dvs)) (upd (upd H L<|.own x) x<|.ins C L []) (λv d=>v=.non/\Q (.ref x) d) E):
  wpAny (model X.prog X.w) X.A (call (.ref C) J) (EP X G U Q) X.xe s:=by
 have D:=h (s.heap.objs.size+1) s.heap.objs.size (I.hok.fresh<|qh _) (I.hok.fresh<|ZG _)<|Ze<|vj _;have O:=Inv.made (C:=C) I;have T:Vals (V.ref (s.heap.objs.size+1)::(R++ dvs)) (Value.ref (s.heap.objs.size+1)::(J++ N)):=.cons rfl (r.append hd)
 have q:(Value.ref (s.heap.objs.size+1)::J++ N).length=B.length:=by
  have e:=T.length;rw[F.len _ _ _ _ D]at e;exact e.symm
 refine wpAny_call (LD (f:=f) I.kIn M.makes M.init (beq_iff_eq.mp M.fn) (qL (F.run _ X.stack _ _ ⟨Value.ref (s.heap.objs.size+1)::J,[]⟩ (Value.ref (s.heap.objs.size+1)::(J++ N)) _ _ E (z.make C J [])
  (O.env0.make C J []) (t _ (Value.ref (s.heap.objs.size+1)::J) O.kIn q) T D) λr S Z=>?_))
 cases r with
 |error e=>exact y G U _ _ e S O Z
 |ok m=>
  cases m with
  |ret u=>
   obtain⟨v,w,c,P,p,j⟩:=O.after Z;subst p;exact⟨P,⟨V.ref<|s.heap.objs.size+1,w,c,rfl,j⟩⟩
  |next=>exact False.elim Z
  |brk=>exact False.elim Z
  |cont=>exact False.elim Z
def Uc(M:Mk X.K C f)(F:Ye X.prog X.w X.K X.mg X.base CX k f y R O)(B:Vu (k+1) X.A)(A:Gl X x)(D:X.mg x=some (.ref C))(P:Binds X.K y R z)(hd:Vals dvs z)(T:Up CX X E)(j:PA X (e::J) t)(L:(x==("__debug__":Str))=false:=by decide)(S:starEach (e::J) X.env=(false,eval e X.env)::starEach J X.env:=by rfl)(G:(backTo pos<|starEach J X.env).any (·.1)=false:=by rfl):
  PE X (.Call (.Name x p) (e::J) [] pos) (CJ C O dvs E t):=by
 intro Z s U H Q I h;refine jW<|GQ I A D ?_ L;refine qM (h₀:=X.base) I.ok.mod.kin M.kp (thn (j pos Z s U H _ I h) λg c ⟨m,d,N,r,q⟩=>⟨N.kIn,?_⟩) S G;exact Iv M F B P hd T N r q
end
structure Yh(N P:List Str)(sc:Scope):Prop where
 kind:sc.kind=.function
 co:sc.isCoroutine=false
 gen:sc.isGenerator=false
 nd:N.Nodup
 pre:N.take P.length=P
 par:∀x∈P,sc.names.lookup x=some .local\/sc.names.lookup x=some .cell
 nofree:∀y∈sc.names,y.2≠.free
theorem RU{kindOf:Str->Option NameKind}:∀{binds:List (Str×Value)}{m:Str->Option Value},(∀v,(x,v)∉binds)->bindL kindOf binds m x=m x
 |[],_,_=>rfl
 |(n,v)::r,m,h=>by
  unfold bindL;rw[RU λw Z=>h w (ZM _ Z)]
  split
  .have:x≠n:=by rintro rfl;exact h v Za
   simp[this]
  .rfl
theorem RW{kindOf:Str->Option NameKind}:∀{binds:List (Str×Value)}{m:Str->Option Value},(∀v,(x,v)∉binds)->bindC kindOf binds m x=m x
 |[],_,_=>rfl
 |(n,v)::r,m,h=>by
  unfold bindC;rw[RW λw Z=>h w (ZM _ Z)]
  split
  .rfl
  .have:x≠n:=by rintro rfl;exact h v Za
   simp[this]
theorem RV{kindOf:Str->Option NameKind}:∀{P:kQ}{Z:kP}{i:Nat}{m:Str->Option Value},P.Nodup->P[i]?=some x->Z[i]?=some v->kindOf x=some .local->
  bindL kindOf (P.zip Z) m x=some v
 |[],_,_,_,_,h,_,_=>by simp at h
 |_::_,[],_,_,_,_,h,_=>by simp at h
 |p::P,w::Z,0,m,nd,h1,h2,hk=>by
  simp at h1 h2;subst h1;subst h2;show bindL kindOf ((p,w)::P.zip Z) m p=_;unfold bindL;rw[RU λv J=>(jL.mp nd).1 (List.of_mem_zip J).1,Zp hk];simp
 |p::P,w::Z,i+1,m,nd,h1,h2,hk=>by
  show bindL kindOf ((p,w)::P.zip Z) m x=_;unfold bindL;exact RV (i:=i) (jL.mp nd).2 (by simpa using h1) (by simpa using h2) hk
theorem RX{kindOf:Str->Option NameKind}:∀{P:kQ}{Z:kP}{i:Nat}{m:Str->Option Value},P.Nodup->P[i]?=some x->Z[i]?=some v->kindOf x≠some .local->
  bindC kindOf (P.zip Z) m x=some v
 |[],_,_,_,_,h,_,_=>by simp at h
 |_::_,[],_,_,_,_,h,_=>by simp at h
 |p::P,w::Z,0,m,nd,h1,h2,hk=>by
  simp at h1 h2;subst h1;subst h2;show bindC kindOf ((p,w)::P.zip Z) m p=_;unfold bindC;rw[RW λv J=>(jL.mp nd).1 (List.of_mem_zip J).1,Zq hk];simp
 |p::P,w::Z,i+1,m,nd,h1,h2,hk=>by
  show bindC kindOf ((p,w)::P.zip Z) m x=_;unfold bindC;exact RX (i:=i) (jL.mp nd).2 (by simpa using h1) (by simpa using h2) hk
def start(N:kQ)(vs:kZ):St:=vs.map some++ List.replicate (N.length-vs.length) none
def Vf(CX:CXT)(P:Program)(w:World)(K:W.Frag)(mg:Str->Option Value)(base:Heap)(N:kQ)(qual:Str)(scope:Scope)(f:Addr)(cd:Value)(A:Around)(outer:List Env)(s:Shared)(H:Hp)(E:XK):Cx where
 prog:=P
 w:=w
 K:=K
 mg:=mg
 base:=base
 A:=A.deeper (envOfC qual scope s.heap.objs.size f cd)
 N:=N
 s₀:=s
 H₀:=H
 env:=envOfC qual scope s.heap.objs.size f cd
 outer:=outer
 stack:=envOfC qual scope s.heap.objs.size f cd::outer
 ex:=[]
 calm:=true
 fn:=λ_=>true
 pn:=[]
 xe:=λe J=>wpAny (model P w) (A.deeper<|envOfC qual scope s.heap.objs.size f cd) (leaving (envOfC qual scope s.heap.objs.size f cd) e) (λ_ Z=>CX outer H s E e Z) (λG Z=>CX outer H s E G Z) J
def Nn{Z:Scope}(h:Z.names.lookup x=some .cell):∃c,(cellsFrom n Z.names []).lookup x=some c:=by
 have q:=W.cellsFrom_some Z.names n []<|.inl h;exact qj.mp q
def FQ{C:CXT}{P:Program}{w:World}{K:W.Frag}(S:Yh N O scope)(hd:A.handled=none)(J:Dt P w K F base A outer s H)(m:M.length=O.length)(r:Vals M D)(x:InCallC s s.heap.objs.size (bindL (envOfC qual scope s.heap.objs.size f cd).kindOf (O.zip D) λ_=>none) (cellsFrom (s.heap.objs.size+1) scope.names []) (bindC (envOfC qual scope s.heap.objs.size f cd).kindOf (O.zip D) λ_=>none) s1):
  Inv (Vf C P w K F base N qual scope f cd A outer s H E) [] (start N M) H s1:=by
 have Q:O.length<=N.length:=by have:=congrArg List.length S.pre;rw[ZN]at this;lia
 obtain⟨B,t,rfl,U⟩:=x.done;have G:∀b:Addr,b∉(Vf C P w K F base N qual scope f cd A outer s H E).ex:=λb z=>Zr (show b∈([]:kU)from z) (by simp);refine⟨⟨J.mod,S.kind,Y,Y,ZG _,λy z c B Z=>?_,λy L=>?_,λy c _ h=>?_,λ_=>hd,Around.frames_deeper J.frames,.inr ⟨Y,Y⟩,λb z=>Zr z<|G b,J.bs,J.bsz,λb _ _=>G b,λb z=>Zr z<|G b,J.funs,J.frf⟩,
  rfl,J.bare,Un.kept U,⟨_,x.toInCall.ns,λi y v B Z g=>?_⟩,λy c h=>⟨_,x.cell y c h⟩,J.hok.fresh<|ZG _,λy c h=>?_,λp T=>Zr (show p∈([]:kM)from T) (by simp),J.hok.kept U,?_⟩
 .exact name_of_addr x.apart (js B) (js Z)
 .have L:scope.names.lookup y=some .cell\/scope.names.lookup y=some .free:=L
  rcases L with L|L
  .exact Nn L
  .exact Zr rfl (S.nofree _<|js L)
 .exact Zh (x.above y c<|js h)
 .have hi:i<M.length:=by
   unfold start at Z
   by_cases hi:i<M.length
   .exact hi
   .rw [vb (by simpa using hi)]at Z
    rw[ju]at Z
    split at Z <;> cases Z
  have j:M[i]?=some v:=by
   unfold start at Z;rw[vd (by simpa using hi),ZH]at Z
   cases e:M[i]? with
   |none=>rw[e]at Z;cases Z
   |some a=>rw[e]at Z;cases Z;rfl
  obtain⟨u,I,X⟩:=r.get j
  have T:O[i]?=some y:=by
   rw[<-S.pre,List.getElem?_take_of_lt (by lia)];exact B
  have R:O.Nodup:=by rw[<-S.pre];exact S.nd.sublist<|jq _ _
  exists u,X;rcases S.par y (ZJ T)with k|k
  .exact .inl ⟨k,RV R T I k⟩
  .obtain ⟨c,e⟩:=Nn (n:=s.heap.objs.size+1) k
   refine .inr ⟨.inl k,c,e,?_⟩;have q:=x.cell y c e;rw[RX R T I (by show scope.names.lookup y≠_;rw[k];decide)]at q;exact q
 .exact J.hok.fresh (Zh<|x.above y c<|js h)
 .unfold start
  show _=N.length;rw[ZL,ZA,List.length_replicate];lia
def Qs{j:CXT}{P:Program}{K:W.Frag}{dV kV C a G ct oc:Value}(lk:K.lookup f=some ⟨oc,od,.func<|W.fnOf name qual params body scope dV kV C a an G ct,osl⟩)(l:W.codeIn K G qual=true)(S:Yh N g scope)(B:∀L H Q E,i L H Q E->L.length=g.length)(R:∀(A:Around)(Z:List Env)(s:Shared)(H:Hp)(L:kZ)(Q:VK)(E:XK),Vu k (A.deeper<|envOfC qual scope s.heap.objs.size f G)->i L H Q E->
   ∃t,PSs (Vf j P w K p base N qual scope f G A Z s H E) body t/\t {nx:=λ_ M=>Q .non M,rt:=Q} (start N L) H):
  Ye P w K p base j (k+1) f (W.fnOf name qual params body scope dV kV C a an G ct) g i:=by
 refine⟨B,λA Z s H args us L Q E d U hb r D=>?_⟩;have hl:=B _ _ _ _ D;have KX:K.In s.heap:=U.mod.kin.keeps λb o e=>(U.bs b o e).1;have c:s.heap.NoLimit:=U.mod.nolimit.keeps λb o e=>(U.bs b o e).1
 have O:∀y∈g.zip us,scope.names.lookup y.1=some .local\/(scope.names.lookup y.1=some .cell/\((cellsFrom (s.heap.objs.size+1) scope.names []).lookup y.1).isSome=true):=λ⟨n,v⟩ hy=>by
  rcases S.par n (List.of_mem_zip hy).1 with q|q
  .exact .inl q
  .exact .inr ⟨q,W.cellsFrom_some _ _ _<|.inl q⟩
 refine codeAny_call_function d.depth (KX _ _ lk) Y S.co S.gen Y (W.codeRec_of KX l) (hb _ _ _ _ ?_);refine wpAny_newFunctionEnv_cells S.kind O λJ2 he h x=>?_;subst he;refine⟨c.keeps x.toInCall.keep,codeAny_func ?_⟩;obtain⟨t,ht,hq⟩:=R A Z s H L Q E (d.deeper _) D;have I:Inv (Vf j P w K p base N qual scope f G A Z s H E) [] (start N L) H h:=FQ S d.hd U hl r x;refine Zn (ht [] h (start N L) H _ I hq) (λfl z T=>?_) λe z T=>T
 have F:∀{X:St}{M:Hp}{v:V}{u:Value},Inv (Vf j P w K p base N qual scope f G A Z s H E) [] X M z->RelV v u->Q v M->CE Z P w H s Q u z:=
  λ{X M v u} J m q=>⟨v,M,J.os,J.bare,J.base,J.hok,m,q⟩
 cases fl with
 |ret u=>
  obtain⟨v,X,M,J,m,q⟩:=T;exact F J m q
 |next=>
  obtain⟨X,M,J,q⟩:=T;exact F (v:=V.non) (u:=Value.none) J Y q
 |brk=>
  obtain⟨_,_,_,q⟩:=T;exact False.elim q
 |cont=>
  obtain⟨_,_,_,q⟩:=T;exact False.elim q
end L2
namespace L2
open PySem PySem.Spec PyProof.Rows
section
variable{t:TA}{id T:String}{r:List V->Hp->VK->Prop}
def tCB(r:List V->Hp->VK->Prop)(t:TA):TE:=λU H Q=>t U H λZ J=>r Z J Q
def Y9(S:UL X (.builtin id) r)(A:Gl X x)(F:X.mg x=none)(D:bootBuiltins x=some (.builtin id))(C:PA X (e::J) t)(E:x≠"__name__":=by decide)(L:(x==("__debug__":Str))=false:=by decide)(he:starEach (e::J) X.env=(false,eval e X.env)::starEach J X.env:=by rfl)(G:(backTo pos<|starEach J X.env).any (·.1)=false:=by rfl):PE X (.Call (.Name x p) (e::J) [] pos) (tCB r t):=by
 intro Z s U H Q I h;refine jW<|U2 I A F D ?_ E L;exact PyProof.Rows.callWith_builtin1 (thn (C pos Z s U H _ I h) λN O ⟨M,j,P,R,B⟩=>S Z O U j M N Q P R B) he G
def VT(C:UL X (.type T) r)(A:Gl X x)(F:X.mg x=none)(D:bootBuiltins x=some (.type T))(P:PA X (e::J) t)(E:x≠"__name__":=by decide)(L:(x==("__debug__":Str))=false:=by decide)(S:starEach (e::J) X.env=(false,eval e X.env)::starEach J X.env:=by rfl)(G:(backTo pos<|starEach J X.env).any (·.1)=false:=by rfl):PE X (.Call (.Name x p) (e::J) [] pos) (tCB r t):=by
 intro Z s U H Q I h;refine jW<|U2 I A F D ?_ E L;exact ja (thn (P pos Z s U H _ I h) λN O ⟨M,y,j,R,B⟩=>C Z O U y M N Q j R B) S G
end
end L2
namespace HT
open PySem PyProof.Rows
section
open PySem.SeqAt
open PySem.AutoSeq1 (wpAny_loadPart')
open PySem.MeetsSeq PySem.MeetsSeq2 PySem.MeetsSeq3
end
section
def cat_tup(C:IsTup s.heap t G.toArray)(X:IsTup s.heap b Z.toArray)(F:G≠[])(j:Z=[]->Q (.ref t) s)(P:Z≠[]->Q (.ref s.heap.objs.size) {s with heap:=s.heap.push {cls:=.type "tuple",data:=.seq (G++ Z).toArray}})(T:G.length+Z.length<=sizeLine):wpAny (model prog w) A (binaryOp .Add (.ref t)<|.ref b) Q E s:=by
 obtain⟨⟨B,S,data,sl⟩,R,I,n,hd⟩:=id C;obtain⟨⟨U,O,data2,L⟩,J,N,D,M⟩:=id X;simp only at I hd N M;subst I hd N M;have e:G.toArray++ Z.toArray=(G++ Z).toArray:=by simp
 by_cases hw:Z=[]
 .exact concat_meets ⟨_,R,rfl⟩ ⟨_,J,rfl⟩ noFill_tuple_add seq_tuple_add qv ql (qk _ _)
   (tuple_addW1 t b G.toArray Z.toArray n D S O sl L (by simpa using F)<|by simp[hw]) ⟨R,J,j hw⟩
 .refine concat_meets ⟨_,R,rfl⟩ ⟨_,J,rfl⟩ noFill_tuple_add seq_tuple_add qv ql (qk _ _)
   (tuple_addW2 t b G.toArray Z.toArray n D S O sl L (by simpa using F) (by simpa using hw) (by rw[ZO,ZO];exact T)) ⟨R,J,?_⟩
  rw[e];exact P hw
def sIx(n d:Nat):Option Int->Nat
 |none=>d
 |some v=>if v<0 then(v+(n:Int)).toNat else min v.toNat n
def sIx_none(n d:Nat):sIx n d none=d:=rfl
def sIx_nat(n d k:Nat):sIx n d (some (k:Int))=min k n:=by
 show(if(k:Int)<0 then((k:Int)+(n:Int)).toNat else min (k:Int).toNat n)=min k n;rw[Zq (by lia),jP]
def Sr(n d:Nat)(hd:d<=n)(o:Option Int):sIx n d o<=n:=by
 cases o with
 |none=>exact hd
 |some v=>
  show(if v<0 then(v+(n:Int)).toNat else min v.toNat n)<=n
  by_cases hv:v<0
  .rw [Zp hv];lia
  .rw [Zq hv];exact Nat.min_le_right _ _
def Ep(v:Int)(n d:Nat):(if v<0 then max (v+(n:Int)) 0 else min v (n:Int))=((sIx n d (some v):Nat):Int):=by
 show(if v<0 then max (v+(n:Int)) 0 else min v (n:Int))=(((if v<0 then(v+(n:Int)).toNat else min v.toNat n):Nat):Int)
 by_cases hv:v<0
 .simp only[Zp hv];lia
 .simp only[Zq hv];lia
def Dq(Z J:Option Int)(n:Nat):Builtin.Slice.sliceAdjust Z J 1 (n:Int)=(((sIx n 0 Z:Nat):Int),((sIx n n J:Nat):Int)):=by
 have G:¬((1:Int)<0):=by lia
 unfold Builtin.Slice.sliceAdjust;simp only[G,if_false];refine Prod.ext ?_ ?_
 .cases Z with
  |none=>rfl
  |some v=>exact Ep v n 0
 .cases J with
  |none=>rfl
  |some v=>exact Ep v n n
def Bo(i j:Nat):Builtin.Slice.slicePlaces (i:Int) (j:Int) 1=j-i:=by
 unfold Builtin.Slice.slicePlaces;have Z:(1:Int) > 0:=by lia
 simp only[Z,if_true,Int.ediv_one]
 split <;> omega
def Gq(p:IsPart v o)(h:Q o s):wpAny (model prog w) A (Builtin.Slice.slicePartIndex v) Q E s:=by
 cases p with
 |none=>exact slicePart_none h
 |int i t=>exact slicePart_int h
def WV{Z G:Option Int}{n:Nat}(O:s.heap.IsSliceOf sl vl vu .none)(N:IsPart vl Z)(M:IsPart vu G)(h:Q (((sIx n 0 Z:Nat):Int),1,sIx n n G-sIx n 0 Z) s):wpAny (model prog w) A (Builtin.Slice.sliceApplied (.ref sl)<|pure (n:Int)) Q E s:=by
 obtain⟨T,J,R,L⟩:=id O;unfold Builtin.Slice.sliceApplied Builtin.Slice.sliceFields;refine Zl<|Zl<|Zo J L (x:=vl) rfl (Zl<|Zo J L (x:=vu) rfl (Zl<|Zo J L (x:=.none) rfl (Zm ?_)));refine Zl<|slicePart_none ?_;show wpAny _ _ (if((1:Int)==0)=true then _ else _) _ _ s;rw[Zq (by decide)];refine Zl<|Gq N<|Zl<|Gq M<|Zl<|Zm ?_;show wpAny _ _ (match Builtin.Slice.sliceAdjust Z G 1 (n:Int)with|(Z,G)=>pure (Z,(1:Int),Builtin.Slice.slicePlaces Z G 1)) _ _ s;rw[Dq Z G n];show wpAny _ _ (pure (((sIx n 0 Z:Nat):Int),(1:Int),Builtin.Slice.slicePlaces ((sIx n 0 Z:Nat):Int) ((sIx n n G:Nat):Int) 1)) _ _ s;rw[Bo];exact Zm h
def KM(Z:Array Value)(i k:Nat):((List.range k).filterMap λ(m:Nat)=>Z[((i:Int)+(m:Int)*1).toNat]?).toArray=((Z.toList.drop i).take k).toArray:=by
 have e:(λ(m:Nat)=>Z[((i:Int)+(m:Int)*1).toNat]?)=λm=>Z[i+m]?:=by
  funext m
  have:((i:Int)+(m:Int)*1).toNat=i+m:=by lia
  rw[this]
 rw[e];have:=pick_run Z i k;rw[List.filterMap_map]at this;have J:((λx=>Z[x]?) ∘ λx=>i+x)=λm=>Z[i+m]?:=rfl;rw[J]at this;rw[this]
def getItem_tuple_cut{J G:Option Int}(L:IsTup s.heap t items)(T:s.heap.IsSliceOf sl vl vu .none)(D:IsPart vl J)(B:IsPart vu G)(I:¬(sIx items.size 0 J=0/\sIx items.size items.size G=items.size))(h:Q (.ref s.heap.objs.size) {s with heap:=s.heap.push {cls:=.type "tuple",data:=.seq ((items.toList.drop<|sIx items.size 0 J).take<|sIx items.size items.size G-sIx items.size 0 J).toArray}})(S:items.size<=sizeLine):wpAny (model prog w) A (getItem (.ref t)<|.ref sl) Q E s:=by
 have Z:sizeOk (.seq ((items.toList.drop<|sIx items.size 0 J).take<|sIx items.size items.size G-sIx items.size 0 J).toArray):=by
  show((items.toList.drop<|sIx items.size 0 J).take<|sIx items.size items.size G-sIx items.size 0 J).toArray.size<=sizeLine;rw[ZO,ZN,j0,qK];lia
 have P:sIx items.size items.size G<=items.size:=Sr _ _ (ZG _) G;obtain⟨F,M,O,U⟩:=id T;have R:s.TypeIs (.ref sl) "slice":=⟨F,M,O⟩;unfold getItem
 try with_reducible refine wpAny_holding ?_
 first|refine Zl (Zm ?_)|skip
 refine Zl<|wpAny_sequenceKey L.typeIs (by decide) ?_;refine Zl (wpAny_callSpecial?_slot (name:=Str.ofString "__getitem__") L.typeIs kF
  (vz kF L.typeIs entry_tuple_getitem ?_<|args_tuple_getitem _ _))
 show wpAny _ _ (Builtin.Tuple.tupleItemsOf (.ref t) >>=_) _ _ s;refine Zl<|tupleItemsOf_ L ?_;refine Zl<|qN R ?_;rw[Zp (by decide)];refine Zl<|WV T D B ?_
 have N:¬((((sIx items.size 0 J:Nat):Int)==0 && (1:Int)==1 && (sIx items.size items.size G-sIx items.size 0 J)==items.size)=true):=by
  intro q;rw[ZZ,ZZ]at q;have X:((sIx items.size 0 J:Nat):Int)=0:=eq_of_beq q.1.1;have C:sIx items.size items.size G-sIx items.size 0 J=items.size:=eq_of_beq q.2;exact I ⟨by lia,by lia⟩
 show wpAny _ _ (if(((sIx items.size 0 J:Nat):Int)==0 && (1:Int)==1 && (sIx items.size items.size G-sIx items.size 0 J)==items.size)=true then _ else _) _ _ s;rw[Zq N,KM]
 first
  |exact Zl (m:=Builtin.Tuple.tupleExact _)<|jw (Zm ⟨_,rfl,Zm h⟩) Z
  |exact Zl (m:=Builtin.Tuple.tupleExact _)<|jw (Zl<|Zm<|Zm ⟨_,rfl,Zm h⟩) Z
  |exact Zl<|Zl (m:=Builtin.Tuple.tupleExact _)<|jw (Zm<|Zm ⟨_,rfl,Zm h⟩) Z
  |exact Zl<|Zl (m:=Builtin.Tuple.tupleExact _)<|jw (Zm ⟨_,rfl,Zm h⟩) Z
end
end HT
namespace L2
open PySem PySem.Spec PyProof.Rows
abbrev TO:=St->Hp->(Option Int->Hp->Prop)->Prop
def PO(X:Cx)(e:Option Expr)(t:TO):Prop:=
 ∀(Z:kM)(s:Shared)(U:St)(H:Hp)(Q:Option Int->Hp->Prop),Inv X Z U H s->t U H Q->
  wpAny (model X.prog X.w) X.A (evalPart e X.env) (λu G=>∃o J,Inv X Z U J G/\IsPart u o/\Q o J) X.xe s
def OS:TO:=λ_ H Q=>Q none H
def CI(t:TE):TO:=λU H Q=>t U H λx Z=>∃i,x=.int i/\Q (some i) Z
section
variable{X:Cx}{te:TE}{lo hi:Option Expr}{tl th:TO}
def JV:PO X none OS:=by
 intro Z s U H Q I h;rw[evalPart_none];exact Zm ⟨none,H,I,.none,h⟩
def JE(h:PE X e te):PO X (some e) (CI te):=by
 intro Z s U H Q I L;rw[evalPart_some];refine thn (h Z s U H _ I L) λu O ⟨x,N,M,J,G⟩=>?_;obtain⟨i,rfl,q⟩:=G;obtain⟨t,rfl⟩:=J;exact⟨some i,N,M,.int i t,q⟩
def SlR(X:Cx)(r:V->Option Int->Option Int->Hp->VK->Prop):Prop:=
 ∀(Z:kM)(s:Shared)(U:St)(H:Hp)(x:V)(v G J:Value)(lo hi:kS)(sl:Addr)(Q:VK),Inv X Z U H s->RelV x v->s.heap.IsSliceOf sl G J .none->IsPart G lo->IsPart J hi->r x lo hi H Q->
  ∃T L,typeLookup (.type T) "__getitem__"=pure (some<|.builtin L)/\s.TypeIs v T/\wpAny (model X.prog X.w) X.A (getItem v<|.ref sl) (EP X Z U Q) X.xe s
def tSl(r:V->Option Int->Option Int->Hp->VK->Prop)(te:TE)(tl th:TO):TE:=λU H Q=>te U H λx G=>tl U G λl J=>th U J λu Z=>r x l u Z Q
def V0(P:SlR X r)(z:PE X e te)(j:PO X lo tl)(S:PO X hi th):PE X (.Subscript e (.Slice lo hi none p2) pos) (tSl r te tl th):=by
 intro Z s U H Q I h;refine Subscript_<|thn (z Z s U H _ I h) λv O ⟨x,d,p,R,E⟩=>?_;refine wpAny_Slice<|thn (j Z O U d _ p E) λL N ⟨l,c,k,A,D⟩=>thn (S Z N U c _ k D) λG J ⟨u,M,g,F,B⟩=>?_;rw[evalPart_none];refine Zm ?_;have m:Inv X Z U M {J with heap:=J.heap.push {cls:=.type "slice",data:=.fields #[L,G,.none]}}:=g.kept (t':=J.toks) λb f q=>ZE _ q;obtain⟨T,w,t,C,y⟩:=P Z {J with heap:=J.heap.push {cls:=.type "slice",data:=.fields #[L,G,.none]}} U M x v L G l u J.heap.objs.size Q m R (Heap.IsSliceOf.new ..) A F B;show wpAny (model X.prog X.w) X.A (subscriptTail e (.Slice lo hi none p2) v<|.ref J.heap.objs.size) (EP X Z U Q) X.xe {J with heap:=J.heap.push {cls:=.type "slice",data:=.fields #[L,G,.none]}};exact tail_any (ops:=[.ref J.heap.objs.size,v]) C t y<|by with_unfolding_all rfl
def Ug(xs:kZ)(lo hi:kS):kZ:=(xs.drop<|HT.sIx xs.length 0 lo).take<|HT.sIx xs.length xs.length hi-HT.sIx xs.length 0 lo
def W5(Z:kZ)(lo hi:kS):(Ug Z lo hi).length<=Z.length:=by
 unfold Ug;rw[ZN,j0];lia
def yj(K:W.Frag):V->Option Int->Option Int->Hp->VK->Prop:=λx lo hi H Q=>∃a Z,x=.ref a/\SqT K H a Z/\
 ¬(HT.sIx Z.length 0 lo=0/\HT.sIx Z.length Z.length hi=Z.length)/\∀p,H p=none->Q (.ref p) (upd H p<|.tup<|Ug Z lo hi)
def IY:SlR X (yj X.K):=by
 intro L s U H x v A F lo hi sl Q I O E T R h;obtain⟨a,J,rfl,B,D,q⟩:=h;cases O;obtain⟨G,r,N,M⟩:=I.tuple B;have Z:G.toArray.size=J.length:=by rw[ZO];exact r.length.symm
 exists "tuple",_,PyProof.Rows.slot_tuple_getitem.lookup,N.typeIs;refine HT.getItem_tuple_cut N E T R (by rw[Z];exact D) ?_ (by rw[Z];exact M);rw[Z];refine⟨.ref s.heap.objs.size,_,I.laid (t':=s.toks) (o:=.tup<|Ug J lo hi) (λb S q=>ZE _ q) (ZG _) ?_,rfl,q _<|I.hok.fresh<|ZG _⟩;exact⟨Zb (W5 J lo hi) M,_,(r.drop<|HT.sIx J.length 0 lo).take<|HT.sIx J.length J.length hi-HT.sIx J.length 0 lo,W8.new _ _⟩
def US(K:W.Frag):R2:=λx y H Q=>∃a b J Z,x=.ref a/\y=.ref b/\SqT K H a J/\SqT K H b Z/\J≠[]/\J.length+Z.length<=sizeLine/\
 (Z=[]->Q (.ref a) H)/\(Z≠[]->∀p,H p=none->Q (.ref p) (upd H p<|.tup<|J++ Z))
def Vals.nil_iff(r:Vals Z J):J=[]↔Z=[]:=by
 cases r with
 |nil=>simp
 |cons _ _=>simp
def MT:OpR X (binaryOp .Add) (US X.K):=by
 intro G s U H x y v u Q I T R h;obtain⟨a,b,O,N,rfl,rfl,P,C,S,M,D,B⟩:=h;cases T;cases R;obtain⟨A,J,F,_⟩:=I.tuple P;obtain⟨L,Z,E,_⟩:=I.tuple C;refine HT.cat_tup F E (λz=>S<|J.nil_iff.mp z) (λz=>⟨.ref a,H,I,rfl,D<|Z.nil_iff.mp z⟩) (λz=>?_) (by rw[<-J.length,<-Z.length];exact M);refine⟨.ref s.heap.objs.size,_,I.laid (t':=s.toks) (o:=.tup<|O++ N) (λb j q=>ZE _ q) (ZG _) ?_,rfl,B (λw=>z<|Z.nil_iff.mpr w) _<|I.hok.fresh<|ZG _⟩;exact⟨by rw[ZL];exact M,_,J.append Z,W8.new _ _⟩
end
def ixN(n:Nat)(i:Int):Option Nat:=if 0<=i then(if i<n then some i.toNat else none)else if -(n:Int)<=i then some (i+n).toNat else none
def atI{α:Type}(xs:List α)(i:Int):Option α:=(ixN xs.length i).bind λj=>xs[j]?
def EV(h:ixN n i=some j):seqIndex? i n=some j/\j<n/\ -(n:Int)<=i/\i<n:=by
 unfold ixN at h
 by_cases h0:0<=i
 .rw [Zp h0]at h
  by_cases h1:i<n
  .rw [Zp h1]at h
   have e:i.toNat=j:=ZT h;exact⟨by rw[seqIndex_of h0 h1,e],by lia,by lia,h1⟩
  .rw [Zq h1]at h;cases h
 .rw [Zq h0]at h
  by_cases h1: -(n:Int)<=i
  .rw [Zp h1]at h
   have e:(i+n).toNat=j:=ZT h;exact⟨by rw[seqIndex_neg (by lia) h1,e],by lia,h1,by lia⟩
  .rw [Zq h1]at h;cases h
def Mv(h:atI Z i=some v):∃j,seqIndex? i Z.length=some j/\Z[j]?=some v/\j<Z.length/\ -(Z.length:Int)<=i/\i<Z.length:=by
 unfold atI at h
 cases e:ixN Z.length i with
 |none=>rw[e]at h;cases h
 |some j=>
  rw[e]at h;obtain⟨M,L,G,J⟩:=EV e;exact⟨j,M,h,L,G,J⟩
def VE{Z:List α}{j:Nat}{v:α}(h:Z[j]?=some v):atI Z (j:Int)=some v:=by
 have J:j<Z.length:=(ZF.mp h).1
 have e:ixN Z.length (j:Int)=some j:=by
  unfold ixN;rw[Zp (by lia),Zp (by lia)];simp
 unfold atI;rw[e];exact h
def U8(Z:List α)(v:α):atI (Z++[v]) (-1)=some v:=by
 have J:(Z++[v]).length=Z.length+1:=by simp
 have e:ixN (Z++[v]).length (-1)=some Z.length:=by
  unfold ixN;rw[J,Zq<|by decide,Zp (by lia)]
  congr 1
  lia
 unfold atI;rw[e];show(Z++[v])[Z.length]?=some v;simp
def QI(b:Expr):Prop:=∀o i,subscripted b false o i=operate [o,i] (getItem o i)
def IxR(X:Cx)(r:R2):Prop:=
 ∀(value slice:Expr)(Z:kM)(s:Shared)(U:St)(H:Hp)(x y:V)(v u:Value)(Q:VK),Inv X Z U H s->RelV x v->RelV y u->r x y H Q->
  subscripted slice false v u=operate [v,u] (getItem v u)->wpAny (model X.prog X.w) X.A (subscriptTail value slice v u) (EP X Z U Q) X.xe s
def MtR(X:Cx)(id:String)(r:V->List V->Hp->VK->Prop):Prop:=
 ∀(Z:kM)(s:Shared)(U:St)(H:Hp)(x:V)(J:kZ)(v:Value)(G:kP)(Q:VK),Inv X Z U H s->RelV x v->Vals J G->r x J H Q->
  wpAny (model X.prog X.w) X.A (call (.builtin id) (v::G)) (EP X Z U Q) X.xe s
section
variable{a b:Expr}{ta tb:TE}
def Yk(N:IxR X r)(R:PE X a ta)(O:PE X b tb)(M:QI b:=by exact λ_ _=>Y):PE X (.Subscript a b pos) (tOp r ta tb):=by
 intro Z s U H Q I h;exact Subscript_<|Ay R O I h λv u J x y B T L G q=>N a b Z J U B x y v u Q T L G q<|M _ _
def Ts(K:W.Frag):R2:=λx y H Q=>JI x λp=>U3 y λi=>∃Z v,SqL K H p Z/\atI Z i=some v/\Q v H
def Ts.old{K:W.Frag}(h:Ts K x y H Q):∃p Z i v,x=.ref p/\y=.int i/\SqL K H p Z/\atI Z i=some v/\Q v H:=by
 replace h:=JI.old h;obtain⟨p,e,h⟩:=h;replace h:=U3.old h;obtain⟨i,J,Z,v,h⟩:=h;exact⟨p,Z,i,v,e,J,h⟩
def VY(K:W.Frag):R2:=λx y H Q=>JI x λp=>U3 y λi=>∃Z v,SqT K H p Z/\atI Z i=some v/\Q v H
def VY.old{K:W.Frag}(h:VY K x y H Q):∃p Z i v,x=.ref p/\y=.int i/\SqT K H p Z/\atI Z i=some v/\Q v H:=by
 replace h:=JI.old h;obtain⟨p,e,h⟩:=h;replace h:=U3.old h;obtain⟨i,J,Z,v,h⟩:=h;exact⟨p,Z,i,v,e,J,h⟩
def Cf:R2:=λx y H Q=>∃z i c,x=.str z/\y=.int i/\z.length<=sizeLine/\atI z.cps.toList i=some c/\Q (.str ⟨#[c]⟩) H
def Y8:IxR X (Ts X.K):=by
 intro value slice Z s U H x y v u Q I D B h O;replace h:=Ts.old h;obtain⟨p,m,i,z,rfl,rfl,E,A,q⟩:=h;cases D;obtain⟨t,rfl⟩:=B;obtain⟨N,r,M,g⟩:=I.list E;obtain⟨j,G,P,c,C,S⟩:=Mv A;obtain⟨w,R,L⟩:=r.get P;have F:=r.length;have k:=Wn;have J:EP X Z U Q w s:=⟨z,H,I,L,q⟩
 by_cases h0:0<=i
 .have hj:i.toNat=j:=by
   rw[seqIndex_of h0 S]at G;exact ZT G
  exact item_listR M.isList h0 (by lia) (by rw[hj];simpa using R) J O
 .have hj:(i+(N.toArray.size:Int)).toNat=j:=by
   rw[seqIndex_neg (by lia) C]at G;rw[ZO,<-F];exact ZT G
  exact subscriptTail_builtinR (x:=w) M.isList.typeIs slot_list_getitem.lookup
   (wpAny_getItem_list_neg (Q:=λr T=>r=w/\EP X Z U Q r T) M.isList (by lia) (by rw[ZO] <;> omega) (by lia) (by rw[hj];simpa using R) ⟨rfl,J⟩) O
def Yq:IxR X (VY X.K):=by
 intro value slice Z s U H x y v u Q I O N h T;replace h:=VY.old h;obtain⟨p,C,i,z,rfl,rfl,B,E,q⟩:=h;cases O;obtain⟨t,rfl⟩:=N;obtain⟨R,r,L,P⟩:=I.tuple B;obtain⟨j,A,F,c,k,g⟩:=Mv E;obtain⟨w,S,J⟩:=r.get F;have D:=r.length;have m:=Wn;have G:EP X Z U Q w s:=⟨z,H,I,J,q⟩;exact subscriptTail_builtinR (x:=w) L.typeIs slot_tuple_getitem.lookup
  (getItem_tuple (j:=j) (Q:=λr M=>r=w/\EP X Z U Q r M) L (by lia) (by lia) (by rw[ZO,<-D];exact A) (by simpa using S) ⟨rfl,G⟩) T
def DD:IxR X Cf:=by
 intro value slice Z s U H x y v u Q I L G h M;obtain⟨z,i,c,rfl,rfl,A,O,q⟩:=h;obtain⟨t,rfl⟩:=L;obtain⟨F,rfl⟩:=G;obtain⟨j,J,B,C,T,R⟩:=Mv O;have N:z.cps.toList.length=z.length:=by simp[Str.length]
 rw[N]at J T R;have S:=Wn
 exact tail_any (typeIs_str s z t) slot_str_getitem.lookup (getItem_str (c:=c) (by
  have E:decide (i < -(2 ^ 63:Int))=false:=Zy (by lia);have D:decide (i ≥ 2 ^ 63)=false:=Zy (by lia);rw[E,D,Bool.or_false]) (by rw[J];simpa using B) ⟨.str ⟨#[c]⟩,H,I.tok _,⟨_,rfl⟩,q⟩) M
def B4(Z:kP)(n j:Nat)(u:Value):Obj.mapSeq (·.setIfInBounds j u) {cls:=.type "list",data:=.seq Z.toArray n}={cls:=.type "list",data:=.seq (Z.set j u).toArray n}:=by
 simp[Obj.mapSeq]
def Inv.lst(I:Inv X G U H s)(h:H p=some (.lst J)):
  ∃(Z:kP)(n:Nat),Vals J Z/\s.heap.get? p=some {cls:=.type "list",data:=.seq Z.toArray n}/\J.length<=sizeLine:=by
 obtain⟨z,Z,n,r,e⟩:=I.hok p _ h;exact⟨Z,n,r,e,z⟩
def Inv.lstUpd{G Z:kP}(I:Inv X J U H s)(h:H p=some (.lst T))(O:s.heap.get? p=some {cls:=.type "list",data:=.seq G.toArray n})(M:f {cls:=.type "list",data:=.seq G.toArray n}={cls:=.type "list",data:=.seq Z.toArray n'})(r:Vals L Z)(N:L.length<=sizeLine)(t:Nat):
  Inv X J U (upd H p<|.lst L) {s with heap:=s.heap.update p f,toks:=t}:=by
 have e:(s.heap.update p f).get? p=some {cls:=.type "list",data:=.seq Z.toArray n'}:=by
  rw[Heap.get?_update_self f O (by rw[M] <;> rfl),M]
 refine I.write (x:=p) (e:=p) (by rw[h];trivial) (.inl Y) (λb u R q=>(Heap.get?_update_other _ _<|Zs R).trans q) ⟨_,e⟩ ?_;exact⟨N,Z,n',r,e⟩
def Ce:V->V->V->Hp->(Hp->Prop)->Prop:=λo i v H Q=>∃p Z k j,o=.ref p/\i=.int k/\H p=some (.lst Z)/\ixN Z.length k=some j/\Q (upd H p<|.lst<|Z.set j v)
def set_list:yF X Ce:=by
 intro Z s U H o i v C P u Q I E F D h;obtain⟨p,B,k,j,rfl,rfl,N,S,q⟩:=h;cases E;obtain⟨t,rfl⟩:=F;obtain⟨J,n,r,L,A⟩:=I.lst N;obtain⟨G,z,R,O⟩:=EV S;have M:=r.length;have y:=Wn
 have T:Inv X Z U (upd H p<|.lst<|B.set j v) {s with heap:=s.heap.update p (Obj.mapSeq (·.setIfInBounds j u))}:=
  I.lstUpd N L (B4 J n j u) (r.set D j) (by rw[List.length_set];exact A) s.toks
 by_cases h0:0<=k
 .have hk:k.toNat=j:=by
   rw[seqIndex_of h0 O]at G;exact ZT G
  exact W.ki_setAt L h0 (by lia) (by rw[ZO,<-M];exact O) (by rw[hk];exact⟨_,T,q⟩)
 .have hk:(k+(J.toArray.size:Int)).toNat=j:=by
   rw[seqIndex_neg (by lia) R]at G;rw[ZO,<-M];exact ZT G
  exact W.ki_setBack L (by lia) (by rw[ZO,<-M];exact R) (by lia) (by rw[hk];exact⟨_,T,q⟩)
def Rz(Z J:kS)(n:Nat):(sliceBounds Z J none n).1=((HT.sIx n 0 Z:Nat):Int)/\(sliceBounds Z J none n).2.1=((HT.sIx n n J:Nat):Int)/\(sliceBounds Z J none n).2.2=1:=by
 refine⟨?_,?_,Y⟩
 .cases Z with
  |none=>simp[sliceBounds,HT.sIx]
  |some i=>
   simp only[sliceBounds,HT.sIx,Option.getD_none,show(1:Int) > 0 by decide,if_true]
   by_cases h:i<0
   .simp only[h,if_true] <;> omega
   .simp only[h,if_false] <;> omega
 .cases J with
  |none=>simp[sliceBounds,HT.sIx]
  |some i=>
   simp only[sliceBounds,HT.sIx,Option.getD_none,show(1:Int) > 0 by decide,if_true]
   by_cases h:i<0
   .simp only[h,if_true] <;> omega
   .simp only[h,if_false] <;> omega
def Tq(Z:kP)(J G:kS):slicePick Z.toArray J G none=((Z.drop<|HT.sIx Z.length 0 J).take<|HT.sIx Z.length Z.length G-HT.sIx Z.length 0 J).toArray:=by
 obtain⟨N,M,L⟩:=Rz J G Z.toArray.size;unfold slicePick;rw[N,M,L];simp only[sliceRange_one,pick_run,ZO] <;> rfl
def ym(K:W.Frag):V->Option Int->Option Int->Hp->VK->Prop:=λx J G H Q=>∃a Z,x=.ref a/\SqL K H a Z/\∀p,H p=none->Q (.ref p) (upd H p<|.lst<|Ug Z J G)
def XE:SlR X (ym X.K):=by
 intro M s U H x v S A G L sl Q I O F T R h;obtain⟨a,Z,rfl,E,q⟩:=h;cases O;obtain⟨B,r,N,D⟩:=I.list E;have J:=r.length;exists "list",_,slot_list_getitem.lookup,N.isList.typeIs;refine wpAny_getItem_list_slice N.isList F T R .none (by simp) ?_ (by rw[ZO] <;> omega);rw[Tq,<-J];refine⟨.ref s.heap.objs.size,_,I.laid (t':=s.toks) (o:=.lst<|Ug Z G L) (λb C q=>ZE _ q) (ZG _) ?_,rfl,q _<|I.hok.fresh<|ZG _⟩;exact⟨Zb (W5 Z G L) D,_,0,(r.drop<|HT.sIx Z.length 0 G).take<|HT.sIx Z.length Z.length L-HT.sIx Z.length 0 G,ZY _ rfl⟩
def U4:V->Bool
 |.non=>true
 |.bl _=>true
 |.int _=>true
 |.str _=>true
 |_=>false
def eqV:V->V->Bool
 |.non,.non=>true
 |.bl a,.bl b=>a==b
 |.bl a,.int b=>(if a then 1 else 0)==b
 |.int a,.bl b=>a==(if b then 1 else 0)
 |.int a,.int b=>a==b
 |.str a,.str b=>a==b
 |_,_=>false
def Aq(G:RelV y u)(Z:RelV x v)(M:U4 y=true)(L:U4 x=true):SeqAt.EqAt A s u v (eqV y x):=by
 cases y with
 |non=>
  cases G
  cases x with
  |non=>cases Z;exact SeqAt.EqAt.same _
  |bl b=>cases Z;exact SeqAt.EqAt.none_bool b
  |int b=>obtain⟨t,rfl⟩:=Z;exact SeqAt.EqAt.none_int b t
  |str b=>obtain⟨t,rfl⟩:=Z;exact SeqAt.EqAt.none_str b t
  |_=>exact Zr (show false=true from L) Zi
 |bl a=>
  cases G
  cases x with
  |non=>cases Z;exact SeqAt.EqAt.bool_none a
  |bl b=>cases Z;exact SeqAt.EqAt.bool_bool a b
  |int b=>obtain⟨t,rfl⟩:=Z;exact SeqAt.EqAt.bool_int a b t
  |str b=>obtain⟨t,rfl⟩:=Z;exact SeqAt.EqAt.bool_str a b t
  |_=>exact Zr (show false=true from L) Zi
 |int a=>
  obtain⟨J,rfl⟩:=G
  cases x with
  |non=>cases Z;exact SeqAt.EqAt.int_none a J
  |bl b=>cases Z;exact SeqAt.EqAt.int_bool a J b
  |int b=>obtain⟨t,rfl⟩:=Z;exact SeqAt.EqAt.int_int a J b t
  |str b=>obtain⟨t,rfl⟩:=Z;exact SeqAt.EqAt.int_str a J b t
  |_=>exact Zr (show false=true from L) Zi
 |str a=>
  obtain⟨J,rfl⟩:=G
  cases x with
  |non=>cases Z;exact SeqAt.EqAt.str_none a J
  |bl b=>cases Z;exact SeqAt.EqAt.str_bool a J b
  |int b=>obtain⟨t,rfl⟩:=Z;exact SeqAt.EqAt.str_int a J b t
  |str b=>obtain⟨t,rfl⟩:=Z;exact SeqAt.EqAt.str_str a J b t
  |_=>exact Zr (show false=true from L) Zi
 |_=>exact Zr (show false=true from M) Zi
def eqU(x:V)(u:Value):Bool:=match u with
 |.none=>eqV .non x
 |.bool b=>eqV (.bl b) x
 |.int i _=>eqV (.int i) x
 |.str z _=>eqV (.str z) x
 |_=>false
def Ll(r:RelV y u)(f:U4 y=true):eqU x u=eqV y x:=by
 cases y with
 |non=>cases r;rfl
 |bl b=>cases r;rfl
 |int i=>obtain⟨t,rfl⟩:=r;rfl
 |str z=>obtain⟨t,rfl⟩:=r;rfl
 |_=>exact Zr (show false=true from f) Zi
theorem WO:∀{Z:kZ}{J:kP},Vals Z J->Z.all U4=true->J.any (eqU x)=Z.any λy=>eqV y x
 |_,_,.nil,_=>rfl
 |y::Z,u::J,.cons r t,f=>by
  rw[qR,ZZ]at f;rw[jj,jj,Ll r f.1,WO t f.2]
theorem U1(L:RelV x v)(M:U4 x=true):∀{J:kZ}{G:kP},Vals J G->J.all U4=true->∀u∈G,SeqAt.EqAt A s u v<|eqU x u
 |_,_,.nil,_=>λu Z=>by cases Z
 |y::J,u::G,.cons r t,f=>λN Z=>by
  rw[qR,ZZ]at f;rcases Zd.mp Z with rfl|Z
  .rw [Ll r f.1];exact Aq r L f.1 M
  .exact U1 L M t f.2 N Z
def inV(x:V)(xs:kZ):Bool:=xs.any λy=>eqV y x
def rIn(K:W.Frag)(neg:Bool):R2:=λx y H Q=>∃p Z,y=.ref p/\(SqL K H p Z\/SqT K H p Z)/\U4 x=true/\Z.all U4=true/\Q (.bl<|if neg then !inV x Z else inV x Z) H
def XI:OpR X (compareOp .In) (rIn X.K false):=by
 intro M s U H x y v u Q I L O h;obtain⟨p,R,rfl,Z,N,J,q⟩:=h;cases O;rcases Z with Z|Z
 .obtain ⟨its,r,pl,hz⟩:=I.list Z
  refine SeqAt.in_listAt (eqU x) pl.isList (λw G=>U1 L N r J w<|by simpa using G) ⟨.bl _,H,I,rfl,?_⟩;rw[show its.toArray.any (eqU x)=its.any (eqU x) by simp,WO r J];exact q
 .obtain ⟨its,r,pl,hz⟩:=I.tuple Z
  refine SeqAt.in_tupleAt (eqU x) pl (λw G=>U1 L N r J w<|by simpa using G) ⟨.bl _,H,I,rfl,?_⟩;rw[show its.toArray.any (eqU x)=its.any (eqU x) by simp,WO r J];exact q
def Jg:OpR X (compareOp .NotIn) (rIn X.K true):=by
 intro M s U H x y v u Q I L O h;obtain⟨p,R,rfl,Z,N,J,q⟩:=h;cases O;rcases Z with Z|Z
 .obtain ⟨its,r,pl,hz⟩:=I.list Z
  refine SeqAt.notIn_listAt (eqU x) pl.isList (λw G=>U1 L N r J w<|by simpa using G) ⟨.bl _,H,I,rfl,?_⟩;rw[show its.toArray.any (eqU x)=its.any (eqU x) by simp,WO r J];exact q
 .obtain ⟨its,r,pl,hz⟩:=I.tuple Z
  refine SeqAt.notIn_tupleAt (eqU x) pl (λw G=>U1 L N r J w<|by simpa using G) ⟨.bl _,H,I,rfl,?_⟩;rw[show its.toArray.any (eqU x)=its.any (eqU x) by simp,WO r J];exact q
def Yw:UL X (.builtin "len") (λL H Q=>∃p J,L=[.ref p]/\(SqL X.K H p J\/SqT X.K H p J)/\Q (.int J.length) H):=by
 intro M s U H L O Q I r h;obtain⟨p,J,rfl,G,q⟩:=h;obtain⟨u,rfl,N⟩:=vals1 r;cases N;have R:=Wn;rcases G with G|G
 .obtain ⟨its,r',pl,hz⟩:=I.list G
  have Z:=r'.length;exact Calls.call_len_list pl.isList (by simp only[ZO] <;> omega) ⟨.int J.length,H,I.tok _,⟨s.toks+1,by rw[ZO,Z]⟩,q⟩
 .obtain ⟨its,r',pl,hz⟩:=I.tuple G
  have Z:=r'.length;exact len_tuple pl (by simp only[ZO] <;> omega) ⟨.int J.length,H,I.tok _,⟨s.toks+1,by rw[ZO,Z]⟩,q⟩
def Mt:UL X (.builtin "len") (λZ H Q=>∃z,Z=[.str z]/\z.length<=sizeLine/\Q (.int z.length) H):=by
 intro J s U H Z G Q I r h;obtain⟨z,rfl,L,q⟩:=h;obtain⟨u,rfl,t,rfl⟩:=vals1 r;have M:=Wn;exact len_str (by lia) ⟨.int z.length,H,I.tok _,⟨_,Y⟩,q⟩
def Ui:UL X (.type "list") (λA H Q=>∃p G,A=[.ref p]/\(SqL X.K H p G\/SqT X.K H p G)/\∀l,H l=none->Q (.ref l) (upd H l<|.lst G)):=by
 intro N s U H A P Q I r h;obtain⟨p,G,rfl,T,q⟩:=h;obtain⟨u,rfl,C⟩:=vals1 r;cases C;have D:∀(Z:kP),Vals G Z->G.length<=sizeLine->∀(J:Heap)(M:Nat),(∀b S,s.heap.get? b=some S->J.get? b=some S)->
   J.get? s.heap.objs.size=some {cls:=.type "list",dict:=none,data:=.seq Z.toArray M,slots:= #[]}->EP X N U Q (.ref s.heap.objs.size) {s with heap:=J}:=λZ L R J M O e=>
  ⟨.ref s.heap.objs.size,_,I.laid (t':=s.toks) O (ZG _) (show VS X.prog X.w _ J _ (.lst G)from⟨R,Z,M,L,e⟩),rfl,q _<|I.hok.fresh<|ZG _⟩
 rcases T with T|T
 .obtain ⟨Z,L,pl,R⟩:=I.list T
  have B:=L.length;obtain⟨o,E,F,n,hd⟩:=pl.isList;exact call_list_seq p (.inl Y) E F hd (λJ M O e=>D Z L R J M O e) (by simp only[ZO] <;> omega)
 .obtain ⟨Z,L,pl,R⟩:=I.tuple T
  have B:=L.length;obtain⟨o,E,F,n,hd⟩:=pl;exact call_list_seq p (.inr Y) E F hd (λJ M O e=>D Z L R J M O e) (by simp only[ZO] <;> omega)
def Vy:UL X (.type "tuple") (λM H Q=>∃p J,M=[.ref p]/\((SqL X.K H p J/\∀l,H l=none->Q (.ref l) (upd H l<|.tup J))\/(SqT X.K H p J/\Q (.ref p) H))):=by
 intro Z s U H M D Q I r h;obtain⟨p,J,rfl,h⟩:=h;obtain⟨u,rfl,R⟩:=vals1 r;cases R;rcases h with⟨L,q⟩|⟨L,q⟩
 .obtain ⟨its,r',pl,hz⟩:=I.list L
  have N:=r'.length;refine call_tuple_list pl.isList (λG T=>?_) (by simp only[ZO] <;> omega);have O:Inv X Z U H {s with heap:=G}:=I.kept (t':=s.toks) T
  have B:Inv X Z U (upd H G.objs.size<|.tup J) {s with heap:=G.push {cls:=.type "tuple",data:=.seq its.toArray}}:=
   O.laid (t':=s.toks) (λb o e=>ZE _ e) (ZG _) (show VS X.prog X.w _ _ _ (.tup J)from⟨hz,its,r',W8.new _ _⟩)
  exact⟨.ref G.objs.size,_,B,Y,q _<|O.hok.fresh<|ZG _⟩
 .obtain ⟨its,r',pl,hz⟩:=I.tuple L
  exact call_tuple_same pl ⟨.ref p,H,I,Y,q⟩
def tyV(K:W.Frag)(T:String)(x:V)(H:Hp):Prop:=match x with
 |.str _=>T="str"
 |.int _=>T="int"
 |.ref p=>(T="list" /\∃xs,SqL K H p xs)\/(T="tuple" /\∃o,K.lookup p=some o/\o.cls=.type "tuple" /\o.dict=none) \/
   (T="dict" /\((∃kvs,H p=some (.dK kvs)) \/ ∃kvs,H p=some (.dT kvs)))\/(T="set" /\∃S n,H p=some (.set S n))
 |_=>False
def Fx(I:Inv X M U H s)(r:RelV x v)(ty:tyV X.K T x H):
  s.TypeIs v T/\∀a,v=.ref a->∃N,s.heap.get? a=some N/\N.dict=none:=by
 cases x with
 |str z=>
  obtain⟨t,rfl⟩:=r;cases(show T="str" from ty);exact⟨typeIs_str s z t,λ_ e=>nomatch e⟩
 |int i=>
  obtain⟨t,rfl⟩:=r;cases(show T="int" from ty);exact⟨typeIs_int s i t,λ_ e=>nomatch e⟩
 |ref p=>
  cases r;rcases ty with⟨rfl,B,O⟩|⟨rfl,o,Z,R,hd⟩|⟨rfl,Z⟩|⟨rfl,S,n,Z⟩
  .obtain ⟨its,_,pl,_⟩:=I.list O
   refine⟨pl.isList.typeIs,λa e=>?_⟩;cases e;obtain⟨o,n,e,c,hd,_⟩:=pl;exact⟨o,e,hd⟩
  .refine ⟨⟨o,I.kIn p o Z,R⟩,λa e=>?_⟩
   cases e;exact⟨o,I.kIn _ o Z,hd⟩
  .have z:∃o,s.heap.get? p=some o/\o.ExactDict:=by
    rcases Z with⟨G,Z⟩|⟨G,Z⟩
    .obtain ⟨_,_,_,_,o,_,_,e,J,_⟩:=I.hok p _ Z
     exact⟨o,e,J⟩
    .obtain ⟨_,_,_,_,o,_,_,e,J,_⟩:=I.hok p _ Z
     exact⟨o,e,J⟩
   obtain⟨o,e,J⟩:=z;refine⟨⟨o,e,J.1⟩,λa L=>?_⟩;cases L;exact⟨o,e,J.2.1⟩
  .obtain ⟨o,_,_,_,e,J,_⟩:=I.hok p _ Z
   refine⟨⟨o,e,J.1⟩,λa L=>?_⟩;cases L;exact⟨o,e,J.2.1⟩
 |_=>exact False.elim ty
def yP(K:W.Frag)(T:String)(r:V->List V->Hp->VK->Prop)(to:TE):TE:=λU H Q=>to U H λx Z=>tyV K T x Z/\r x [] Z Q
def tBM(K:W.Frag)(T:String)(r:V->List V->Hp->VK->Prop)(to:TE)(t:TA):TE:=λU H Q=>to U H λx Z=>tyV K T x Z/\t U Z λJ G=>r x J G Q
variable{T id:String}
def KW(B:PlainAttrs T)(slot:Slot T name id)(L:typeOf (.builtin id)=pure (.type "method_descriptor"))(E:MtR X id r)(D:PE X o to)(G:attributeBase o name X.env (eval o X.env)=eval o X.env:=by rfl)(J:(apos.endLine==cpos.line)=true:=by rfl):PE X (.Call (.Attribute o name apos) [] [] cpos) (yP X.K T r to):=by
 intro Z s U H Q I h;refine wpAny_Call_method0_late G J<|thn (D Z s U H _ I h) λv O ⟨x,S,N,M,ty,R⟩=>?_;obtain⟨A,F⟩:=Fx N M ty;exact⟨T,id,B,slot,L,A,F,Calls.callWith_builtin Y (PySem.evalArgs_none<|E Z O U S x [] v [] Q N M .nil R)⟩
def Uy(y:PlainAttrs T)(slot:Slot T name id)(O:typeOf (.builtin id)=pure (.type "method_descriptor"))(m:MtR X id r)(q:PE X o to)(g:PA X (e::M) t)(L:attributeBase o name X.env (eval o X.env)=eval o X.env:=by rfl)(N:((backTo cpos<|starEach (e::M) X.env).all (λx=>!x.1) && (backToKw cpos<|keywordEach [] X.env).all (λx=>x.1.isSome)
   && decide ((e::M).length+([]:List Keyword).length+(if([]:List Keyword).isEmpty then 0 else 1)<30))=true:=by rfl)(G:(apos.endLine==cpos.line)=true:=by rfl)(z:starEach (e::M) X.env=(false,eval e X.env)::starEach M X.env:=by rfl)(J:(backTo cpos<|starEach M X.env).any (·.1)=false:=by rfl):
  PE X (.Call (.Attribute o name apos) (e::M) [] cpos) (tBM X.K T r to t):=by
 intro Z s U H Q I h;refine wpAny_Call_method_late L N G Y (thn (q Z s U H _ I h) λv S ⟨x,f,D,R,ty,j⟩=>?_);obtain⟨p,k⟩:=Fx D R ty;exists T,id,y,slot,O,p,k;have B:=g cpos Z S U f _ D j;rw[z]at B |-;refine Calls.callWith_builtin (by show(false || (backTo cpos<|starEach M X.env).any (·.1))=false;rw[J] <;> rfl)<|Calls.evalArgs_plain ?_;exact thn B λF A ⟨E,d,c,C,P⟩=>m Z A U d x E v F Q c R C P
end
def MtM(X:Cx)(id:String)(r:V->List V->Hp->VK->Prop):Prop:=
 ∀(Z:kM)(s:Shared)(U:St)(H:Hp)(x:V)(J:kZ)(v:Value)(G:kP)(Q:VK),Inv X Z U H s->RelV x v->Vals J G->r x J H Q->
  wpAny (model X.prog X.w) X.A (call (.builtin id) (v::G)) (EP X Z U Q) X.xe s
theorem Vals.one:∀{x:V}{Z:kP},Vals [x] Z->∃u,Z=[u]/\RelV x u
 |_,_,.cons r .nil=>⟨_,rfl,r⟩
theorem Vals.zero:∀{Z:kP},Vals [] Z->Z=[]
 |_,.nil=>rfl
def Vals.dropLast(h:Vals Z J):Vals Z.dropLast J.dropLast:=by
 induction h with
 |nil=>exact .nil
 |cons r t ih=>
  cases t with
  |nil=>exact .nil
  |cons q G=>exact .cons r ih
def De(l:List α):l.eraseIdx (l.length-1)=l.dropLast:=by
 induction l with
 |nil=>rfl
 |cons a r ih=>
  cases r with
  |nil=>rfl
  |cons b r=>
   have e:(a::b::r).length-1=((b::r).length-1)+1:=by
    have J:(a::b::r).length=r.length+2:=rfl;have Z:(b::r).length=r.length+1:=rfl;lia
   rw[e,List.eraseIdx_cons_succ,ih]
   all_goals rfl
section
def Inv.lset{J its':kP}(I:Inv X Z U H s)(T:H l=some (.lst B))(e:s.heap.get? l=some {cls:=.type "list",data:=.seq J.toArray n})(O:f J.toArray=its'.toArray)(M:Vals G its')(L:G.length<=sizeLine):
  Inv X Z U (upd H l<|.lst G) {s with heap:=s.heap.update l<|Obj.mapSeq f,toks:=D}:=by
 have q:=PySem.IsL.update e f;rw[O]at q;refine I.write (x:=l) (e:=l) (by rw[T];exact trivial) (.inl Y) (λE u R N=>(Heap.get?_update_other s.heap (Obj.mapSeq f)<|Zs R).trans N) ⟨_,q⟩ ?_;exact⟨L,its',_,M,q⟩
def Inv.lnew(I:Inv X Z U H s)(M:Vals G J)(L:G.length<=sizeLine):
  Inv X Z U (upd H s.heap.objs.size<|.lst G) {s with heap:=s.heap.push {cls:=.type "list",data:=.seq J.toArray},toks:=t'}:=
 I.laid (λ_ _ q=>ZE _ q) (ZG _) ⟨L,J,0,M,ZY _ rfl⟩
def Inv.fresh(I:Inv X Z U H s):H s.heap.objs.size=none:=I.hok.fresh<|ZG _
def Inv.lstM(I:Inv X G U H s)(L:H l=some (.lst J)):J.length<=sizeLine/\∃(Z:kP)(n:Nat),Vals J Z/\J.length=Z.length/\s.heap.get? l=some {cls:=.type "list",data:=.seq Z.toArray n}:=by
 obtain⟨z,Z,n,r,e⟩:=I.hok l _ L;exact⟨z,Z,n,r,r.length,e⟩
end
section
def Ox:V->List V->Hp->VK->Prop:=λx J H Q=>∃l Z y,x=.ref l/\J=[y]/\H l=some (.lst Z)/\Z.length<sizeLine/\Q .non (upd H l<|.lst<|Z++[y])
def JM:MtM X "list.append" Ox:=by
 intro J s U H x R v T Q I L M h;obtain⟨l,O,y,rfl,rfl,G,B,q⟩:=h;cases L;obtain⟨u,rfl,N⟩:=M.one;obtain⟨z,Z,n,r,D,e⟩:=I.lstM G;refine call_meets F.slot_list_append ⟨_,e,Y⟩ F.entry_list_append (F.args_list_append_2 _ _) (PySem.list_append l Z.toArray n u (by rw[ZO];lia)) ⟨e,?_⟩;refine⟨.non,_,I.lset (its':=Z++[u]) G e (by simp) (r.append<|.cons N .nil) ?_,rfl,q⟩;rw[ZL,vc];lia
def yn:V->List V->Hp->VK->Prop:=λx J H Q=>∃l Z y,x=.ref l/\J=[]/\H l=some (.lst Z)/\Z[Z.length-1]?=some y/\Q y (upd H l<|.lst Z.dropLast)
def K9:MtM X "list.pop" yn:=by
 intro L s U H x A v S Q I N O h;obtain⟨l,E,y,rfl,rfl,M,T,q⟩:=h;cases N;have G:=O.zero;subst G;obtain⟨z,Z,n,r,D,e⟩:=I.lstM M;obtain⟨u,B,R⟩:=r.get T
 have J:Z.toArray[Z.toArray.size-1]?=some u:=by
  show Z.toArray[Z.length-1]?=some u;rw[<-Array.getElem?_toList,<-D];exact B
 refine call_meets F.slot_list_pop ⟨_,e,Y⟩ F.entry_list_pop (F.args_list_pop_1 _) (MeetsSeq.list_pop_last l Z.toArray n u J (by rw[ZO];lia)) ⟨e,?_⟩;refine⟨y,_,I.lset (its':=Z.dropLast) M e ?_ r.dropLast ?_,R,q⟩
 .show Z.toArray.eraseIdxIfInBounds (Z.toArray.size-1)=Z.dropLast.toArray
  rw[ZO,List.eraseIdxIfInBounds_toArray,De]
 .rw [jf]
  lia
def yr:R2:=λx y H Q=>∃l b J Z,x=.ref l/\y=.ref b/\H l=some (.lst J)/\H b=some (.lst Z)/\J.length+Z.length<=sizeLine/\∀p,H p=none->Q (.ref p) (upd H p<|.lst<|J++ Z)
def Kb:OpR X (binaryOp .Add) yr:=by
 intro G s U H x y v u Q I M L h;obtain⟨l,b,A,E,rfl,rfl,R,T,C,q⟩:=h;cases M;cases L;obtain⟨z,J,n,r,P,e⟩:=I.lstM R;obtain⟨F,Z,S,N,O,D⟩:=I.lstM T;refine PySem.P.add_list e D ?_ (by rw[ZO,ZO];lia);have B:J.toArray++ Z.toArray=(J++ Z).toArray:=by simp
 rw[B];exact⟨.ref _,_,I.lnew (t':=s.toks) (r.append N) (by rw[ZL];lia),Y,q _ I.fresh⟩
end
section
set_option maxRecDepth 100000 in
end
section
variable{κ:Type}[DecidableEq κ]
def VH(kvs:List (κ×V))(k:κ):pf:=(kvs.find? λZ=>decide<|Z.1=k).map (·.2)
def putK(kvs:List (κ×V))(k:κ)(v:V):List (κ×V):=
 if(kvs.any λZ=>decide<|Z.1=k)=true then kvs.map (λZ=>if Z.1=k then(Z.1,v)else Z)else kvs++[(k,v)]
def Vn{p:κ×V}(e:p.1=k):VH (p::r) k=some p.2:=by simp[VH,vU,e]
def Vo{p:κ×V}(e:¬p.1=k):VH (p::r) k=VH r k:=by simp[VH,vU,e]
theorem Jt(k:κ):∀Z:List (κ×V),(Z.any λJ=>decide<|J.1=k)=(VH Z k).isSome
 |[]=>rfl
 |p::r=>by
  rw[jj]
  by_cases e:p.1=k
  .simp only[Vn e,decide_eq_true e,Bool.true_or,Option.isSome_some]
  .rw [Vo e,Zy e,Bool.false_or];exact Jt k r
theorem M0(k j:κ)(y:V):∀Z:List (κ×V),VH (Z.map λJ=>if J.1=k then(J.1,y)else J) j=(VH Z j).map λx=>if j=k then y else x
 |[]=>rfl
 |p::r=>by
  have ih:=M0 k j y r;rw[ZV]
  by_cases h:p.1=k
  .rw [Zp h]
   by_cases e:p.1=j
   .rw [Vn (p:=(p.1,y)) e,Vn e,qx,Zp (e.symm.trans h)]
   .rw [Vo (p:=(p.1,y)) e,Vo e,ih]
  .rw [Zq h]
   by_cases e:p.1=j
   .rw [Vn (p:=p) e,Vn e,qx,Zq (λz=>h<|e.trans z)]
   .rw [Vo (p:=p) e,Vo e,ih]
theorem Tw(k j:κ)(y:V):∀Z:List (κ×V),VH Z k=none->VH (Z++[(k,y)]) j=if j=k then some y else VH Z j
 |[],_=>by
  by_cases e:k=j
  .rw [Zp e.symm];exact Vn (p:=(k,y)) e
  .rw [Zq (λz=>e z.symm)];exact Vo (p:=(k,y)) e
 |p::r,hn=>by
  rw[List.cons_append];have J:¬p.1=k:=λz=>by rw[Vn z]at hn;cases hn
  rw[Vo J]at hn;have ih:=Tw k j y r hn
  by_cases e:p.1=j
  .rw [Vn e,Vn e,Zq (λz=>J<|e.trans z)]
  .rw [Vo e,Vo e,ih]
def JA(Z:List (κ×V))(k j:κ)(y:V):VH (putK Z k y) j=if j=k then some y else VH Z j:=by
 unfold putK
 by_cases a:(Z.any λJ=>decide<|J.1=k)=true
 .rw [Zp a,M0]
  rw[Jt]at a
  by_cases e:j=k
  .obtain ⟨x,hx⟩:=qj.mp a
   rw[Zp e,e,hx,qx,Zp rfl]
  .rw [Zq e]
   cases VH Z j with
   |none=>rfl
   |some x=>rw[qx,Zq e]
 .rw [Zq a]
  refine Tw k j y Z ?_;rw[Jt]at a
  cases q:VH Z k with
  |none=>rfl
  |some x=>rw[q]at a;exact(a rfl).elim
def Vj(Z:List (κ×V))(k:κ)(v:V):(putK Z k v).length<=Z.length+1:=by
 unfold putK
 split
 .rw [ZA];lia
 .rw [ZL,Zf,qy];lia
def Jf{Z:List (κ×V)}(v:V)(h:VH Z k=none):putK Z k v=Z++[(k,v)]:=by
 unfold putK;rw[Jt,h];exact Zq<|by decide
def UX.isSome_eq(r:UX o u):o.isSome=u.isSome:=by
 cases o with
 |none=>cases u with
  |none=>rfl
  |some _=>exact(show False from r).elim
 |some _=>cases u with
  |none=>exact(show False from r).elim
  |some _=>rfl
def UX.getD(r:UX o u)(Z:RelV d d'):RelV (o.getD d) (u.getD d'):=by
 cases o with
 |none=>cases u with
  |none=>exact Z
  |some _=>exact(show False from r).elim
 |some _=>cases u with
  |none=>exact(show False from r).elim
  |some _=>exact r
def KV.val(r:KV J L)(k:κ):UX (VH J k) (valueAt L k):=by
 unfold KV at r
 induction r with
 |nil=>exact True.intro
 | @cons p q N Z h t ih=>
  obtain⟨G,M⟩:=h
  by_cases e:p.1=k
  .have e':q.1=k:=G.symm.trans e
   have b:valueAt (q::Z) k=some q.2:=by simp[valueAt,vU,e']
   rw[Vn e,b];exact M
  .have e':¬q.1=k:=λz=>e<|G.trans z
   have b:valueAt (q::Z) k=valueAt Z k:=by simp[valueAt,vU,e']
   rw[Vo e,b];exact ih
def KV.any(r:KV Z G)(k:κ):(Z.any λJ=>decide<|J.1=k)=G.any λJ=>decide (J.1=k):=by
 unfold KV at r
 induction r with
 |nil=>rfl
 |cons h t ih=>rw[jj,jj,ih,h.1]
def KV.repl(r:KV G L)(k:κ)(M:RelV y u):
  KV (G.map λZ=>if Z.1=k then(Z.1,y)else Z) (L.map λZ=>if Z.1=k then(Z.1,u)else Z):=by
 unfold KV at r |-
 induction r with
 |nil=>exact .nil
 | @cons p q R O h t ih=>
  rw[ZV,ZV];refine .cons ?_ ih;obtain⟨J,N⟩:=h
  by_cases e:p.1=k
  .rw [Zp e,Zp (J.symm.trans e)];exact⟨J,M⟩
  .rw [Zq e,Zq (λz=>e<|J.trans z)];exact⟨J,N⟩
def KV.put(r:KV Z J)(k:κ)(G:RelV y u):KV (putK Z k y) (stored J k u):=by
 unfold putK stored;rw[r.any k]
 by_cases e:(J.any λL=>decide<|L.1=k)=true
 .rw [Zp e,Zp e];exact r.repl k G
 .rw [Zq e,Zq e];exact Paired.snoc r ⟨Y,G⟩
def KV.keys{Z:List (κ×V)}(r:KV Z J):Z.map (·.1)=J.map (·.1):=by
 unfold KV at r
 induction r with
 |nil=>rfl
 |cons h t ih=>rw[ZV,ZV,ih,h.1]
def KV.length(r:KV Z J):Z.length=J.length:=Paired.length r
end
def XX(r:RelV (kV k) u):(VD P w).is k u=true:=by
 cases k with
 |inl i=>obtain⟨t,e⟩:=(show ∃t,u=Value.int i t from r);subst e;exact NT P w i t
 |inr x=>obtain⟨t,e⟩:=(show ∃t,u=Value.str x t from r);subst e;exact NS P w x t
theorem RH:∀{Z:List Key}{J:kP},Vals (Z.map kV) J->ItemsAre (VD P w) Z J
 |[],_,r=>by rw[jQ]at r;cases r;exact .nil
 |k::Z,_,r=>by
  rw[ZV]at r
  cases r with
  |cons h t=>exact .cons (XX h)<|RH t
abbrev KT(H:Hp):List (List Key×V)->List (List Key×Addr×Value)->Prop:=Paired λp q=>p.1=q.1/\H q.2.1=some (.tup (p.1.map kV))/\RelV p.2 q.2.2
def KT.val(r:KT H J L)(k:List Key):UX (VH J k) ((atKey L k).map (·.2)):=by
 induction r with
 |nil=>exact True.intro
 | @cons p q N Z h t ih=>
  obtain⟨G,_,M⟩:=h
  by_cases e:p.1=k
  .have e':q.1=k:=G.symm.trans e
   have b:atKey (q::Z) k=some q.2:=by simp[atKey,vU,e']
   rw[Vn e,b];exact M
  .have e':¬q.1=k:=λz=>e<|G.trans z
   have b:atKey (q::Z) k=atKey Z k:=by simp[atKey,vU,e']
   rw[Vo e,b];exact ih
def KT.repl(r:KT H J M)(k:List Key)(N:RelV y u):
  KT H (J.map λG=>if G.1=k then(G.1,y)else G) (M.map<|putAt k u):=by
 induction r with
 |nil=>exact .nil
 | @cons p q T R h t ih=>
  rw[ZV,ZV];refine .cons ?_ ih;obtain⟨Z,L,O⟩:=h;unfold putAt
  by_cases e:p.1=k
  .rw [Zp e,Zp (Z.symm.trans e)];exact⟨Z,L,N⟩
  .rw [Zq e,Zq (λz=>e<|Z.trans z)];exact⟨Z,L,O⟩
def KT.put(r:KT H Z J)(k:List Key)(M:H b=some (.tup<|k.map kV))(G:RelV y u):
  KT H (putK Z k y) (storedH J k b u):=by
 have e:(Z.any λL=>decide<|L.1=k)=(atKey J k).isSome:=by
  rw[Jt,(r.val k).isSome_eq,jR]
 unfold putK storedH;rw[e]
 by_cases q:(atKey J k).isSome=true
 .rw [Zp q,Zp q];exact r.repl k G
 .rw [Zq q,Zq q];exact Paired.snoc r ⟨Y,M,G⟩
def KT.keeps(r:KT H Z G)(L:∀b J,H b=some (.tup J)->M b=some (.tup J)):KT M Z G:=
 Paired.mapP r λ_ _ z=>⟨z.1,L _ _ z.2.1,z.2.2⟩
section
def QY(Z:HOk P w H h)(e:Rd H a u):VS P w H h a u:=e.ok Z
def W4(G:HOk P w H h)(e:Rd H a (.dK Z)):Z.length<=sizeLine/\(a==sysModules)=false/\∃J,KV Z J/\h.DictOf (VD P w) a J:=
 show VS P w H h a (.dK Z)from QY G e
def Eg(G:HOk P w H h)(e:H a=some (.dK Z)):Z.length<=sizeLine/\(a==sysModules)=false/\∃J,KV Z J/\h.DictOf (VD P w) a J:=W4 G<|.inl e
def Wp(G:HOk P w H h)(e:H a=some (.tup<|J.map kV)):(tupleKind<|VD P w).is h J a:=by
 obtain⟨_,Z,r,o,N,_,M,n,L⟩:=(show VS P w H h a (.tup<|J.map kV)from G a _ e);exact⟨o,Z.toArray,n,N,M,L,by simpa using RH r⟩
def Tn(M:HOk P w H h)(e:Rd H a (.dT Z)):Z.length<=sizeLine/\(a==sysModules)=false/\
  ∃G,KT H Z G/\h.DictOfH (tupleKind<|VD P w) a G:=by
 obtain⟨z,y,G,r,o,E,F,D,B,T,R,O⟩:=(show VS P w H h a (.dT Z)from QY M e);refine⟨z,y,G,r,o,E,F,D,B,T,R,λx J=>?_,O⟩
 have L:∀{l:List (List Key×V)}{m:List (List Key×Addr×Value)},KT H l m->∀x∈m,(tupleKind<|VD P w).is h x.1 x.2.1:=by
  intro l m q
  induction q with
  |nil=>intro x J;exact nomatch J
  | @cons p q I A N t ih=>
   intro x J;rcases Zd.mp J with e|J
   .subst e
    exact Wp M (by rw[<-N.1];exact N.2.1)
   .exact ih x J
 exact L r x J
def zg(G:HOk P w H h)(e:H a=some (.dT Z)):Z.length<=sizeLine/\(a==sysModules)=false/\
  ∃J,KT H Z J/\h.DictOfH (tupleKind<|VD P w) a J:=Tn G<|.inl e
end
def JG(H:Hp)(a:Addr)(y:V)(r:pf):Prop:=
 (∃Z k,Rd H a (.dK Z)/\y=kV k/\r=VH Z k) \/ ∃Z k b,Rd H a (.dT Z)/\y=.ref b/\H b=some (.tup<|k.map kV)/\r=VH Z k
def Uq(H:Hp)(a:Addr)(y v:V)(H':Hp):Prop:=
 (∃Z k,H a=some (.dK Z)/\y=kV k/\Z.length<sizeLine/\H'=upd H a (.dK<|putK Z k v)) \/
 ∃Z k b,H a=some (.dT Z)/\y=.ref b/\H b=some (.tup<|k.map kV)/\Z.length<sizeLine/\H'=upd H a (.dT<|putK Z k v)
def JG.k{k:Key}(e:H a=some (.dK Z)):JG H a (kV k) (VH Z k):=.inl ⟨Z,k,.inl e,rfl,rfl⟩
def JG.t{k:List Key}(e:H a=some (.dT Z))(J:H b=some (.tup<|k.map kV)):JG H a (.ref b) (VH Z k):=.inr ⟨Z,k,b,.inl e,rfl,J,rfl⟩
def Uq.k{k:Key}(e:H a=some (.dK Z))(J:Z.length<sizeLine):Uq H a (kV k) v (upd H a<|.dK<|putK Z k v):=.inl ⟨Z,k,e,rfl,J,rfl⟩
section
def Inv.big(I:Inv X Z U H s):sysModules<s.heap.objs.size:=by
 have h:mainGlobals<s.heap.objs.size:=(I.mod.glob.keeps I.bk).lt;exact kq (by decide) h
def Fb(C:A.units+1<cLine)(I:Inv X L U H s)(g:JG H a y (some v))(D:RelV y u)(h:∀G B,Inv X L U H B->RelV v G->Q G B):
  wpAny (model X.prog X.w) A (getItem (.ref a) u) Q E s:=by
 rcases g with⟨M,k,e,R,l⟩|⟨M,k,b,e,R,j,l⟩
 .subst R
  obtain⟨z,hd,S,J,T⟩:=W4 I.hok e;obtain⟨G,N,Z⟩:=UX.some_of (v:=v) (o:=valueAt S k) (by rw[l];exact J.val k);exact wpAny_getItem_of (XX D) T.mapOf N<|h G _ (I.tok _) Z
 .subst R
  cases(show u=Value.ref b from D);obtain⟨z,hd,F,J,T⟩:=Tn I.hok e;obtain⟨G,N,Z⟩:=UX.some_of (v:=v) (o:=(atKey F k).map (·.2)) (by rw[l];exact J.val k);obtain⟨p,P,O⟩:=Zj.mp N;refine wpAny_getItem_heap (jX C) (Wp I.hok j) T P ?_;rw[O];exact h G _ (I.tok _) Z
def vO(R:A.units+1<cLine)(I:Inv X J U H s)(g:JG H a y o)(O:RelV y u)(h:∀N,Inv X J U H N->Q (.bool o.isSome) N):
  wpAny (model X.prog X.w) A (compareOp .In u<|.ref a) Q E s:=by
 rcases g with⟨G,k,e,L,l⟩|⟨G,k,b,e,L,T,l⟩
 .subst L
  obtain⟨z,hd,D,Z,M⟩:=W4 I.hok e;refine wpAny_in_of (XX O) hd M.mapOf ?_;rw[<-(Z.val k).isSome_eq,<-l];exact h _<|I.tok _
 .subst L
  cases(show u=Value.ref b from O);obtain⟨z,hd,B,Z,M⟩:=Tn I.hok e;refine wpAny_in_heap (jX R) (Wp I.hok T) hd M ?_;have q:=(Z.val k).isSome_eq;rw[jR]at q;rw[<-q,<-l];exact h _<|I.tok _
def QB(R:A.units+1<cLine)(I:Inv X J U H s)(g:JG H a y o)(O:RelV y u)(h:∀N,Inv X J U H N->Q (.bool<|!o.isSome) N):
  wpAny (model X.prog X.w) A (compareOp .NotIn u<|.ref a) Q E s:=by
 rcases g with⟨G,k,e,L,l⟩|⟨G,k,b,e,L,T,l⟩
 .subst L
  obtain⟨z,hd,D,Z,M⟩:=W4 I.hok e;refine wpAny_notIn_of (XX O) hd M.mapOf ?_;rw[<-(Z.val k).isSome_eq,<-l];exact h _<|I.tok _
 .subst L
  cases(show u=Value.ref b from O);obtain⟨z,hd,B,Z,M⟩:=Tn I.hok e;refine wpAny_notIn_heap (jX R) (Wp I.hok T) hd M ?_;have q:=(Z.val k).isSome_eq;rw[jR]at q;rw[<-q,<-l];exact h _<|I.tok _
def Ga(I:Inv X Z U H s)(G:Mut (H a))(L:Heap.SameBut a s.heap J)(M:∃q,J.get? a=some q)(new:VS X.prog X.w (upd H a ob) J a ob):
  Inv X Z U (upd H a ob) {s with heap:=J,toks:=O}:=
 I.write (x:=a) (e:=a) G (.inl rfl) (λb q N z=>(L.2 b N).trans z) M new
def Wr(z:Z.length<=sizeLine)(hd:(a==sysModules)=false)(J:KV Z G)(M:L.DictOf (VD P w) a G):
  VS P w N L a (.dK Z):=⟨z,hd,G,J,M⟩
def Fa(d:A.units+1<cLine)(I:Inv X L U H s)(g:Uq H a y v H')(S:RelV y u)(C:RelV v r)(h:∀F,Inv X L U H' F->Q () F):
  wpAny (model X.prog X.w) A (setItem (.ref a) u r) Q E s:=by
 rcases g with⟨J,k,e,T,l,B⟩|⟨J,k,b,e,T,t,l,B⟩
 .subst T B
  obtain⟨z,hd,p,Z,D⟩:=Eg I.hok e;have N:p.length<=sizeLine:=by rw[<-Z.length];exact z
  have R:(putK J k v).length<=sizeLine:=by have:=Vj J k v;lia
  refine wpAny_setItem_pairs (hsz:=N) (XX S) D λP G O=>h _ ?_;have f:∃q,P.get? a=some q:=let⟨q,_,_,M,_⟩:=G;⟨q,M⟩
  exact Ga I (by rw[e];exact True.intro) O f<|Wr R hd (Z.put k C) G
 .subst T B
  cases(show u=Value.ref b from S);obtain⟨z,hd,m,Z,D⟩:=zg I.hok e;have N:m.length<=sizeLine:=by rw[<-Paired.length Z];exact z
  have R:(putK J k v).length<=sizeLine:=by have:=Vj J k v;lia
  refine wpAny_setItem_heap (hsz:=N) (jX d) (Wp I.hok t) D λP G O=>h _ ?_;obtain⟨q,x,ep,M,n,i,o,_,w⟩:=G;refine Ga I (by rw[e];exact True.intro) O ⟨q,M⟩ ⟨R,hd,_,(Z.put k t C).keeps λc ys j=>?_,q,x,ep,M,n,i,o,w⟩;rw[Yg (Jh j e λz=>nomatch z)];exact j
end
def QJ(i:Expr):Prop:=∀Z J,subscripted i false Z J=operate [Z,J] (getItem Z J)
def Rn{T B:String}(F:typeLookup (.type T) "__getitem__"=pure (some<|.builtin B))(D:QJ slice)(h:wpAny (model prog w) A (eval value env) (λo L=>wpAny (model prog w) A (eval slice env) (λi Z=>Z.TypeIs o T/\wpAny (model prog w) A (getItem o i) Q E Z) E L) E s):
  wpAny (model prog w) A (eval (.Subscript value slice pos) env) Q E s:=by
 refine Subscript_<|Zn h (λo L O=>Zn O (λi Z J=>?_) λ_ _ x=>x) λ_ _ x=>x;obtain⟨R,J⟩:=J;unfold subscriptTail;refine Zl ?_;rw[getitemInPython_of_ne R.not_modules];refine Zl<|jV R F ?_
 have M:wpAny (model prog w) A (subscripted slice false o i) (λr G=>wpAny (model prog w) A (letTemporaryGo value o r >>=λ_=>pure r) Q E G) E Z:=by
  rw[D o i];exact wpAny_operating (Zn J (λr G N=>Zl<|wpAny_letTemporaryGo<|Zm N) λ_ _ x=>x)
 first
  |exact Zm<|Zl M
  |exact Zl<|Zm<|Zl M
  |exact Zl M
def Ni(I:Inv X J U H s)(g:JG H a y o):s.TypeIs (.ref a) "dict":=by
 rcases g with⟨Z,k,e,_,_⟩|⟨Z,k,b,e,_,_,_⟩
 .obtain ⟨_,_,vs,_,dd⟩:=W4 I.hok e
  exact dd.typeIs
 .obtain ⟨_,_,xs,_,dd⟩:=Tn I.hok e
  exact dd.typeIs
def CQ(td ty:TE):TE:=λU H Q=>td U H λx J=>ty U J λy Z=>JI x λa=>∃v,JG Z a y (some v)/\Q v Z
def yO(ty td:TE):TE:=λU H Q=>ty U H λy J=>td U J λx Z=>JI x λa=>∃o,JG Z a y o/\Q (.bl o.isSome) Z
def OT(ty td:TE):TE:=λU H Q=>ty U H λy J=>td U J λx Z=>JI x λa=>∃o,JG Z a y o/\Q (.bl<|!o.isSome) Z
def Cd(td ty tv:TE):TS:=λD U H=>tv U H λv L=>td U L λx G=>ty U G λy J=>JI x λa=>∃Z,Uq J a y v Z/\D.nx U Z
section
def JX(T:X.A.units+1<cLine)(D:PE X o td)(E:PE X i ty)(B:QJ i):PE X (.Subscript o i pos) (CQ td ty):=by
 intro Z s U H Q I h;refine Rn PySem.F.slot_dict_getitem.lookup B<|thn (D Z s U H _ I h) λu M ⟨x,P,S,O,R⟩=>thn (E Z M U P _ S R) λt q ⟨y,C,L,N,J⟩=>?_;replace J:=JI.old J;obtain⟨a,F,v,g,J⟩:=J;subst F;obtain rfl:u=Value.ref a:=O;exact⟨Ni L g,Fb T L g N λj z A G=>⟨v,C,A,G,J⟩⟩
def Xh(R:X.A.units+1<cLine)(B:PE X i ty)(T:PE X o td):PC X .In i o (yO ty td):=by
 intro Z s U H Q I h;refine thn (B Z s U H _ I h) λz G ⟨y,C,A,L,N⟩=>thn (T Z G U C _ A N) λu j ⟨x,S,F,M,J⟩=>?_;replace J:=JI.old J;obtain⟨a,D,O,g,J⟩:=J;subst D;obtain rfl:u=Value.ref a:=M;exact vO R F g L λP E=>⟨.bl O.isSome,S,E,Y,J⟩
def FB(R:X.A.units+1<cLine)(B:PE X i ty)(T:PE X o td):PC X .NotIn i o (OT ty td):=by
 intro Z s U H Q I h;refine thn (B Z s U H _ I h) λz G ⟨y,C,A,L,N⟩=>thn (T Z G U C _ A N) λu j ⟨x,S,F,M,J⟩=>?_;replace J:=JI.old J;obtain⟨a,D,O,g,J⟩:=J;subst D;obtain rfl:u=Value.ref a:=M;exact QB R F g L λP E=>⟨.bl<|!O.isSome,S,E,rfl,J⟩
def V5(E:X.A.units+1<cLine)(A:PE X o td)(S:PE X i ty)(B:PE X value tv)(F:swapsWith value (some<|.Subscript o i pos') pos.line X.env=pure false):
  PS X (.Assign [.Subscript o i pos'] value pos) (Cd td ty tv):=by
 intro Z s U H D I h;refine wpAny_Assign_Subscript (thn (B Z s U H _ I h) λr L ⟨v,m,z,O,T⟩=>thn (A Z L U m _ z T) λu G ⟨x,t,j,N,R⟩=>thn (S Z G U t _ j R) λc p ⟨y,d,Q,M,J⟩=>?_) F;replace J:=JI.old J;obtain⟨a,C,q,g,J⟩:=J;subst C;obtain rfl:u=Value.ref a:=N;exact Fa E Q g M O λk P=>⟨U,q,P,J⟩
end
def Nh(h:Heap)(Z:sysModules<h.objs.size):VS P w H (h.push {cls:=.type "dict",data:=.dict #[]}) h.objs.size (.dK []):=
 ⟨Zc _,beq_eq_false_iff_ne.mpr<|Zs<|Ze Z,[],.nil,Heap.DictOf.new h⟩
def Lp(h:Heap)(Z:sysModules<h.objs.size):VS P w H (h.push {cls:=.type "dict",data:=.dict #[]}) h.objs.size (.dT []):=
 ⟨Zc _,beq_eq_false_iff_ne.mpr<|Zs<|Ze Z,[],.nil,_,#[],0,ZY _ rfl,⟨rfl,rfl,rfl⟩,rfl,rfl,qb⟩
def SD:TE:=λ_ H Q=>∀p,H p=none->Q (.ref p) (upd H p<|.dK [])
def SB:TE:=λ_ H Q=>∀p,H p=none->Q (.ref p) (upd H p<|.dT [])
section
def JB:PE X (.Dict [] [] pos) SD:=λZ s U H Q I h=>
 wpAny_Dict_empty ⟨.ref s.heap.objs.size,_,I.laid (a:=s.heap.objs.size) (o:=.dK []) (t':=s.toks) (λ_ _ q=>ZE _ q) (ZG _)<|Nh s.heap I.big,rfl,h _<|I.hok.fresh<|ZG _⟩
def KN:PE X (.Dict [] [] pos) SB:=λZ s U H Q I h=>
 wpAny_Dict_empty ⟨.ref s.heap.objs.size,_,I.laid (a:=s.heap.objs.size) (o:=.dT []) (t':=s.toks) (λ_ _ q=>ZE _ q) (ZG _)<|Lp s.heap I.big,rfl,h _<|I.hok.fresh<|ZG _⟩
end
def N7:List (TE×TE)->St->Hp->(List (V×V)->Hp->Prop)->Prop
 |[],_,H,Q=>Q [] H
 |(tk,tv)::r,U,H,Q=>tk U H λx H1=>tv U H1 λy H2=>N7 r U H2 λps H3=>Q ((x,y)::ps) H3
abbrev VV:List (V×V)->List (Value×Value)->Prop:=Paired λp q=>RelV p.1 q.1/\RelV p.2 q.2
def PPs(X:Cx)(pos:Pos)(keys:List (Option Expr))(values:pB)(trs:List (TE×TE)):Prop:=
 ∀(Z:kM)(s:Shared)(U:St)(H:Hp)(Q:List (V×V)->Hp->Prop),Inv X Z U H s->N7 trs U H Q->
  wpAny (model X.prog X.w) X.A (evalPairs<|pairTrees keys values X.env pos) (λL M=>∃J G,Inv X Z U G M/\VV J L/\Q J G) X.xe s
def O4:PPs X pos [] [] []:=λZ s U H Q I h=>pairTrees_nil_walk ⟨[],H,I,.nil,h⟩
def KL(S:PE X k tk)(F:PE X v tv)(A:PPs X pos E G trs):
  PPs X pos (some k::E) (v::G) ((tk,tv)::trs):=λZ s U H Q I h=>
 pairTrees_cons_walk (thn (S Z s U H _ I h) λu M ⟨x,t,j,O,B⟩=>thn (F Z M U t _ j B) λg L ⟨y,q,P,N,T⟩=>
  thn (A Z L U q _ P T) λm p ⟨D,z,C,J,R⟩=>⟨(x,y)::D,z,C,.cons ⟨O,N⟩ J,R⟩)
def TN(kvs more:kY):kY:=more.foldl (λZ J=>putK Z J.1 J.2) kvs
def KV.merge:∀{more:kY}{G:List (Key×Value)}{Z:kY}{J:List (Key×Value)},KV more G->KV Z J->KV (TN Z more) (merged J G):=by
 intro more G Z J r;unfold KV at r
 induction r generalizing Z J with
 |nil=>intro q;exact q
 | @cons p q N M h t ih=>
  intro L
  have e:KV (putK Z p.1 p.2) (stored J q.1 q.2):=by
   have:=L.put p.1 h.2;rw[<-h.1];exact this
  exact ih e
theorem XU:∀(more Z:kY),(TN Z more).length<=Z.length+more.length
 |[],Z=>by show Z.length<=Z.length+0;lia
 |p::r,Z=>by
  have G:=XU r<|putK Z p.1 p.2;have J:=Vj Z p.1 p.2;show(TN (putK Z p.1 p.2) r).length<=_;rw[Zf];lia
theorem Tp:∀{Z:kY}{G:List (Value×Value)},VV (Z.map λL=>(kV L.1,L.2)) G->∃J,Carries (VD P w) G J/\KV Z J
 |[],_,r=>by rw[jQ]at r;cases r;exact⟨[],True.intro,.nil⟩
 |p::Z,_,r=>by
  rw[ZV]at r
  cases r with
  | @cons a b R N h t=>
   obtain⟨J,c,q⟩:=Tp (P:=P) (w:=w) t;obtain⟨O,M⟩:=b;exact⟨(p.1,M)::J,⟨XX h.1,Y,c⟩,.cons ⟨Y,h.2⟩ q⟩
def CP(trs:List (TE×TE)):TE:=λU H Q=>∀p,H p=none->N7 trs U (upd H p<|.dK []) λL G=>G p=some (.dK [])/\∃Z:kY,L=Z.map (λJ=>(kV J.1,J.2))/\Z.length<=15/\Q (.ref p) (upd G p<|.dK<|TN [] Z)
def PB(h:PPs X pos keys values trs)(G:keys.all (·.isSome)=true)(j:keys.length=values.length)(m:keys≠[])(N:keys.length<=15):PE X (.Dict keys values pos) (CP trs):=by
 intro Z s U H Q I q;have C:=I.hok.fresh<|ZG s.heap.objs.size;have p:=I.laid (a:=s.heap.objs.size) (o:=.dK []) (h':=s.heap.push {cls:=.type "dict",data:=.dict #[]}) (t':=s.toks) (λ_ _ q=>ZE _ q) (ZG _)<|Nh s.heap I.big;refine wpAny_Dict_walk (knd:=VD X.prog X.w) G j m N<|thn (h Z _ U _ _ p<|q _ C) λd f ⟨u,r,O,M,e,J,g,v,E⟩=>?_;subst g;obtain⟨T,c,B⟩:=Tp (P:=X.prog) (w:=X.w) M;obtain⟨z,hd,R,D,k⟩:=Eg O.hok e;cases D;refine⟨T,c,k,λh' L A=>⟨.ref s.heap.objs.size,_,?_,Y,E⟩⟩
 have F:(TN [] J).length<=sizeLine:=by
  have t:=XU J [];rw[qy]at t;rw[sizeLine_eq];lia
 have y:∃q,h'.get? s.heap.objs.size=some q:=let⟨q,_,_,S,_⟩:=L;⟨q,S⟩
 exact Ga O (by rw[e];exact True.intro) A y<|Wr F hd (B.merge .nil) L
structure M1(X:Cx)(o:Expr)(m:Str)(apos:Pos)(e:Expr)(cpos:Pos):Prop where
 base:attributeBase o m X.env (eval o X.env)=eval o X.env
 few:((backTo cpos (starEach [e] X.env)).all (λx=>!x.1) && (backToKw cpos (keywordEach [] X.env)).all (λx=>x.1.isSome)
  && decide (([e]:List Expr).length+([]:List Keyword).length+(if([]:List Keyword).isEmpty then 0 else 1)<30))=true
 line:(apos.endLine==cpos.line)=true
 trees:backTo cpos (starEach [e] X.env)=[(false,eval e X.env)]
def IsD(H:Hp)(a:Addr):Prop:=(∃Z,Rd H a<|.dK Z) \/ ∃Z,Rd H a<|.dT Z
def Af(I:Inv X M U H s)(d:IsD H a):
  s.TypeIs (.ref a) "dict" /\(∀b,Value.ref a=.ref b->∃Z,s.heap.get? b=some Z/\Z.dict=none)/\(a==sysModules)=false:=by
 rcases d with⟨J,e⟩|⟨J,e⟩
 .obtain ⟨_,hd,vs,_,dd⟩:=W4 I.hok e
  refine⟨dd.typeIs,λb q=>?_,hd⟩;cases q;obtain⟨Z,_,_,L,G,_⟩:=dd;exact⟨Z,L,G.2.1⟩
 .obtain ⟨_,hd,xs,_,dd⟩:=Tn I.hok e
  refine⟨dd.typeIs,λb q=>?_,hd⟩;cases q;obtain⟨Z,_,_,L,G,_⟩:=dd;exact⟨Z,L,G.2.1⟩
section
def Au(B:A.units+1<cLine)(I:Inv X J U H s)(g:JG H a y o)(R:RelV y u)(h:∀N O,Inv X J U H O->RelV (o.getD .non) N->Q N O):
  wpAny (model X.prog X.w) A (call (.builtin "dict.get") [.ref a,u]) Q E s:=by
 rcases g with⟨L,k,e,M,l⟩|⟨L,k,b,e,M,D,l⟩
 .subst M
  obtain⟨z,hd,F,Z,G⟩:=W4 I.hok e;refine call_meetsIn qA G.typeIs PySem.F.entry_dict_get (PySem.F.args_dict_get_2 _ _) (meets_dict_get (VD X.prog X.w) a (XX R) hd) ⟨_,G.mapOf,h _ _ (I.tok _) ?_⟩;rw[l];exact(Z.val k).getD rfl
 .subst M
  cases(show u=Value.ref b from R);obtain⟨z,hd,T,Z,G⟩:=Tn I.hok e;refine call_meetsIn qA G.typeIs PySem.F.entry_dict_get (PySem.F.args_dict_get_2 _ _) (meetsH_dict_get (tupleKind<|VD X.prog X.w) a b hd) ⟨jX B,k,T,Wp I.hok D,G,h _ _ (I.tok _) ?_⟩;rw[l];exact(Z.val k).getD rfl
end
def SG(td ty:TE):TE:=λU H Q=>td U H λx J=>JI x λa=>IsD J a/\ty U J λy Z=>∃o,JG Z a y o/\Q (o.getD .non) Z
section
def TF(D:X.A.units+1<cLine)(E:PE X o td)(F:PE X e ty)(m:M1 X o "get" apos e cpos):PE X (.Call (.Attribute o "get" apos) [e] [] cpos) (SG td ty):=by
 intro Z s U H Q I h;refine wpAny_Call_method m.base m.few m.line PySem.F.plainAttrs_dict qA PySem.F.type_dict_get<|thn (E Z s U H _ I h) λu O ⟨x,j,L,T,J⟩=>?_;replace J:=JI.old J;obtain⟨a,A,d,J⟩:=J;subst A;obtain rfl:u=Value.ref a:=T;obtain⟨N,M,_⟩:=Af L d;exists N,M;rw[m.trees];refine Calls.callWith_builtin Y (Calls.evalArgs_plain<|Calls.spliced_cons<|thn (F Z O U j _ L J) λp t ⟨y,P,C,R,k,g,B⟩=>Calls.spliced_nil ?_);exact Au D C g R λz q S G=>⟨_,P,S,G,B⟩
end
end L2
namespace Att
open PySem PySem.W PySem.Calls PyProof.Rows
def W6:∀(Z:List Int)(J:List Value),WellAll P h J (Z.map WData.int)->IntsAre J Z:=by
 intro Z
 induction Z with
 |nil=>
  intro J w;rw[jQ]at w;cases w;exact .nil
 |cons n Z ih=>
  intro J w;rw[ZV]at w
  cases w with
  |cons a b=>
   cases a;exact .cons _ _<|ih _ b
def E2{l:OpenLaw}(I:l.most=some n)(J:l.row.toRowW.claim.pre args=true)(O:WellAll P h vals args):
  ∃a T Z,vals=[Value.ref a]/\args=[WData.list (Z.map WData.int)]/\h.get? a=some {cls:=.type "list",data:=.seq T.toArray}/\IntsAre T Z/\Z.length<=n:=by
 have R:WShape.hasAll [] args [.list .int]=true:=(pre_splitW J).1;have B:l.pre.holds [] {args:=args}=true:=(pre_splitW J).2;obtain⟨d,r,rfl,C,U⟩:=hasAllW_cons R;obtain rfl:=hasAllW_nil U;obtain⟨X,rfl,S⟩:=hasW_list C;obtain⟨Z,rfl⟩:=items_int S
 have G:Z.length<=n:=by
  unfold OpenLaw.pre at B
  have N:(WTm.not<|.lt (.lit<|.int (n:Int))<|.len<|.arg 0).holds [] {args:=[.list (Z.map .int)]}=true:=by
   have N:=(holds_andW B).1;rw[I]at N;exact N
  have M:=condW_of N<|w_not<|w_lt w_lit<|w_len_list<|w_arg rfl;rw[ZA]at M;refine jG λq=>?_;have F:(n:Int)<((Z.length:Nat):Int):=by lia
  first
   |(rw[decide_eq_true F]at M;exact Zr M<|by decide)
   |(simp at M;lia)
 cases O with
 |cons E D=>
  cases D
  cases E with
  |list A L=>exact⟨_,_,Z,Y,Y,A,W6 Z _ L,G⟩
def E9(l:OpenLaw)(args:List WData):l.row.toRowW.claim.post args (.bool true) args=true:=
 postW_of (r:=l.row.toRowW) (X:=(true==true))
  (show WShape.has [] (.bool true) .bool=true by first|rfl|decide|simp[WShape.has,WShape.arms,WShape.armsAll])
  (show(WTm.eq .res<|.lit<|.bool true).value [] {args:=args,res:=some<|.bool true,after:=args}=some (.bool<|true==true)from w_eq_bool (w_res rfl) w_lit) rfl
theorem attach_call{l:OpenLaw}(g:l.most=some n)(X:d.params.defaults=[])(call:∀(w:World)(J Z:Shared)(F S:Str->Option Value)(B:Addr)(o:Obj)(I A M:Value)(a:Addr)(N:List Value)(E:List Int),
   Ground q loose [] XP w J F S Z.heap->YP w Z.heap->
   Z.heap.get? B=some o->o.data=.func (docDef d.name d.params d.body d.scope I A M)->Z.heap.CodeRec A d.name->F d.name=some (.ref B)->
   Z.heap.get? a=some {cls:=.type "list",data:=.seq N.toArray}->IntsAre N E->E.length<=n->Z.gens= #[]->
   codeAny (model l.prog w) callerA (.call (.ref B) ⟨[.ref a],[]⟩) (λr D=>r=.ok (.ret<|.bool true)/\OldK Z.heap D.heap/\D.os=Z.os/\AllBare D.gens) Z):
  WalkO q loose XP YP l.row.toRowW d [] (λf N=>PySem.call f N):=by
 intro w J Z F S G Y B o I A M e kV m hd P y C c args Q i O j z U p;obtain rfl:e=.none:=Dflts.none y X;obtain rfl:kV=.none:=Dflts.noKw y;obtain⟨a,N,E,rfl,rfl,R,L,T⟩:=E2 g O U;refine enter_call<|qL (call w J Z F S B o I A M a N E G Y m (fd_plain hd) P C R L T c) λr D t=>?_;obtain⟨rfl,b,v,u⟩:=t;exact⟨.inl ⟨.bool true,.bool true,[],rfl,λ_=>rfl,.bool true,E9 l _,λ_=>⟨List.Pairwise.nil,λ_ k=>(nomatch k)⟩⟩,b,v,u⟩
end Att
namespace L2
open PySem PySem.Spec PyProof.Rows
theorem Tv:∀{Z:kP}{J:kT},IntsAre Z J->Vals (J.map V.int) Z
 |_,_,.nil=>.nil
 |_,_,.cons n t h=>.cons ⟨t,rfl⟩<|Tv h
def A0(H:Hp):Prop:=∀b,H b=none \/ ∃o Z,H b=some (.frz o<|.lst Z)
def LE{K:W.Frag}(KX:K.In s₁.heap)(D:s₁.heap.Ns mainGlobals C)(J:s₁.heap.Ns builtinsNs mb)(y:∀x:Str,x≠"__name__" ->mb x=bootBuiltins x)(E:s₁.heap.NoLimit)(hg:s₁.gens= #[])(X:s₁.heap.get? a=some {cls:=.type "list",data:=.seq N.toArray})(l:IntsAre N U)(f:U.length<=sizeLine)(hr:Vu k callerA)(F:∀base:Heap,K.In base->base.Ns mainGlobals C->Ye P w K C base CX k fa fd [x] sp)(M:∀(s:Shared)(u:Value),BindsTo s fd ⟨[u],[]⟩ [(x,u)])(j:∀H:Hp,A0 H->SqL K H a (U.map V.int)->sp [.ref a] H (λv _=>v=.bl true) λ_ _ _=>False)(t:∀H e G,CX [] H s₁ (λ_ _ _=>False) e G->False):
  codeAny (model P w) callerA (.call (.ref fa) ⟨[.ref a],[]⟩) (λr G=>r=.ok (.ret<|.bool true)/\OldK s₁.heap G.heap/\G.os=s₁.os/\AllBare G.gens) s₁:=by
 have c:=Tv l;have R:=l.length;have core:∀H:Hp,A0 H->SqL K H a (U.map V.int)->HOk P w H s₁.heap->(∀b,H b≠none->b=a)->(H a≠none->K.lookup a=none)->
   codeAny (model P w) callerA (.call (.ref fa) ⟨[.ref a],[]⟩) (λr G=>r=.ok (.ret<|.bool true)/\OldK s₁.heap G.heap/\G.os=s₁.os/\AllBare G.gens) s₁:=by
  intro H i hS B hA hK;have Z:∀{b:Addr}{o:Obj},s₁.heap.get? b=some o->H b=none->(Mf s₁.heap H).get? b=some o:=λe n=>LM e n
  have Q:∀{b:Addr}{o:Obj}{I:Array DictEntry}{S:Nat},s₁.heap.get? b=some o->o.data=.dict I S->H b=none:=λ{b o I S} e d=>by
   cases q:H b with
   |none=>rfl
   |some u=>
    have g:b=a:=hA b (by rw[q];simp);subst g;rw[X]at e;cases e;have d':Data.seq N.toArray _=Data.dict I S:=d;cases d'
  have L:∀{b:Addr}{m:Str->Option Value},s₁.heap.Ns b m->(Mf s₁.heap H).Ns b m:=λ{b m} ⟨o,I,S,e,d,r⟩=>⟨o,I,S,Z e<|Q e d,d,r⟩
  have A:K.In (Mf s₁.heap H):=λb o e=>Z (KX b o e) (by
   cases q:H b with
   |none=>rfl
   |some u=>
    have g:b=a:=hA b (by rw[q];simp);subst g;rw[hK (by rw[q];simp)]at e;cases e)
  have hM:Mod K C (Mf s₁.heap H):=⟨A,L D,⟨mb,L J,y⟩,let⟨mc,h1,h2⟩:=E;⟨mc,L h1,h2⟩⟩;have e0:Dt P w K C (Mf s₁.heap H) callerA [] s₁ H:=⟨rfl,hM,λb o e=>Pe e,jF<|FR _ _,trivial,λb J=>Zr (show b∈([]:kU)from J) (by simp),B,.of_eq hg⟩;refine qL ((F _ A<|L D).run callerA [] s₁ H ⟨[.ref a],[]⟩ [.ref a] [.ref a] _ _ hr e0 (M s₁<|.ref a) (.cons rfl .nil)<|j H i hS) λr G h=>?_
  cases r with
  |error e=>exact(t H e G h).elim
  |ok fl=>
   cases fl with
   |next=>exact False.elim h
   |brk=>exact False.elim h
   |cont=>exact False.elim h
   |ret u=>
    obtain⟨v,H',os,bare,p,T,r',q⟩:=h;have q':v=.bl true:=q;subst q';obtain rfl:u=Value.bool true:=r';refine⟨Y,OldK.of_keep λb o e=>?_,os,bare⟩
    cases q:H b with
    |none=>exact p.keep b o e q (by intro z;exact Zr (show b∈([]:kU)from z)<|by simp)<|by simp
    |some u=>
     rcases i b with z|⟨ob,xs,z⟩
     .rw [q]at z;cases z
     .have z2:=p.frzs b ob _ z
      obtain⟨e1,_⟩:=B b _ z;obtain⟨e2,_⟩:=T b _ z2;rw[e]at e1;cases e1;exact e2
 cases hk:K.lookup a with
 |some o=>
  have e:=KX a o hk;rw[X]at e;cases e;refine core (λ_=>none) (λ_=>.inl Y) (.inr ⟨_,N.toArray,_,hk,Y,Y,Y,by rw[ZO,R];exact f,by simpa using c⟩) (λb u z=>by have O:(none:Option HO)=some u:=z;cases O) (λb z=>Zr Y z) λz=>Zr Y z
 |none=>
  refine core (λb=>if b=a then some (.frz {cls:=.type "list",data:=.seq N.toArray}<|.lst<|U.map V.int)else none) (λb=>?_) (.inl<|.inr ⟨{cls:=.type "list",data:=.seq N.toArray},Zp rfl⟩) (λb u z=>?_) (λb z=>?_) λ_=>hk
  .by_cases J:b=a
   .exact .inr ⟨_,_,Zp J⟩
   .exact .inl (Zq J)
  .by_cases J:b=a
   .have O:=(Zp J).symm.trans z
    cases O;subst J;exact⟨X,by rw[ZA];exact f,N,_,c,X⟩
   .have O:=(Zq J).symm.trans z
    cases O
  .by_cases J:b=a
   .exact J
   .exact Zr (Zq J) z
theorem walk_of{l:W.OpenLaw}{K:Params->W.Frag}{CX:World->CXT}{sp:World->Sp}(Q:l.most=some n)(D:n<=sizeLine)(A:d.params.defaults=[])(P:Vu k callerA)(t:∀(w:World)(h:Heap),YP w h->(K w.params).In h)(F:∀(w:World)(L:Str->Option Value)(R:Addr)(h:Heap),(K w.params).In h->h.Ns mainGlobals L->L d.name=some (.ref R)->
   ∃S:FuncData,(∀(s:Shared)(u:Value),BindsTo s S ⟨[u],[]⟩ [(x,u)])/\
    ∀base:Heap,(K w.params).In base->base.Ns mainGlobals L->Ye l.prog w (K w.params) L base (CX w) k R S [x] (sp w))(B:∀(w:World)(H:Hp)(a:Addr)(O:kT),O.length<=n->A0 H->SqL (K w.params) H a (O.map V.int)->sp w [.ref a] H (λv _=>v=.bl true) λ_ _ _=>False)(I:∀(w:World)(H:Hp)(s:Shared)(e:Value)(T:Shared),CX w [] H s (λ_ _ _=>False) e T->False):
  W.WalkO q loose XP YP l.row.toRowW d [] (λf U=>PySem.call f U):=by
 refine Att.attach_call Q A λw C M L b R o r cd c a U O G Y i hd y E N J Z j=>?_;have X:=t w _ Y;obtain⟨S,z,p⟩:=F w L R _ X G.T.g E;exact LE X G.T.g G.T.b G.T.builtins G.T.nolimit j N J (Zb Z D) P p z (λH g m=>B w H a O Z g m) λH e T=>I w H M e T
def inClass(s:Stmt)(j:Nat):Stmt:=match s with
 |.ClassDef _ _ _ body _ _ _ _ _ _ _=>body.getD j<|.Pass ⟨0,0,0,0⟩
 |_=>.Pass ⟨0,0,0,0⟩
def JO(s:Stmt):Arguments:=match s with
 |.FunctionDef _ a _ _ _ _ _ _ _ _=>a
 |_=>{posonlyargs:=[],args:=[],vararg:=none,kwonlyargs:=[],kw_defaults:=[],kwarg:=none,defaults:=[]}
def Vw(s:Stmt):List Stmt:=match s with
 |.FunctionDef _ _ b _ _ _ _ _ _ _=>b
 |_=>[]
def Yd(s:Stmt):Scope:=match s with
 |.FunctionDef _ _ _ _ _ _ sc _ _ _=>sc
 |_=>{kind:=.function,names:=[],isGenerator:=false,isCoroutine:=false}
abbrev CX0:CXT:=λ_ _ _ _ _ _=>False
abbrev E0:XK:=λ_ _ _=>False
def Y4:Up CX0 X E0:=λ_ _ _ _ _ _ _ h=>h.elim
structure Fun(K:W.Frag)(x qual:Str)(st:Stmt)(f:Addr)(fd:FuncData):Prop where
 ex:∃(oc:Value)(od:Option Addr)(kV doc pm:Value)(an:Option Addr)(cdv ct:Value)(osl:Array (Option Value)),
  fd=W.fnOf x qual (JO st) (Vw st) (Yd st) .none kV doc pm an cdv ct/\K.lookup f=some ⟨oc,od,.func fd,osl⟩/\W.codeIn K cdv qual=true
 kp:W.keepIn K (.ref f)=true
section
variable{K:W.Frag}
def Fun.ok{st:Stmt}(F:Fun K x qual st f X)(S:Yh N B (Yd st))(M:∀G H Q E,T G H Q E->G.length=B.length)(L:∀(J:Value)(A:Around)(Z:List Env)(s:Shared)(H:Hp)(G:kZ)(Q:VK)(E:XK),Vu k (A.deeper<|envOfC qual (Yd st) s.heap.objs.size f J)->T G H Q E->
   ∃t,PSs (Vf CX0 P w K I base N qual (Yd st) f J A Z s H E).nox (Vw st) t/\t {nx:=λ_ y=>Q .non y,rt:=Q} (start N G) H):Ye P w K I base CX0 (k+1) f X B T:=by
 obtain⟨g,m,kV,j,z,c,J,p,D,rfl,U,R⟩:=F.ex;refine Qs U R S M λA Z s H G Q E C O=>?_;obtain⟨t,h,q⟩:=L J A Z s H G Q E C O;exact⟨t,h.nox,q⟩
def Fun.oq{st:Stmt}(F:Fun K x qual st f B)(S:Yh N R (Yd st))(J:∀(L:Value)(A:Around)(Z:List Env)(s:Shared)(H:Hp)(G:kZ)(Q:VK)(E:XK),Vu k (A.deeper<|envOfC qual (Yd st) s.heap.objs.size f L)->O G H Q E->
   ∃t,PSs (Vf CX0 P w K T base N qual (Yd st) f L A Z s H E).nox (Vw st) t/\t {nx:=λ_ D=>Q .non D,rt:=Q} (start N G) H)(M:∀G H Q E,O G H Q E->G.length=R.length:=by intro G H Q E h;repeat (obtain⟨e,h⟩:=h;first|(subst e;exact Y)|skip)):Ye P w K T base CX0 (k+1) f B R O:=F.ok S M J
def Fun.binds{st:Stmt}(F:Fun K x qual st f B)(h:∀(kV Z L:Value)(N:kW)(J M:Value)(G:kP),G.length=O.length->bindArgs (W.fnOf x qual (JO st) (Vw st) (Yd st) .none kV Z L N J M) ⟨G,[]⟩=pure (O.zip G)):Binds K B O []:=by
 obtain⟨E,D,kV,Z,L,N,J,M,R,rfl,A,T⟩:=F.ex;exact .all<|h kV Z L N J M
def Lg{st:Stmt}{kV J G Z L:Value}(l:K.lookup f=some ⟨oc,od,.func<|W.fnOf x qual (JO st) (Vw st) (Yd st) .none kV J G an Z L,osl⟩)(c:W.codeIn K Z qual=true)(k:W.keepIn K (.ref f)=true):Fun K x qual st f (W.fnOf x qual (JO st) (Vw st) (Yd st) .none kV J G an Z L):=⟨⟨oc,od,kV,J,G,an,Z,L,osl,rfl,l,c⟩,k⟩
end
def JQ(Z:Vu k A):A.units+1<cLine:=qc (Nat.add_le_add_left (by decide:1<=64) _) Z.units
def Y1(h:n<=1000):n<sizeLine:=qc h<|by decide
section
def pv(i:Nat)(G:X.N[i]?=some x:=by rfl)(J:Vis X.env.scope x:=by first|exact Or.inl Y|exact Or.inr (Or.inl Y)|exact Or.inr<|Or.inr rfl)(hd:(x==("__debug__":Str))=false:=by decide)(Z:(x==("__classdict__":Str))=false:=by decide):PE X (.Name x pos) (IH i):=S7 G J hd Z
end
def Ae{c A B:Prop}[Decidable c](J:c->A)(Z:¬c->B):if c then A else B:=by
 by_cases h:c
 .rw [Zp h]
  exact J h
 .rw [Zq h]
  exact Z h
def Same(H H':Hp):Prop:=∀b o,H b=some o->H' b=some o
def Same.refl(H:Hp):Same H H:=λ_ _ h=>h
abbrev Z8:=@Same.refl
def Same.trans(a:Same H J)(b:Same J Z):Same H Z:=λc o h=>b c o<|a c o h
def Same.free(e:Same H Z)(h:Z l=Option.none):H l=Option.none:=by
 cases q:H l with
 |none=>rfl
 |some o=>
  rw[e l o q]at h;cases h
def Same.seq{K:W.Frag}(e:Same H J)(h:SqL K H a Z):SqL K J a Z:=by
 rcases h with(h|⟨o,h⟩)|h
 .exact .inl (.inl<|e _ _ h)
 .exact .inl (.inr ⟨o,e _ _ h⟩)
 .exact .inr h
end L2
namespace PySem.W
open PySem PyProof.Rows
end PySem.W
namespace L2
open PySem PySem.Spec PyProof.Rows
def Dl(O:List (Str×NameKind)):∀(Z:List (Str×Addr)),(∀x∈O,x.2=.free->∃c,env.cells.lookup x.1=some c)->
  ∃L,(forIn O Z (λ(x:Str×NameKind)(r:List (Str×Addr))=>(if(x.2==NameKind.free)=true then do let c <-cellOf env x.1;pure (ForInStep.yield ((x.1,c)::r))else pure (ForInStep.yield r):Sem (ForInStep<|List<|Str×Addr)))=pure L)/\
   (∀x c,L.lookup x=some c->env.cells.lookup x=some c\/Z.lookup x=some c)/\(∀x,(x,NameKind.free)∈O->∃c,L.lookup x=some c)/\(∀x c,Z.lookup x=some c->∃N,L.lookup x=some N):=by
 induction O with
 |nil=>intro Z _;exact⟨Z,Y,λx c h=>.inr h,λx h=>(nomatch h),λx c h=>⟨c,h⟩⟩
 |cons y r ih=>
  intro Z h;obtain⟨n,k⟩:=y
  by_cases hk:k=.free
  .subst hk
   obtain⟨c,D⟩:=h (n,.free) Za rfl;obtain⟨L,B,T,R,M⟩:=ih ((n,c)::Z) λx J=>h x<|ZM _ J;refine⟨L,?_,λx N J=>?_,λx J=>?_,λx N J=>?_⟩
   .rw [<-B]
    simp only[jA,beq_self_eq_true,if_true,cellOf,D]
    rfl
   .rcases T x N J with q|q
    .exact .inl q
    .rw [vv]at q
     cases G:x==n with
     |true=>
      rw[G]at q;have:x=n:=by simpa using G
      subst this;cases q;exact .inl D
     |false=>rw[G]at q;exact .inr q
   .rcases Zd.mp J with q|q
    .cases q
     exact M n c<|by simp[vv]
    .exact R x q
   .cases G:x==n with
    |true=>exact M x c<|by simp[vv,G]
    |false=>exact M x N<|by simp[vv,G,J]
  .obtain ⟨L,B,T,R,M⟩:=ih Z λx J=>h x<|ZM _ J
   have G:(k==NameKind.free)=false:=by simpa using hk
   refine⟨L,?_,T,λx J=>?_,M⟩
   .rw [<-B]
    simp only[jA,G,jy,if_false]
    rfl
   .rcases Zd.mp J with q|q
    .cases q;exact Zr Y hk
    .exact R x q
def Dk(h:∀x∈scope.names,x.2=.free->∃c,env.cells.lookup x.1=some c):
  ∃Z,closureFor scope env=pure Z/\(∀x c,Z.lookup x=some c->env.cells.lookup x=some c)/\(∀x,(x,NameKind.free)∈scope.names->∃c,Z.lookup x=some c):=by
 obtain⟨Z,M,L,G,_⟩:=Dl scope.names [] h;refine⟨Z,?_,λx c J=>(L x c J).resolve_right (by simp),G⟩;rw[<-bind_pure (pure Z:Sem (List<|Str×Addr)),<-M]
 rfl
theorem Xw{scope:Scope}{Z:Env}{x:Str}:∀{names:List (Str×NameKind)},(names.map λ(n,k)=>if(k==NameKind.free && Z.scope.kind==.function && Z.kindOf n==some .cell)then(n,NameKind.cell)else(n,k)).lookup x=some .cell \/
  (names.map λ(n,k)=>if(k==NameKind.free && Z.scope.kind==.function && Z.kindOf n==some .cell)then(n,NameKind.cell)else(n,k)).lookup x=some .free->(∀y∈names,y.2≠.cell)->(x,NameKind.free)∈names
 |[],h,_=>by simp at h
 |(n,k)::r,h,hc=>by
  have ih:= @Xw scope Z x r;rw[ZV]at h
  have G:∀M:NameKind,(∀J,((n,M)::(r.map λ(n,k)=>if(k==NameKind.free && Z.scope.kind==.function && Z.kindOf n==some .cell)then(n,NameKind.cell)else(n,k))).lookup x=some J->(x=n/\M=J)\/(r.map λ(n,k)=>if(k==NameKind.free && Z.scope.kind==.function && Z.kindOf n==some .cell)then(n,NameKind.cell)else(n,k)).lookup x=some J):=λM J q=>by
   rw[vv]at q
   cases hb:x==n with
   |true=>rw[hb]at q;exact .inl ⟨by simpa using hb,ZT q⟩
   |false=>rw[hb]at q;exact .inr q
  dsimp only at h
  split at h
  .rename_i hk
   have O:k=.free:=by
    cases k <;> simp at hk
    rfl
   subst O;rcases h with h|h
   .rcases G _ _ h with⟨e,_⟩|q
    .subst e;exact Za
    .exact ZM _ (ih (.inl q) λy L=>hc y<|ZM _ L)
   .rcases G _ _ h with⟨e,_⟩|q
    .subst e;exact Za
    .exact ZM _ (ih (.inr q) λy L=>hc y<|ZM _ L)
  .rcases h with h|h
   .rcases G _ _ h with⟨e,N⟩|q
    .exact Zr N (hc (n,k) Za)
    .exact ZM _ (ih (.inl q) λy L=>hc y<|ZM _ L)
   .rcases G _ _ h with⟨e,N⟩|q
    .subst e;subst N;exact Za
    .exact ZM _ (ih (.inr q) λy L=>hc y<|ZM _ L)
def Nk(I:Nat->Shared->Prop)(turn:∀n s,I n s->wpAny (model prog w) A (pyNext it) (λr G=>match r with
   |none=>R (.ok .next) G
   |some v=>wpAny (model prog w) A (letOwnedTupleGo target it v) (λ_ J=>wpAny (model prog w) A (assign target env v) (λ_ O=>wpAny (model prog w) A (eval elt env) (λx N=>
     wpAny (model prog w) A (call (.builtin "list.append") [acc,x]) (λ_ M=>∃m,m<n/\I m M) (λ_ _=>False) N)
     (λ_ _=>False) O) (λ_ _=>False) J) (λ_ _=>False) G) (λ_ _=>False) s)(n:Nat)(h:I n s):codeAny (model prog w) A
   (.compLoop (.ListComp elt [⟨target,iter,[],0⟩] scope pos) 0 it acc env) R s:=by
 refine codeAny_loop Y I (λn s B=>wpAny_noted (m:=compTurn (.ListComp elt [⟨target,iter,[],0⟩] scope pos) 0 it acc env) ?_) n h;rw[compTurn_list1];refine Zl<|jm<|Zl<|Zn (turn n s B) (λr G T=>?_) λ_ _ Z=>Z.elim
 cases r with
 |none=>exact Zm T
 |some v=>
  exact Zl (Zn T (λ_ J L=>Zl (Zn L (λ_ O F=>Zl (Zl (Zn F (λx N E=>Zl (Zn E
   (λ_ M D=>Zm<|Zm ⟨rfl,D⟩) λ_ _ Z=>Z.elim)) λ_ _ Z=>Z.elim))) λ_ _ Z=>Z.elim)) λ_ _ Z=>Z.elim)
theorem W0{Z:Env}{x:Str}:∀{names:List (Str×NameKind)},names.lookup x=some .free->
  (names.map λ(n,k)=>if(k==NameKind.free && Z.scope.kind==.function && Z.kindOf n==some .cell)then(n,NameKind.cell)else(n,k)).lookup x≠some .local
 |[],h=>by simp at h
 |(n,k)::r,h=>by
  have ih:= @W0 Z x r;rw[ZV];dsimp only[rI0,rI,U3];rw[vv]at h
  cases hb:x==n with
  |true=>
   rw[hb]at h;have J:k=.free:=ZT h;subst J
   split <;> simp[vv,hb]
  |false=>
   rw[hb]at h
   split <;> (simp only[vv,hb];exact ih h)
def VR(X:Cx)(N':kQ)(scope:Scope)(cl:List (Str×Addr))(C:Addr)(fp:kU)(s:Shared)(H:Hp):Cx:=
 {X with N:=N',s₀:=s,H₀:=H,env:=compEnvC scope cl C X.env,outer:=X.stack,stack:=X.stack,ex:=fp,fn:=λ_=>false,pn:=[],xe:=λ_ _=>False}
def Vk(X:Cx)(own:kQ)(ix:List Nat):kQ:=own++ ix.map λj=>X.N.getD j ("":Str)
def Vs(k:Nat)(ix:List Nat)(U:St):St:=List.replicate k none++ ix.map λj=>U.getD j none
def GK(k:Nat)(g:TG):Prop:=∀x U H Q,g x U H Q->g x U H fun σ2 Z=>Q σ2 Z/\σ2.length=U.length/\σ2.drop k=U.drop k
def Vc(h:i<k):GK k (Vv i):=λx U H Q q=>⟨q,by simp,by rw[List.drop_set,Zp h]⟩
def GKs(k:Nat)(g:TGs):Prop:=∀x U H Q,g x U H Q->g x U H fun σ2 Z=>Q σ2 Z/\σ2.length=U.length/\σ2.drop k=U.drop k
def DV:GKs k Td:=λx U H Q q=>by
 match x,q with
 |[],q=>exact⟨q,Y,Y⟩
def XO(R:GK k g)(O:GKs k gs)(N:∀x U H (Q Z:pe),(∀a b,Q a b->Z a b)->g x U H Q->g x U H Z)(M:∀x U H (Q Z:pe),(∀a b,Q a b->Z a b)->gs x U H Q->gs x U H Z):GKs k (Jl g gs):=λx U H Q q=>by
 match x,q with
 |v::r,q=>
  refine N _ _ _ _ _ (λa b z=>?_)<|R _ _ _ _ q;obtain⟨L,G,J⟩:=z;refine M _ _ _ _ _ (λc d y=>?_)<|O _ _ _ _ L;exact⟨y.1,y.2.1.trans G,y.2.2.trans J⟩
def DU{K:W.Frag}(h:GKs k gs):GK k (Nd K n gs):=λx U H Q q=>by
 match x,q with
 |.ref a,q=>
  obtain⟨Z,G,J,q⟩:=q;exact⟨Z,G,J,h _ _ _ _ q⟩
def Ra(J:It)(g:TG)(te:TE)(s0:St)(Q:VK)(H1:Hp):Prop:=∃W:Nat->Nat->List V->Hp->Prop,(∃m,W 0 m [] H1)/\∀i m Z H,W i m Z H->
 Z.length<sizeLine/\((J.stop i H/\∀p,H p=none->Q (.ref p) (upd H p<|.lst Z)) \/
  (J.go i H/\∀x L,J.yld i H x L->g x s0 L fun σ2 N=>te σ2 N λy M=>∃G,G<m/\W (i+1) G (Z++[y]) M))
def QU(k:Nat)(ix:List Nat)(wi:TI)(g:TG)(te:TE):TE:=λU H Q=>wi U H λJ Z=>Ra J g te (Vs k ix U) Q Z
def Inv.retrack(I:Inv X Z U H s)(N:H D=none)(f:J1 X Z H D)(new:VS X.prog X.w (upd H D o) s.heap D o):Inv X Z U (upd H D o) s:=by
 have G:∀b u,H b=some u->b≠D:=λb u e=>Yb e N;have r:=I.step (h':=s.heap) (H':=upd H D o) (g':=s.gens) (d':=s.drawn) (t':=s.toks) (ch:=[D])
  (λb J=>by
   have e:b=D:=by simpa using J
   subst e;exact⟨f.2.2.2.1,f.2.1,f.2.2.2.2.1,f.2.2.2.2.2⟩)
  (λb o _ _ _ e _=>e) (λb o _ _ _ e _=>⟨o.slots,e⟩) (λb o J e n=>by rw[Yg (λz=>J<|by simp[z])];exact n) (λb o _ e=>⟨o,e⟩)
  (λb L e=>by rw[Yg (G _ _ e)];exact e) (λb o u e=>by rw[Yg (G _ _ e)];exact e) (λb O e=>⟨#[],by rw[Yg (G _ _ e),e];simp⟩) (λm M=>M)
  (λb u e=>by
   by_cases J:b=D
   .subst J;rw[Yf]at e;cases e;exact new
   .rw [Yg J]at e
    exact(I.hok b u e).stay (λc v _ q=>q) (λc q=>by rw[Yg (G _ _ q)];exact q) λc L q=>by rw[Yg (G _ _ q)];exact q) I.bare
 exact r
def Uh(sc:Scope)(outer:List (Str×NameKind))(N:kQ)(ix:List Nat):Bool:=
 sc.names.all (λx=>(decide (x.2≠.local) || decide (sc.names.lookup x.1=some .local)) && decide (x.2≠.cell) && (decide (x.2≠.free) || decide (outer.lookup x.1=some .cell) || decide (outer.lookup x.1=some .free))) &&
  ix.all λj=>match N[j]? with
   |some y=>decide<|sc.names.lookup y=some .free
   |none=>false
def Uh.all(Z:Uh sc outer N ix=true):
  (∀x∈sc.names,x.2=.local->sc.names.lookup x.1=some .local)/\(∀x∈sc.names,x.2≠.cell)/\(∀x∈sc.names,x.2=.free->outer.lookup x.1=some .cell\/outer.lookup x.1=some .free)/\∀j∈ix,∃y,N[j]?=some y/\sc.names.lookup y=some .free:=by
 unfold Uh at Z;rw[ZZ,List.all_eq_true,List.all_eq_true]at Z;have each:=λx J=>Z.1 x J;simp only[ZZ,Bool.or_eq_true,decide_eq_true_eq]at each;refine⟨λx J G=>(each x J).1.1.resolve_left λz=>z G,λx J=>(each x J).1.2,λx J M=>?_,λj L=>?_⟩
 .rcases (each x J).2 with(z|z)|z
  .exact Zr M z
  .exact .inl z
  .exact .inr z
 .have q:=Z.2 j L
  cases e:N[j]? with
  |none=>rw[e]at q;cases q
  |some y=>rw[e]at q;exact⟨y,Y,Zt q⟩
structure CB(X:Cx)(own:List Str)(ix:List Nat)(scope:Scope)(pins:List (Addr×Obj))(U:St)(tg:Expr)(cl:List (Str×Addr))(D C:Addr)(fp:List Addr)(it:Addr)(tn:Nat->Heap->Prop)(J:It)(H2:Hp)(s3:Shared):Prop where
 T:Turn X.prog X.w X.K tg J fp it tn
 ok:(VR X (Vk X own ix) scope cl C (D::fp) s3 H2).Ok
 nfp:∀b∈fp,b≠D
 f2:∀b∈fp,J1 X pins H2 b
 fD:J1 X pins H2 D
 I3:Inv X pins U H2 s3
 CD:C≠D
 fC:∀H':Hp,H' C=none->J1 X pins H' C
section
def WN{rest:List Comprehension}(own:kQ)(E:List Nat)(hi:PI X tg iter wi)(M:scope.kind=.function)(T3:Uh scope X.env.scope.names X.N E=true)(hs:∀x,foldedSetIterable iter X.env x=pure x)(I:Inv X G U H s)(h:wi U H R)(loop:∀(cl:List (Str×Addr))(D C:Addr)(fp:kU)(it:Addr)(tn:Nat->Heap->Prop)(J:It)(A:Hp)(s3 s5:Shared),CB X own E scope G U tg cl D C fp it tn J A s3->R J A->Inv (VR X (Vk X own E) scope cl C (D::fp) s3 A) [] (Vs own.length E U) A s5->tn 0 s5.heap->s5.heap.PlainList D (List.toArray [])->
   codeAny (model X.prog X.w) X.A (.compLoop (.ListComp elt (⟨tg,iter,ifs,0⟩::rest) scope pos) 0 (.ref it) (.ref D)<|compEnvC scope cl C X.env) (compPost (model X.prog X.w) X.A X.xe use POST (.ref D) C) s5):
  wpAny (model X.prog X.w) X.A (comprehension (.ListComp elt (⟨tg,iter,ifs,0⟩::rest) scope pos) scope X.env cpos (newList []) false (eval iter X.env) use) POST X.xe s:=by
 obtain⟨G1,Q,O1,T4⟩:=Uh.all T3;have G2:∀x∈scope.names,x.2=.free->∃c,X.env.cells.lookup x.1=some c:=λx hx hf=>I.ok.has x.1<|O1 x hx hf;obtain⟨cl,T5,Z,M2⟩:=Dk G2;refine wpAny_comprehension_free Y hs T5 M G1 ?_;refine thn (hi G s U H _ I h) λv s1 h1=>thn h1 λT9 w h2=>?_;obtain⟨it,fp,tn,J,A,e,O,T,R3,f2,hR⟩:=h2;subst e;refine jw<|wpAny_newFunctionEnv Q (by intro y hy;simp at hy) (λh4 J2 n=>?_) M;dsimp only at J2 n |-;generalize hh3:w.heap.push {cls:=.type "list",dict:=none,data:=.seq ([]:kP).toArray}=h3 at J2 n |-;have R5:h3.objs.size=w.heap.objs.size+1:=by rw[<-hh3,jd]
 have l:∀b u,w.heap.get? b=some u->h3.get? b=some u:=λb u q=>by rw[<-hh3];exact ZE _ q
 have D3:h3.get? w.heap.objs.size=some {cls:=.type "list",data:=.seq #[]}:=by rw[<-hh3];exact ZY _ Y
 obtain⟨D,g⟩:∃D,D=w.heap.objs.size:=⟨_,rfl⟩;obtain⟨C,hC⟩:∃C,C=h3.objs.size:=⟨_,rfl⟩;rw[<-hC]at J2 n;rw[<-g]at D3 R5;have F:C=D+1:=hC.trans R5
 let s3:Shared:={w with heap:=h3}
 have I3:Inv X G U A s3:=O.kept (t':=w.toks) l;have T2:∀b u,h3.get? b=some u->b<C:=λb u q=>by rw[hC];exact ZP q
 have L:∀b u,h3.get? b=some u->h4.get? b=some u:=λb u q=>n.extBut b u (Ze<|T2 b u q)<|ZE _ q;have T7:A D=none:=O.hok.fresh (by rw[g];exact ZG _);have T8:A C=none:=O.hok.fresh (by rw[F,g];exact qh _);have fD:J1 X G A D:=O.fpOk (by rw[g];exact ZG _) T7
 have f:∀x c,X.env.cells.lookup x=some c->c<D:=λx c e=>by
  obtain⟨v,z⟩:=O.cell x c e;rw[g];exact z.lt
 have R0:∀b∈fp,b<D:=λb N=>by
  obtain⟨o,e,_⟩:=T.obj 0 _ R3 b N;rw[g];exact ZP e
 let X':Cx:=VR X (Vk X own E) scope cl C (D::fp) s3 A
 have R1:∀b∈frs X.stack,b∉D::fp:=λb N z=>by
  rcases Zd.mp z with z|z
  .have q:=O.stack
   obtain⟨_,o,e,_⟩:=q.mem N;have:=ZP e;rw[z,g]at this;exact vw _ this
  .rcases Zd.mp (O.stkSub b N)with q|q
   .exact (f2 b z).2.1 q
   .exact (f2 b z).2.2.1 q
 have R6:X'.Ok:=by
  refine⟨I.ok.mod,M,I.ok.glob,I.ok.blt,?_,λx y c h1 h2=>I.ok.inj x y c (Z x c h1)<|Z y c h2,λx hx=>M2 x<|Xw (scope:=scope) hx Q,(λx c z=>Bool.noConfusion (show false=true from z)),I.ok.hd,I.ok.frames,.inl rfl,λb N=>⟨?_,λx c h1=>?_⟩,λb o e=>?_,?_,λb o e N=>?_,λb N z=>R1 b z N,?_,λb N=>O.stkFree b N⟩
  .show h3.objs.size<=C
   rw[hC];exact ZG _
  .show b≠C
   rcases Zd.mp N with z|z
   .rw [z,F];exact Ze<|vj _
   .rw [F];exact Ze<|Nat.lt_succ_of_lt<|R0 b z
  .rcases Zd.mp N with z|z
   .rw [z];exact Ze<|f x c<|Z x c h1
   .exact (f2 b z).2.2.2.2.1 x c (Z x c h1)
  .exact I3.bs b o e
  .show X.base.objs.size<=h3.objs.size
   have:=Zb I.ok.bsz O.sz;rw[<-g]at this;rw[<-hC,F];exact jg this
  .rcases Zd.mp N with z|z
   .have:=ZP<|O.bk b o e
    rw[z,g]at this;exact vw _ this
   .rcases (f2 b z).2.2.2.1 with q|q
    .exact I.ok.noex b o e q
    .have:=Zx (ZP (I.ok.bs b o e).1) q
     exact vw _ this
  .exact I3.stack
 have R7:(Vs own.length E U).length=(Vk X own E).length:=by simp[Vs,Vk]
 have I4:∀t,Inv X' [] (Vs own.length E U) A {w with heap:=h4,toks:=t}:=λt=>by
  refine⟨R6,Y,O.bare,Un.kept L,⟨_,J2,λi x v e1 e2 e3=>?_⟩,λx c e=>?_,T8,λx c e=>O.freeC x c<|Z x c e,λp hp=>Zr (show p∈([]:kM)from hp) (by simp),(I3.hok).kept L,R7⟩
  .-- a name of the def that the block reads
   have T1:own.length<=i:=by
    apply jG;intro T0;unfold Vs at e2;rw[vd (by simpa using T0),ju,Zp T0]at e2;cases e2
   have d:(E.map λj=>X.N.getD j ("":Str))[i-own.length]?=some x:=by
    have z:(own++ E.map λj=>X.N.getD j ("":Str))[i]?=some x:=e1
    rwa [vb T1]at z
   have R4:(E.map λj=>U.getD j none)[i-own.length]?=some (some v):=by
    unfold Vs at e2;rw[vb (by simpa using T1)]at e2;simpa using e2
   rw[ZH]at d R4
   cases hj:E[i-own.length]? with
   |none=>rw[hj]at d;cases d
   |some j=>
    rw[hj]at d R4;obtain⟨y,hy,P⟩:=T4 j<|ZJ hj
    have ex:x=y:=by
     have z:X.N.getD j ("":Str)=x:=ZT d;rw[<-z,ve,hy];rfl
    subst ex
    have ev:U[j]?=some (some v):=by
     have z:U.getD j none=some v:=ZT R4;rw[ve]at z
     cases q:U[j]? with
     |none=>rw[q]at z;cases z
     |some a=>rw[q]at z;exact congrArg some z
    have R8:=js P;have G3:=O1 _ R8 rfl;obtain⟨m,hn,hl⟩:=O.loc;obtain⟨u,r,lk⟩:=hl j x v hy ev<|.inr G3;refine⟨u,r,.inr ⟨?_,?_⟩⟩
    .rcases e3 with z|z
     .exact Zr z (W0 P)
     .exact z
    .rcases lk with⟨k,_⟩|⟨_,c,T6,z⟩
     .rcases G3 with q|q
      .exact Zr (k.symm.trans q) (by simp)
      .exact Zr (k.symm.trans q) (by simp)
     .obtain ⟨c',hc'⟩:=M2 x R8
      have:=Z x c' hc';rw[T6]at this;cases this;obtain⟨o,ho,hd⟩:=z;exact⟨c,hc',o,L _ _<|l _ _ ho,hd⟩
  .obtain ⟨v,z⟩:=I3.cell x c<|Z x c e
   obtain⟨o,ho,hd⟩:=z;exact⟨v,o,L _ _ ho,hd⟩
 have B:CB X own E scope G U tg cl D C fp it tn J A s3:=⟨T,R6,λb N=>Ze<|R0 b N,f2,fD,I3,by rw[F];exact jp<|vj _,λH' hn=>O.fpOk (by rw[F,g];exact qh _) hn⟩;have S:=λt=>loop cl D C fp it tn J A s3 {w with heap:=h4,toks:=t} B hR (I4 t) (T.keep 0 _ _ R3 λb _ o e=>L _ _<|l _ _ e) ⟨_,L _ _ D3⟩;rw[<-hC,<-g];exact codeAny_compStart_list (S _)<|T.self _ 0 _ _ _ (T.keep 0 _ _ R3 λb _ o e=>L _ _<|l _ _ e)<|S _
def CB.stop(B:CB X own ix scope Z U tg cl D C fp it tn J S s3)(G:Inv (VR X (Vk X own ix) scope cl C (D::fp) s3 S) [(D,oD)] τ H5 s6)(T:M.length<sizeLine)(R:Vals M L)(A:oD={cls:=.type "list",data:=.seq L.toArray nn}):
  Inv X Z U (upd H5 D<|.lst M) s6/\J1 X Z (upd H5 D<|.lst M) C/\(∃m,s6.heap.Ns C m)/\H5 D=none:=by
 obtain⟨m,O,_⟩:=id G.loc
 have I:Inv X Z U H5 s6:=B.I3.call' (ch:=D::fp) G.os G.base G.hok G.bare λb E=>by
  rcases Zd.mp E with z|z
  .subst z
   exact⟨B.fD.2.2.2.1,B.fD.2.1,B.fD.2.2.2.2.1,B.fD.2.2.2.2.2⟩
  .have f:=B.f2 b z
   exact⟨f.2.2.2.1,f.2.1,f.2.2.2.2.1,f.2.2.2.2.2⟩
 obtain⟨F,N,_⟩:=G.pin (D,oD) (by simp);subst A;exact⟨I.retrack (o:=.lst M) N ⟨N,B.fD.2⟩ ⟨Zh T,L,nn,R,F⟩,B.fC _ (by rw[Yg B.CD];exact G.free),⟨m,O⟩,N⟩
def An(R:Inv X Z U L s6)(J:J1 X Z L C)(N:∃m,s6.heap.Ns C m)(q:Q (.ref D) L):compPost (model X.prog X.w) X.A X.xe none (EP X Z U Q) (.ref D) C (.ok .next) s6:=by
 obtain⟨m,M⟩:=N;exact⟨m,M,λT G=>⟨.ref D,_,R.turned (it:=C) (t':=s6.toks) (λb o O e=>(G.2 b O).trans e) J.1 J.2.1 J.2.2.2.1 J.2.2.2.2.1 J.2.2.2.2.2,Y,q⟩⟩
def Dc{F:Ends}(j:X.N.Nodup)(T:X.N[i0]?=some x0)(N:Loc X.env.scope x0)(P:X.fn x0=true\/X.env.scope.names.lookup x0=some .local)(t:Inv X Z U M s6)(G:J1 X Z M C)(S:∃m,s6.heap.Ns C m)(q:Vv i0 (.ref D) U M F.nx):
  compPost (model X.prog X.w) X.A X.xe (some<|assign (.Name x0 py) X.env) (λ_ I=>∃E M,Inv X Z E M I/\F.nx E M) (.ref D) C (.ok .next) s6:=by
 obtain⟨m,R⟩:=S;show wpAny _ X.A (assign (.Name x0 py) X.env<|.ref D) _ _ _;refine wpAny_assign_Name<|Tz (v:=.ref D) t j T N rfl (λA y J=>?_) P;obtain⟨a,J,L⟩:=J
 have B:C≠a:=by
  rcases L with L|L
  .rw [L];exact G.2.1
  .exact λz=>G.2.2.2.2.1 x0 a L z.symm
 exact⟨m,R.sameBut J B,λg O=>⟨_,_,y.turned (it:=C) (t':=A.toks) (λb o Q e=>(O.2 b Q).trans e) G.1 G.2.1 G.2.2.2.1 G.2.2.2.2.1 G.2.2.2.2.2,q⟩⟩
def MP(J:swapsWith (.ListComp e gens scope pos) (some<|.Name x0 py) spos.line X.env=pure true)(h:wpAny (model X.prog X.w) X.A (comprehension (.ListComp e gens scope pos) scope X.env (firstIterPos gens pos) (newList []) (firstAsync gens) (firstIter gens X.env)<|some<|assign (.Name x0 py) X.env) (λ_ G=>∃L M,Inv X Z L M G/\D0.nx L M) X.xe s):
  wpAny (model X.prog X.w) X.A (exec (.Assign [.Name x0 py] (.ListComp e gens scope pos) spos) X.env) (SP X Z D0) X.xe s:=by
 rw[exec_Assign_Name_used _ _ _ _ J];refine Zl<|jm<|Zl (?_:wpAny _ X.A (do let _ <-comprehension (.ListComp e gens scope pos) scope X.env _ (newList []) _ _ (some<|assign (.Name x0 py) X.env)) _ _ s);exact Zl<|Zn h (λ_ G N=>Zm<|Zm N) λ_ _ e=>e
def CB.loop1(B:CB X own ix scope I U tg F D C M it tn J h s3)(hc:X.calm=true)(R5:GK own.length g)(hg:∀F C M s H,PG (VR X (Vk X own ix) scope F C M s H) tg g)(he:∀F C M s H,PE (VR X (Vk X own ix) scope F C M s H) elt te)(cw:Ra J g te (Vs own.length ix U) Q h)(R7:∀a A O,Inv X I U (upd A D<|.lst O) a->J1 X I (upd A D<|.lst O) C->(∃m,a.heap.Ns C m)->Q (.ref D) (upd A D<|.lst O)->Rs (.ok .next) a)(I4:Inv (VR X (Vk X own ix) scope F C (D::M) s3 h) [] (Vs own.length ix U) h t)(O1:tn 0 t.heap)(lD:t.heap.PlainList D (List.toArray [])):
  codeAny (model X.prog X.w) X.A (.compLoop (.ListComp elt [⟨tg,iter,[],0⟩] scope pos) 0 (.ref it) (.ref D)<|compEnvC scope F C X.env) Rs t:=by
 obtain⟨W,⟨m0,w0⟩,turn⟩:=cw;have T:=B.T;have N:=B.ok;have G1:=B.nfp
 let E:Cx:=VR X (Vk X own ix) scope F C (D::M) s3 h
 have f:∀{S:Hp}{pl:kM},(∀p∈pl,p.1=D)->(∀b∈M,S b=none)->∀b∈M,J1 E pl S b:=λ{S pl} R hn b L=>
  ⟨hn b L,(N.exf b<|ZM _ L).1,N.exfs b<|ZM _ L,.inl<|ZM _ L,(N.exf b<|ZM _ L).2,λp R1 z=>G1 b L (z ▸ R p (by
   have q:p∈([]:kM)++ pl:=R1;simpa using q))⟩
 have dX:D≠E.env.locals:=(N.exf D Za).1;have dF:D∉E.fs:=N.exfs D Za;refine Nk (λn s'=>∃i O Z S,Inv E [] (Vs own.length ix U) S s'/\tn i s'.heap/\(∀b∈M,S b=none)/\S D=none/\s'.heap.PlainList D (List.toArray Z)/\Vals O Z/\W i n O S) ?_ m0
  ⟨0,[],[],h,I4,O1,λb L=>(B.f2 b L).1,B.fD.1,lD,.nil,w0⟩
 rintro n t ⟨i,O,Z,A,I5,J2,G3,d5,⟨nn,l5⟩,v5,w5⟩;obtain⟨hz,c⟩:=turn i n O A w5
 let oD:Obj:={cls:=.type "list",data:=.seq Z.toArray nn}
 have G:∀p∈ [((D,oD):Addr×Obj)],p.1=D:=λp R=>by
  have e:p=(D,oD):=by simpa using R
  rw[e]
 have M2:Inv E [(D,oD)] (Vs own.length ix U) A t:=I5.pins_of λp R=>by
  have e:p=(D,oD):=by simpa using R
  subst e;exact⟨l5,d5,dX,dF,λv z=>nomatch z⟩
 rcases c with⟨stop,qn⟩|⟨go,step⟩
 .refine thn (T.done E rfl rfl rfl hc i _ t _ A _ M2 (f G G3) J2 stop) λr a ⟨hr,I6⟩=>?_
  subst hr;obtain⟨z1,z2,z3,nD⟩:=B.stop I6 hz v5 rfl;exact R7 a A O z1 z2 z3<|qn D nD
 .refine thn (T.item E rfl rfl rfl hc i _ t _ A _ M2 (f G G3) J2 go) λr a ⟨u,hr,h6⟩=>?_
  subst hr;refine thn h6 λ_ s7 ⟨x,H7,I7,r7,y7,P,R6⟩=>?_;have T0:=I7.pinned (f G R6)<|T.obj _ _ P;refine thn (hg F C (D::M) s3 h _ s7 _ H7 x u _ T0 r7<|R5 _ _ _ _<|step x H7 y7) λ_ s8 ⟨σ8,H8,I8,q8,l8,k8⟩=>?_;refine thn (he F C (D::M) s3 h _ s8 σ8 H8 _ I8 q8) λyv s9 ⟨y,H9,I9,r9,m',R3,w9⟩=>?_;obtain⟨gD,nD,_⟩:=I9.pin (D,oD) (by simp);have G2:Z.length=O.length:=v5.length.symm;refine qD (l:=D) (items:=Z.toArray) ⟨nn,gD⟩ (λh' R4 R0=>?_) (by rw[ZO,G2];exact Zh hz);have kp:∀b o,b≠D->s9.heap.get? b=some o->h'.get? b=some o:=λb o L q=>(R0.2 b L).trans q
  have R8:Inv E (VN M s7.heap) σ8 H9 s9:=I9.pins_of λp R=>I9.pin p (by
   refine ZU _<|ZU _ R)
  have k:∀p∈E.pn++ VN M s7.heap,p.1≠D:=λp R=>by
   have q:p∈([]:kM)++ VN M s7.heap:=R;exact G1 _ (XJ<|by simpa using q).1
  have w:Inv E (VN M s7.heap) σ8 H9 {s9 with heap:=h',toks:=s9.toks}:=R8.turned (it:=D) kp nD dX (.inl Za) (N.exf D Za).2 k;refine⟨m',R3,i+1,O++[y],Z++[yv],H9,?_,?_,?_,nD,?_,v5.append<|.cons r9 .nil,w9⟩
  .refine Inv.weak (w.pins_of (pins':=[]) λp R=>nomatch R) (by rw[l8]) λj v hj=>?_
   by_cases hlt:j<own.length
   .unfold Vs at hj
    rw[vd (by simpa using hlt),ju,Zp hlt]at hj;cases hj
   .have e:σ8[j]?=(Vs own.length ix U)[j]?:=by
     have q:=congrArg (λl:List (pf)=>l[j-own.length]?) k8;simp only[qV]at q
     rwa [qO (jG hlt)]at q
    rw[e];exact hj
  .exact T.keep _ _ _ P λb L o e=>(w.pin (b,o)<|ZU _<|Vr L e).1
  .intro b L
   obtain⟨o,e,d⟩:=T.obj _ _ P b L;exact(w.pin (b,o)<|ZU _<|Vr L e).2.1
  .have e:(Z++[yv]).toArray=Z.toArray.push yv:=by simp
   rw[e];exact R4
end
def Ms(I:Nat->Shared->Prop)(turn:∀n s,I n s->wpAny (model prog w) A (pyNext it) (λr M=>match r with
   |none=>R (.ok .next) M
   |some v=>wpAny (model prog w) A (letOwnedTupleGo target it v) (λ_ L=>wpAny (model prog w) A (assign target env v) (λ_ B=>wpAny (model prog w) A (isTrue ct env<|eval ct env) (λb G=>if b=true then wpAny (model prog w) A (eval elt env) (λx T=>
     wpAny (model prog w) A (call (.builtin "list.append") [acc,x]) (λ_ O=>∃m,m<n/\I m O) (λ_ _=>False) T)
     (λ_ _=>False) G else ∃m,m<n/\I m G) (λ_ _=>False) B) (λ_ _=>False) L) (λ_ _=>False) M) (λ_ _=>False) s)(n:Nat)(h:I n s):codeAny (model prog w) A (.compLoop (.ListComp elt [⟨target,iter,[ct],0⟩] scope pos) 0 it acc env) R s:=by
 refine codeAny_loop Y I (λn s E=>wpAny_noted (m:=compTurn (.ListComp elt [⟨target,iter,[ct],0⟩] scope pos) 0 it acc env) ?_) n h;rw[compTurn_list];refine Zl<|jm<|Zl<|Zn (turn n s E) (λr M D=>?_) λ_ _ Z=>Z.elim
 cases r with
 |none=>exact Zm D
 |some v=>
  refine Zl<|Zn D (λ_ L N=>Zl<|Zn N (λ_ B U=>?_) λ_ _ Z=>Z.elim) λ_ _ Z=>Z.elim;dsimp only;refine Zl ?_;rw[jA];simp only[if_true];refine Zl<|Zl<|Zn U (λb G J=>Zm ?_) λ_ _ Z=>Z.elim;dsimp only;rw[qd];refine Zm ?_
  cases b with
  |true=>
   rw[Zp rfl]at J;simp only[if_true];exact Zl<|Zl<|Zn J (λx T S=>Zl<|Zn S (λ_ O F=>Zm<|Zm ⟨rfl,F⟩) λ_ _ Z=>Z.elim) λ_ _ Z=>Z.elim
  |false=>
   rw[Zq (by simp)]at J;simp only[Zq Zi];exact Zm ⟨Y,J⟩
def My(J:It)(g:TG)(tc:TT)(te:TE)(s0:St)(Q:VK)(H1:Hp):Prop:=∃W:Nat->Nat->List V->Hp->Prop,(∃m,W 0 m [] H1)/\∀i m Z H,W i m Z H->
 Z.length<sizeLine/\((J.stop i H/\∀p,H p=none->Q (.ref p) (upd H p<|.lst Z)) \/
  (J.go i H/\∀x M,J.yld i H x M->g x s0 M fun σ2 O=>tc σ2 O λb L=>if b=true then te σ2 L λy N=>∃G,G<m/\W (i+1) G (Z++[y]) N else ∃G,G<m/\W (i+1) G Z L))
def SH(k:Nat)(ix:List Nat)(wi:TI)(g:TG)(tc:TT)(te:TE):TE:=λU H Q=>wi U H λJ Z=>My J g tc te (Vs k ix U) Q Z
def Di(n:Nat)(U:n<sizeLine)(L:Nat->List V->Hp->Prop)(I:L 0 [] H)(O:∀i Z H,L i Z H->Z.length<=i)(D:∀i Z H,i<n->L i Z H->J.go i H)(M:∀Z H,L n Z H->J.stop n H)(F:∀i Z H x T (R:Bool->V->Hp->Prop),i<n->L i Z H->J.yld i H x T->(∀v G,L (i+1) (Z++[v]) G->R true v G)->(∀G,L (i+1) Z G->R false .non G)->g x s0 T λE S=>tc E S λb G=>if b=true then te E G (R true)else R false .non G)(hd:∀Z H p,L n Z H->H p=none->Q (.ref p) (upd H p<|.lst Z)):
  My J g tc te s0 Q H:=by
 refine⟨λi m Z H=>m=n-i/\i<=n/\L i Z H,⟨n,by simp,Zc _,I⟩,?_⟩;rintro i m Z H ⟨rfl,X,p⟩;have C:=O i Z H p;exists by lia
 by_cases hlt:i<n
 .exact .inr ⟨D i Z H hlt p,λx T y=>F i Z H x T (λb v G=>if b=true then ∃N,N<n-i/\N=n-(i+1)/\i+1<=n/\L (i+1) (Z++[v]) G else ∃N,N<n-i/\N=n-(i+1)/\i+1<=n/\L (i+1) Z G) hlt p y
   (λv G B=>by rw[Zp rfl];exact⟨n-(i+1),by lia,Y,hlt,B⟩) λG B=>by rw[Zq (by simp)];exact⟨n-(i+1),by lia,Y,hlt,B⟩⟩
 .have e:i=n:=by lia
  subst e;exact .inl ⟨M Z H p,λa A=>hd Z H a p A⟩
section
def CB.loopI(B:CB X own ix scope f U tg F D C L it tn J w s3)(hc:X.calm=true)(T3:GK own.length g)(hg:∀F C L s H,PG (VR X (Vk X own ix) scope F C L s H) tg g)(T4:∀F C L s H,PT (VR X (Vk X own ix) scope F C L s H) ct tc)(he:∀F C L s H,PE (VR X (Vk X own ix) scope F C L s H) elt te)(cw:My J g tc te (Vs own.length ix U) Q w)(T6:∀s6 k E,Inv X f U (upd k D<|.lst E) s6->J1 X f (upd k D<|.lst E) C->(∃m,s6.heap.Ns C m)->Q (.ref D) (upd k D<|.lst E)->Rs (.ok .next) s6)(I4:Inv (VR X (Vk X own ix) scope F C (D::L) s3 w) [] (Vs own.length ix U) w s5)(R7:tn 0 s5.heap)(lD:s5.heap.PlainList D (List.toArray [])):
  codeAny (model X.prog X.w) X.A (.compLoop (.ListComp elt [⟨tg,iter,[ct],0⟩] scope pos) 0 (.ref it) (.ref D)<|compEnvC scope F C X.env) Rs s5:=by
 obtain⟨W,⟨m0,w0⟩,turn⟩:=cw;have T:=B.T;have O:=B.ok;have R0:=B.nfp
 let R:Cx:=VR X (Vk X own ix) scope F C (D::L) s3 w
 have G3:∀{h:Hp}{pl:kM},(∀p∈pl,p.1=D)->(∀b∈L,h b=none)->∀b∈L,J1 R pl h b:=λ{h pl} S hn b G=>
  ⟨hn b G,(O.exf b<|ZM _ G).1,O.exfs b<|ZM _ G,.inl<|ZM _ G,(O.exf b<|ZM _ G).2,λp T1 z=>R0 b G (z ▸ S p (by
   have q:p∈([]:kM)++ pl:=T1;simpa using q))⟩
 have dX:D≠R.env.locals:=(O.exf D Za).1;have dF:D∉R.fs:=O.exfs D Za;refine Ms (λn s'=>∃i E Z h,Inv R [] (Vs own.length ix U) h s'/\tn i s'.heap/\(∀b∈L,h b=none)/\h D=none/\s'.heap.PlainList D (List.toArray Z)/\Vals E Z/\W i n E h) ?_ m0
  ⟨0,[],[],w,I4,R7,λb G=>(B.f2 b G).1,B.fD.1,lD,.nil,w0⟩
 rintro n s5 ⟨i,E,Z,k,I5,O1,R3,d5,⟨nn,l5⟩,v5,w5⟩;obtain⟨hz,G2⟩:=turn i n E k w5
 let oD:Obj:={cls:=.type "list",data:=.seq Z.toArray nn}
 have N:∀p∈ [((D,oD):Addr×Obj)],p.1=D:=λp S=>by
  have e:p=(D,oD):=by simpa using S
  rw[e]
 have R5:Inv R [(D,oD)] (Vs own.length ix U) k s5:=I5.pins_of λp S=>by
  have e:p=(D,oD):=by simpa using S
  subst e;exact⟨l5,d5,dX,dF,λv z=>nomatch z⟩
 rcases G2 with⟨stop,qn⟩|⟨go,step⟩
 .refine thn (T.done R rfl rfl rfl hc i _ s5 _ k _ R5 (G3 N R3) O1 stop) λr s6 ⟨hr,I6⟩=>?_
  subst hr;obtain⟨z1,z2,z3,nD⟩:=B.stop I6 hz v5 rfl;exact T6 s6 k E z1 z2 z3<|qn D nD
 .refine thn (T.item R rfl rfl rfl hc i _ s5 _ k _ R5 (G3 N R3) O1 go) λr s6 ⟨u,hr,h6⟩=>?_
  subst hr;refine thn h6 λ_ a ⟨x,H7,I7,r7,y7,A,T5⟩=>?_;have T7:=I7.pinned (G3 N T5)<|T.obj _ _ A;refine thn (hg F C (D::L) s3 w _ a _ H7 x u _ T7 r7<|T3 _ _ _ _<|step x H7 y7) λ_ s8 ⟨σ8,H8,I8,q8,l8,k8⟩=>?_;refine thn (T4 F C (D::L) s3 w _ s8 σ8 H8 _ I8 q8) λcb R8 ⟨R6,M2,t⟩=>?_
  have J2:∀p∈R.pn++ VN L a.heap,p.1≠D:=λp S=>by
   have q:p∈([]:kM)++ VN L a.heap:=S;exact R0 _ (XJ<|by simpa using q).1
  have c:∀{P:Hp}{I:Shared},Inv R (VN L a.heap) σ8 P I->Inv R [] (Vs own.length ix U) P I:=λ{P I} M=>by
   refine Inv.weak (M.pins_of (pins':=[]) λp S=>nomatch S) (by rw[l8]) λj v hj=>?_
   by_cases hlt:j<own.length
   .unfold Vs at hj
    rw[vd (by simpa using hlt),ju,Zp hlt]at hj;cases hj
   .have e:σ8[j]?=(Vs own.length ix U)[j]?:=by
     have q:=congrArg (λl:List (pf)=>l[j-own.length]?) k8;simp only[qV]at q
     rwa [qO (jG hlt)]at q
    rw[e];exact hj
  have R4:∀{P:Hp}{I:Shared},Inv R ((D,oD)::VN L a.heap) σ8 P I->Inv R (VN L a.heap) σ8 P I:=λ{P I} I9=>I9.pins_of λp S=>I9.pin p<|ZU _<|ZM _ S
  cases cb with
  |false=>
   rw[Zq (by simp)]at t;rw[Zq (by simp)];obtain⟨m',G1,w9⟩:=t;obtain⟨gD,nD,_⟩:=M2.pin (D,oD) (by simp);have M:=R4 M2;refine⟨m',G1,i+1,E,Z,R6,c M,?_,?_,nD,⟨nn,gD⟩,v5,w9⟩
   .exact T.keep _ _ _ A λb G o e=>(M.pin (b,o)<|ZU _<|Vr G e).1
   .intro b G
    obtain⟨o,e,d⟩:=T.obj _ _ A b G;exact(M.pin (b,o)<|ZU _<|Vr G e).2.1
  |true=>
   rw[Zp rfl]at t;rw[Zp rfl];refine thn (he F C (D::L) s3 w _ R8 σ8 R6 _ M2 t) λyv I ⟨y,P,I9,r9,m',G1,w9⟩=>?_;obtain⟨gD,nD,_⟩:=I9.pin (D,oD) (by simp);have R1:Z.length=E.length:=v5.length.symm;refine qD (l:=D) (items:=Z.toArray) ⟨nn,gD⟩ (λh' T2 T0=>?_) (by rw[ZO,R1];exact Zh hz);have kp:∀b o,b≠D->I.heap.get? b=some o->h'.get? b=some o:=λb o G q=>(T0.2 b G).trans q;have M:Inv R (VN L a.heap) σ8 P {I with heap:=h',toks:=I.toks}:=(R4 I9).turned (it:=D) kp nD dX (.inl Za) (O.exf D Za).2 J2;refine⟨m',G1,i+1,E++[y],Z++[yv],P,c M,?_,?_,nD,?_,v5.append<|.cons r9 .nil,w9⟩
   .exact T.keep _ _ _ A λb G o e=>(M.pin (b,o)<|ZU _<|Vr G e).1
   .intro b G
    obtain⟨o,e,d⟩:=T.obj _ _ A b G;exact(M.pin (b,o)<|ZU _<|Vr G e).2.1
   .have e:(Z++[yv]).toArray=Z.toArray.push yv:=by simp
    rw[e];exact T2
end
abbrev two(elt tg iter tg2 iter2:Expr)(scope:Scope)(pos:Pos):Expr:=.ListComp elt [⟨tg,iter,[],0⟩,⟨tg2,iter2,[],0⟩] scope pos
section
theorem Bs:compTurn (two elt tg iter tg2 iter2 scope pos) 0 it acc env=(standAt iter.pos >>=λ_=>pyNext it >>=λr=>match r with
  |none=>pure<|.done .next
  |some v=>letOwnedTupleGo tg it v >>=λ_=>assign tg env v >>=λ_=>eval iter2 env >>=λx=>standAt iter2.pos >>=λ_=>foldedSetIterable iter2 env x >>=λx=>holding [x] (pyIter x) >>=λj=>
    runOwn (.compStart (two elt tg iter tg2 iter2 scope pos) 1 j acc env) env >>=λ_=>again<|.compLoop (two elt tg iter tg2 iter2 scope pos) 0 it acc env):=by rfl
theorem DI:compTurn (two elt tg iter tg2 iter2 scope pos) 1 it acc env=(standAt iter2.pos >>=λ_=>pyNext it >>=λr=>match r with
  |none=>pure<|.done .next
  |some v=>letOwnedTupleGo tg2 it v >>=λ_=>assign tg2 env v >>=λ_=>(eval elt env >>=λx=>call (.builtin "list.append") [acc,x] >>=λ_=>pure ()) >>=λ_=>
    again (.compLoop (two elt tg iter tg2 iter2 scope pos) 1 it acc env)):=by rfl
def LK(I:Nat->Shared->Prop)(turn:∀n s,I n s->wpAny (model prog w) A (pyNext it) (λr Z=>match r with
   |none=>R (.ok .next) Z
   |some v=>wpAny (model prog w) A (letOwnedTupleGo tg2 it v) (λ_ M=>wpAny (model prog w) A (assign tg2 env v) (λ_ L=>wpAny (model prog w) A (eval elt env) (λx G=>
     wpAny (model prog w) A (call (.builtin "list.append") [acc,x]) (λ_ J=>∃m,m<n/\I m J) (λ_ _=>False) G) (λ_ _=>False) L) (λ_ _=>False) M) (λ_ _=>False) Z) (λ_ _=>False) s)(n:Nat)(h:I n s):codeAny (model prog w) A (.compLoop (two elt tg iter tg2 iter2 scope pos) 1 it acc env) R s:=by
 refine codeAny_loop Y I (λn s O=>wpAny_noted (m:=compTurn (two elt tg iter tg2 iter2 scope pos) 1 it acc env) ?_) n h;rw[DI];refine Zl<|jm<|Zl<|Zn (turn n s O) (λr Z N=>?_) λ_ _ z=>z.elim
 cases r with
 |none=>exact Zm N
 |some v=>
  exact Zl (Zn N (λ_ M E=>Zl (Zn E (λ_ L D=>Zl (Zl (Zn D (λx G B=>Zl (Zn B
   (λ_ J T=>Zm<|Zm ⟨rfl,T⟩) λ_ _ z=>z.elim)) λ_ _ z=>z.elim))) λ_ _ z=>z.elim)) λ_ _ z=>z.elim)
def Na(J:codeAny (model prog w) A (.compLoop (two elt tg iter tg2 iter2 scope pos) 1 it acc env) R s)(h:wpAny (model prog w) A (pyIter it) (λj Z=>codeAny (model prog w) A (.compLoop (two elt tg iter tg2 iter2 scope pos) 1 j acc env) R Z) (λ_ _=>False) s):
  codeAny (model prog w) A (.compStart (two elt tg iter tg2 iter2 scope pos) 1 it acc env) R s:=by
 refine codeAny_of_tree<|wpAny_notedAt (m:=compStart (two elt tg iter tg2 iter2 scope pos) 1 it acc env) (pos:=theWindowsPlace) ?_;simp only[compStart];refine Zl (m:=ask)<|wpAny_askSetting ?_
 split
 .exact Zl (Zm<|Zm ⟨rfl,J⟩)
 .exact Zl (jY<|Zl<|jm<|Zl<|Zn h (λj Z G=>Zm ⟨rfl,G⟩) λ_ _ z=>z.elim)
def KZ(I:Nat->Shared->Prop)(turn:∀n s,I n s->wpAny (model prog w) A (pyNext it) (λr Z=>match r with
   |none=>R (.ok .next) Z
   |some v=>wpAny (model prog w) A (letOwnedTupleGo tg it v) (λ_ N=>wpAny (model prog w) A (assign tg env v) (λ_ M=>wpAny (model prog w) A (eval iter2 env) (λx L=>
     wpAny (model prog w) A (pyIter x) (λj G=>codeAny (model prog w) (A.mark none) (.compStart (two elt tg iter tg2 iter2 scope pos) 1 j acc env) (λr J=>match r with|.ok _=>∃m,m<n/\I m J|.error _=>False) G) (λ_ _=>False) L) (λ_ _=>False) M) (λ_ _=>False) N) (λ_ _=>False) Z) (λ_ _=>False) s)(B:∀x,foldedSetIterable iter2 env x=pure x)(n:Nat)(h:I n s):codeAny (model prog w) A (.compLoop (two elt tg iter tg2 iter2 scope pos) 0 it acc env) R s:=by
 refine codeAny_loop Y I (λn s D=>wpAny_noted (m:=compTurn (two elt tg iter tg2 iter2 scope pos) 0 it acc env) ?_) n h;rw[Bs];refine Zl<|jm<|Zl<|Zn (turn n s D) (λr Z T=>?_) λ_ _ z=>z.elim
 cases r with
 |none=>exact Zm T
 |some v=>
  refine Zl<|Zn T (λ_ N U=>Zl<|Zn U (λ_ M S=>Zl<|Zn S (λx L F=>Zl<|jm ?_) λ_ _ z=>z.elim) λ_ _ z=>z.elim) λ_ _ z=>z.elim;rw[B x];refine Zl<|Zm<|Zl<|wpAny_holding<|Zn F (λj G E=>Zl<|wpAny_runOwn<|qL E λr J O=>?_) λ_ _ z=>z.elim
  cases r with
  |error e=>exact O.elim
  |ok f=>exact Zm ⟨Y,O⟩
end
def In2(wi2:TI)(te:TE)(W:Nat->Nat->List V->Hp->Prop)(i m:Nat)(ys:kZ):pe:=λU H=>wi2 U H λN B=>∃M:Nat->Nat->List V->Hp->Prop,(∃L,M 0 L ys B)/\∀j L G J,M j L G J->
 G.length<sizeLine/\((N.stop j J/\∃O,O<m/\W (i+1) O G J) \/
  (N.go j J/\∀y R,N.yld j J y R->te (U.set 1<|some y) R λv T=>∃Z,Z<L/\M (j+1) Z (G++[v]) T))
def Du(J:It)(wi2:TI)(te:TE)(s0:St)(Q:VK)(H1:Hp):Prop:=∃W:Nat->Nat->List V->Hp->Prop,(∃m,W 0 m [] H1)/\∀i m Z H,W i m Z H->
 Z.length<sizeLine/\((J.stop i H/\∀p,H p=none->Q (.ref p) (upd H p<|.lst Z)) \/
  (J.go i H/\∀x G,J.yld i H x G->In2 wi2 te W i m Z (s0.set 0<|some x) G))
def SL(ix:List Nat)(wi wi2:TI)(te:TE):TE:=λU H Q=>wi U H λJ Z=>Du J wi2 te (Vs 2 ix U) Q Z
def Qp(h:Vv i x U H Q):Vv i x U H fun σ2 Z=>Q σ2 Z/\σ2=U.set i (some x):=⟨h,rfl⟩
section
def CB.loop2(B:CB X [x1,x2] ix scope G1 U (.Name x1 p1) E D C Z it tn J w s3)(hc:X.calm=true)(hg:∀E C Z s H,PG (VR X (Vk X [x1,x2] ix) scope E C Z s H) (.Name x1 p1)<|Vv 0)(S2:∀E C Z s H,PI (VR X (Vk X [x1,x2] ix) scope E C Z s H) (.Name x2 p2) iter2 wi2)(hg2:∀E C Z s H,PG (VR X (Vk X [x1,x2] ix) scope E C Z s H) (.Name x2 p2)<|Vv 1)(he:∀E C Z s H,PE (VR X (Vk X [x1,x2] ix) scope E C Z s H) elt te)(I1:∀env x,foldedSetIterable iter2 env x=pure x)(cw:Du J wi2 te (Vs 2 ix U) Q w)(fin:∀g f A,Inv X G1 U (upd f D<|.lst A) g->J1 X G1 (upd f D<|.lst A) C->(∃m,g.heap.Ns C m)->Q (.ref D) (upd f D<|.lst A)->Rs (.ok .next) g)(I4:Inv (VR X (Vk X [x1,x2] ix) scope E C (D::Z) s3 w) [] (Vs ([x1,x2]:kQ).length ix U) w s5)(F4:tn 0 s5.heap)(lD:s5.heap.PlainList D (List.toArray [])):
  codeAny (model X.prog X.w) X.A (.compLoop (two elt (.Name x1 p1) iter (.Name x2 p2) iter2 scope pos) 0 (.ref it) (.ref D)<|compEnvC scope E C X.env) Rs s5:=by
 have hgk:GK ([x1,x2]:kQ).length (Vv 0):=Vc (i:=0) (by simp);obtain⟨W,⟨m0,w0⟩,turn⟩:=cw;have T:=B.T;have I:=B.ok;have T6:=B.nfp
 let N:Cx:=VR X (Vk X [x1,x2] ix) scope E C (D::Z) s3 w
 have R6:∀{R:Hp}{pl:kM},(∀p∈pl,p.1=D)->(∀b∈Z,R b=none)->∀b∈Z,J1 N pl R b:=λ{R pl} M hn b G=>
  ⟨hn b G,(I.exf b<|ZM _ G).1,I.exfs b<|ZM _ G,.inl<|ZM _ G,(I.exf b<|ZM _ G).2,λp y z=>T6 b G (z ▸ M p (by
   have q:p∈([]:kM)++ pl:=y;simpa using q))⟩
 have dX:D≠N.env.locals:=(I.exf D Za).1;have dF:D∉N.fs:=I.exfs D Za;refine KZ (λn s'=>∃i A L R,Inv N [] (Vs ([x1,x2]:kQ).length ix U) R s'/\tn i s'.heap/\(∀b∈Z,R b=none)/\R D=none/\s'.heap.PlainList D (List.toArray L)/\Vals A L/\W i n A R) ?_ (I1 _) m0
  ⟨0,[],[],w,I4,F4,λb G=>(B.f2 b G).1,B.fD.1,lD,.nil,w0⟩
 rintro n s5 ⟨i,A,L,f,I5,T4,D3,d5,⟨nn,l5⟩,v5,w5⟩;obtain⟨hz,R4⟩:=turn i n A f w5
 let oD:Obj:={cls:=.type "list",data:=.seq L.toArray nn}
 have F:∀p∈ [((D,oD):Addr×Obj)],p.1=D:=λp M=>by
  have e:p=(D,oD):=by simpa using M
  rw[e]
 have F2:Inv N [(D,oD)] (Vs ([x1,x2]:kQ).length ix U) f s5:=I5.pins_of λp M=>by
  have e:p=(D,oD):=by simpa using M
  subst e;exact⟨l5,d5,dX,dF,λv z=>nomatch z⟩
 rcases R4 with⟨stop,qn⟩|⟨go,step⟩
 .refine thn (T.done N rfl rfl rfl hc i _ s5 _ f _ F2 (R6 F D3) T4 stop) λr g ⟨hr,I6⟩=>?_
  subst hr;obtain⟨z1,z2,z3,nD⟩:=B.stop I6 hz v5 rfl;exact fin g f A z1 z2 z3<|qn D nD
 .refine thn (T.item N rfl rfl rfl hc i _ s5 _ f _ F2 (R6 F D3) T4 go) λr g ⟨u,hr,h6⟩=>?_
  subst hr;refine thn h6 λ_ O ⟨x,H7,I7,r7,y7,R1,fr7⟩=>?_;have I7':=I7.pinned (R6 F fr7)<|T.obj _ _ R1;refine thn (hg E C (D::Z) s3 w _ O _ H7 x u _ I7' r7<|hgk _ _ _ _<|Qp (Q:=In2 wi2 te W i n A)<|step x H7 y7) λ_ s8 ⟨σ8,H8,I8,q8,l8,k8⟩=>?_;have e8:σ8=(Vs ([x1,x2]:kQ).length ix U).set 0 (some x):=by exact q8.2
  replace q8:=q8.1;refine thn (S2 E C (D::Z) s3 w _ s8 σ8 H8 _ I8 q8) λv9 s9 h9=>thn h9 λjv P h10=>?_;obtain⟨F8,S,G3,J2,T1,ej,T0,T2,a,R7,W2,⟨F7,F3⟩,G2⟩:=h10;subst ej;rw[Around.mark_none];obtain⟨gD0,F6,_⟩:=T0.pin (D,oD) (by simp);have T7:∀b∈S,b≠D:=λb G z=>(R7 b G).2.2.2.2.2 (D,oD) (by simp) z.symm
  have cut:∀{H9:Hp}{σ9:St}{s9:Shared}{more:kM},Inv N (([(D,oD)]++ VN Z O.heap)++ more) σ9 H9 s9->Inv N (VN Z O.heap) σ9 H9 s9:=λ{H9 σ9 s9 more} I9=>
   I9.pins_of λp M=>I9.pin p<|ZU _<|vm _<|ZU _ M
  have R3:∀p∈N.pn++ VN Z O.heap,p.1≠D:=λp M=>by
   have q:p∈([]:kM)++ VN Z O.heap:=M;exact T6 _ (XJ<|by simpa using q).1
  have R5:∀{H9:Hp}{o9:Obj},(∀b∈S,H9 b=none)->∀b∈S,J1 N ([(D,o9)]++ VN Z O.heap) H9 b:=λ{H9 o9} hn b G=>by
   obtain⟨_,k1,k2,k3,k4,k5⟩:=R7 b G;refine⟨hn b G,k1,k2,k3,k4,λp M=>?_⟩
   have y:p=(D,o9)\/p∈VN Z O.heap:=by
    have q:p∈([]:kM)++ ([(D,o9)]++ VN Z O.heap):=M;simpa using q
   rcases y with rfl|y
   .exact (T7 b G).symm
   .exact k5 p (by
     show p∈([]:kM)++ ([(D,oD)]++ VN Z O.heap);simp[y])
  let R2:Result->Shared->Prop:=λr g=>match r with
   |.ok _=>∃m,m<n/\∃i A L R,Inv N [] (Vs ([x1,x2]:kQ).length ix U) R g/\tn i g.heap/\(∀b∈Z,R b=none)/\R D=none/\g.heap.PlainList D (List.toArray L)/\Vals A L/\W i m A R
   |.error _=>False
  have inner:∀(sA:Shared),(Inv N (VN Z O.heap) σ8 T1 sA/\G3 0 sA.heap/\sA.heap.PlainList D (List.toArray L))->codeAny (model X.prog X.w) X.A (.compLoop (two elt (.Name x1 p1) iter (.Name x2 p2) iter2 scope pos) 1 (.ref F8) (.ref D)<|compEnvC scope E C X.env) R2 sA:=λsA hA=>by
   refine LK (λk s'=>∃j h t R,Inv N (VN Z O.heap) σ8 R s'/\G3 j s'.heap/\(∀b∈S,R b=none)/\R D=none/\s'.heap.PlainList D (List.toArray t)/\Vals h t/\W2 j k h R) ?_ F7
    ⟨0,A,L,T1,hA.1,hA.2.1,λb G=>(R7 b G).1,F6,hA.2.2,v5,F3⟩
   rintro k sB ⟨j,h,t,HB,IB,T3,D0,dB,⟨nB,lB⟩,vB,wB⟩;obtain⟨F9,hcB⟩:=G2 j k h HB wB
   let oB:Obj:={cls:=.type "list",data:=.seq t.toArray nB}
   have F1:Inv N ([(D,oB)]++ VN Z O.heap) σ8 HB sB:=IB.pins_of λp M=>by
    rcases ZX.mp M with here|there
    .have e:p=(D,oB):=by simpa using here
     subst e;exact⟨lB,dB,dX,dF,λv z=>nomatch z⟩
    .exact IB.pin p (ZU _ there)
   rcases hcB with⟨M2,m',I3,wO⟩|⟨go2,O1⟩
   .refine thn (T2.done N rfl rfl rfl hc j _ sB _ HB _ F1 (R5 D0) T3 M2) λr sC ⟨hr,IC⟩=>?_
    subst hr
    obtain⟨gC,nC,_⟩:=IC.pin (D,oB) (by
     show(D,oB)∈([]:kM)++ ([(D,oB)]++ VN Z O.heap);simp)
    have R8:Inv N (VN Z O.heap) σ8 HB sC:=IC.pins_of λp M=>IC.pin p<|ZU _<|ZU _ M;refine⟨m',I3,i+1,h,t,HB,?_,?_,?_,nC,⟨nB,gC⟩,vB,wO⟩
    .refine Inv.weak (R8.pins_of (pins':=[]) λp M=>nomatch M) (by rw[l8]) λj v hj=>?_
     by_cases hlt:j<([x1,x2]:kQ).length
     .unfold Vs at hj
      rw[vd (by simpa using hlt),ju,Zp hlt]at hj;cases hj
     .have e:σ8[j]?=(Vs ([x1,x2]:kQ).length ix U)[j]?:=by
       have q:=congrArg (λl:List (pf)=>l[j-([x1,x2]:kQ).length]?) k8;simp only[qV]at q
       rwa [qO (jG hlt)]at q
      rw[e];exact hj
    .exact T.keep _ _ _ R1 λb G o e=>(R8.pin (b,o)<|ZU _<|Vr G e).1
    .intro b G
     obtain⟨o,e,d⟩:=T.obj _ _ R1 b G;exact(R8.pin (b,o)<|ZU _<|Vr G e).2.1
   .refine thn (T2.item N rfl rfl rfl hc j _ sB _ HB _ F1 (R5 D0) T3 go2) λr sC ⟨u2,hr,hC6⟩=>?_
    subst hr;refine thn hC6 λ_ sD ⟨y2,HD,ID,rD,yD,R0,frD⟩=>?_;have ID':=ID.pinned (R5 frD)<|T2.obj _ _ R0;refine thn (hg2 E C (D::Z) s3 w _ sD _ HD y2 u2 _ ID' rD<|Qp (Q:=λU H=>te U H λv H6=>∃c,c<k/\W2 (j+1) c (h++[v]) H6)<|O1 y2 HD yD) λ_ sE ⟨σE,HE,IE,qE⟩=>?_;have eE:σE=σ8.set 1 (some y2):=by exact qE.2
    replace qE:=qE.1;refine thn (he E C (D::Z) s3 w _ sE σE HE _ IE qE) λyv sF ⟨yy,HF,IF,rF,c,T8,wF⟩=>?_
    obtain⟨gD,nD,_⟩:=IF.pin (D,oB) (by
     show(D,oB)∈([]:kM)++ (([(D,oB)]++ VN Z O.heap)++ VN S sD.heap);simp)
    have T9:t.length=h.length:=vB.length.symm;refine qD (l:=D) (items:=t.toArray) ⟨nB,gD⟩ (λh' S1 I2=>?_) (by rw[ZO,T9];exact Zh F9);have kp:∀b o,b≠D->sF.heap.get? b=some o->h'.get? b=some o:=λb o G q=>(I2.2 b G).trans q;have IF':Inv N (VN Z O.heap) σE HF sF:=IF.pins_of λp M=>IF.pin p<|ZU _<|vm _<|ZU _ M;have IG:Inv N (VN Z O.heap) σE HF {sF with heap:=h',toks:=sF.toks}:=IF'.turned (it:=D) kp nD dX (.inl Za) (I.exf D Za).2 R3
    have at2:∀b∈S,∀o,sD.heap.get? b=some o->sF.heap.get? b=some o/\HF b=none:=λb G o q=>by
     have z:=IF.pin (b,o)<|ZU _<|ZU _<|Vr G q;exact⟨z.1,z.2.1⟩
    refine⟨c,T8,j+1,h++[yy],t++[yv],HF,?_,?_,?_,nD,?_,vB.append<|.cons rF .nil,wF⟩
    .refine Inv.weak IG (by rw[eE,List.length_set]) λq v hq=>?_
     rw[eE]
     have F5:q≠1:=λz=>by
      subst z;rw[e8]at hq;simp[Vs,List.getElem?_append]at hq
     rw[qC (Zs F5)];exact hq
    .exact T2.keep _ _ _ R0 λb G o q=>kp b o (T7 b G) (at2 b G o q).1
    .intro b G
     obtain⟨o,q,_⟩:=T2.obj _ _ R0 b G;exact(at2 b G o q).2
    .have e:(t++[yv]).toArray=t.toArray.push yv:=by simp
     rw[e];exact S1
  have T5:Inv N (VN Z O.heap) σ8 T1 P/\G3 0 P.heap/\P.heap.PlainList D (List.toArray L):=⟨T0.pins_of λp M=>T0.pin p<|ZU _<|ZU _ M,a,⟨nn,gD0⟩⟩;exact Na (inner P T5)<|T2.self _ 0 _ _ _ a<|inner P T5
def JF(own:kQ)(G:List Nat)(j:PI X tg iter wi)(R:GK own.length g)(y:∀M C L s H,PG (VR X (Vk X own G) scope M C L s H) tg g)(z:∀M C L s H,PE (VR X (Vk X own G) scope M C L s H) elt te)(t:X.calm=true:=by rfl)(Z:scope.kind=.function:=by rfl)(O:Uh scope X.env.scope.names X.N G=true:=by rfl)(P:∀x,foldedSetIterable iter X.env x=pure x:=by intro _;rfl):
  PE X (.ListComp elt [⟨tg,iter,[],0⟩] scope pos) (QU own.length G wi g te):=by
 intro T s U H Q I h;rw[eval_ListComp];exact WN own G j Z O P I h λM D C L v c J r u f B m k N S=>B.loop1 t R y z m (λd w p A F E q=>An A F E q) k N S
def Xy(own:kQ)(G:List Nat)(c:X.N.Nodup)(E:X.N[i0]?=some x0)(O:Loc X.env.scope x0)(z:PI X tg iter wi)(F:GK own.length g)(t:∀M C L s H,PG (VR X (Vk X own G) scope M C L s H) tg g)(k:∀M C L s H,PE (VR X (Vk X own G) scope M C L s H) elt te)(p:X.calm=true:=by rfl)(Z:scope.kind=.function:=by rfl)(T:Uh scope X.env.scope.names X.N G=true:=by rfl)(R:swapsWith (.ListComp elt [⟨tg,iter,[],0⟩] scope pos) (some<|.Name x0 py) spos.line X.env=pure true:=by rfl)(m:X.fn x0=true\/X.env.scope.names.lookup x0=some .local:=by first|exact .inl Y|exact .inr Y|assumption)(y:∀x,foldedSetIterable iter X.env x=pure x:=by intro _;rfl):
  PS X (.Assign [.Name x0 py] (.ListComp elt [⟨tg,iter,[],0⟩] scope pos) spos) (N8 (QU own.length G wi g te)<|Vv i0):=by
 intro A s U H i I h;exact MP R<|WN own G z Z T y I h λM D C L b v J o l r B d f N j=>B.loop1 p F t k d (λw e u Q P S q=>Dc c E O m Q P S q) f N j
def O0(own:kQ)(G:List Nat)(d:X.N.Nodup)(E:X.N[i0]?=some x0)(O:Loc X.env.scope x0)(t:PI X tg iter wi)(F:GK own.length g)(m:∀M C L s H,PG (VR X (Vk X own G) scope M C L s H) tg g)(A:∀M C L s H,PT (VR X (Vk X own G) scope M C L s H) ct tc)(p:∀M C L s H,PE (VR X (Vk X own G) scope M C L s H) elt te)(c:X.calm=true:=by rfl)(Z:scope.kind=.function:=by rfl)(T:Uh scope X.env.scope.names X.N G=true:=by rfl)(R:swapsWith (.ListComp elt [⟨tg,iter,[ct],0⟩] scope pos) (some<|.Name x0 py) spos.line X.env=pure true:=by rfl)(k:X.fn x0=true\/X.env.scope.names.lookup x0=some .local:=by first|exact .inl Y|exact .inr Y|assumption)(z:∀x,foldedSetIterable iter X.env x=pure x:=by intro _;rfl):
  PS X (.Assign [.Name x0 py] (.ListComp elt [⟨tg,iter,[ct],0⟩] scope pos) spos) (N8 (SH own.length G wi g tc te)<|Vv i0):=by
 intro S s U H n I h;exact MP R<|WN own G t Z T z I h λM D C L e w J i b l B f u N y=>B.loopI c F m A p f (λr o v j Q P q=>Dc d E O k j Q P q) u N y
def O2(L:List Nat)(f:X.N.Nodup)(A:X.N[i0]?=some x0)(O:Loc X.env.scope x0)(g:PI X (.Name x1 p1) iter wi)(k:∀G C Z s H,PG (VR X (Vk X [x1,x2] L) scope G C Z s H) (.Name x1 p1)<|Vv 0)(F:∀G C Z s H,PI (VR X (Vk X [x1,x2] L) scope G C Z s H) (.Name x2 p2) iter2 wi2)(S:∀G C Z s H,PG (VR X (Vk X [x1,x2] L) scope G C Z s H) (.Name x2 p2)<|Vv 1)(c:∀G C Z s H,PE (VR X (Vk X [x1,x2] L) scope G C Z s H) elt te)(d:X.calm=true:=by rfl)(M:scope.kind=.function:=by rfl)(E:Uh scope X.env.scope.names X.N L=true:=by rfl)(R:swapsWith (.ListComp elt [⟨.Name x1 p1,iter,[],0⟩,⟨.Name x2 p2,iter2,[],0⟩] scope pos) (some<|.Name x0 py) spos.line X.env=pure true:=by rfl)(p:X.fn x0=true\/X.env.scope.names.lookup x0=some .local:=by first|exact .inl Y|exact .inr Y|assumption)(m:∀x,foldedSetIterable iter X.env x=pure x:=by intro _;rfl)(T:∀P x,foldedSetIterable iter2 P x=pure x:=by intro _ _;rfl):
  PS X (.Assign [.Name x0 py] (.ListComp elt [⟨.Name x1 p1,iter,[],0⟩,⟨.Name x2 p2,iter2,[],0⟩] scope pos) spos) (N8 (SL L wi wi2 te)<|Vv i0):=by
 intro Q s U H a I h;exact MP R<|WN [x1,x2] L g M E m I h λG D C Z o r J n e b B u v N t=>B.loop2 d k F S c T u (λl i w z y j q=>Dc f A O p z y j q) v N t
end
def Dj(n:Nat)(L:Nat->List V->Hp->Prop)(t:L 0 [] H)(T:∀i Z H,L i Z H->Z.length<sizeLine)(A:∀i Z H,i<n->L i Z H->J.go i H)(M:∀Z H,L n Z H->J.stop n H)(X:∀i Z H x F (R:List V->Hp->Prop),i<n->L i Z H->J.yld i H x F->(∀G D,L (i+1) G D->R G D)->wi2 (s0.set 0<|some x) F λS D=>∃I:Nat->Nat->List V->Hp->Prop,(∃E,I 0 E Z D)/\∀j E G B,I j E G B->
   G.length<sizeLine/\((S.stop j B/\R G B)\/(S.go j B/\∀y U,S.yld j B y U->te ((s0.set 0<|some x).set 1<|some y) U λv g=>∃O,O<E/\I (j+1) O (G++[v]) g)))(hd:∀Z H p,L n Z H->H p=none->Q (.ref p) (upd H p<|.lst Z)):Du J wi2 te s0 Q H:=by
 refine⟨λi m Z H=>m=n-i/\i<=n/\L i Z H,⟨n,by simp,Zc _,t⟩,λi m Z H z=>?_⟩;obtain⟨rfl,k,p⟩:=z;exists T i Z H p;rcases jr i n with N|P
 .exact .inr ⟨A i Z H N p,λx F y=>X i Z H x F _ N p y λG D C=>⟨n-(i+1),by lia,rfl,N,C⟩⟩
 .have e:i=n:=by lia
  subst e;exact .inl ⟨M Z H p,λb q=>hd Z H b p q⟩
def LL{M:It}{S:TE}{U:St}{R:List V->Hp->Prop}(n:Nat)(J:Nat->List V->Hp->Prop)(g:J 0 X H3)(O:∀j Z H,J j Z H->Z.length<sizeLine)(A:∀j Z H,j<n->J j Z H->M.go j H)(G:∀Z H,J n Z H->M.stop n H)(q:∀j Z H y C (T:V->Hp->Prop),j<n->J j Z H->M.yld j H y C->(∀v B,J (j+1) (Z++[v]) B->T v B)->S (U.set 1<|some y) C T)(hd:∀Z H,J n Z H->R Z H):
  ∃I:Nat->Nat->List V->Hp->Prop,(∃E,I 0 E X H3)/\∀j E Z D,I j E Z D->
   Z.length<sizeLine/\((M.stop j D/\R Z D)\/(M.go j D/\∀y F,M.yld j D y F->S (U.set 1<|some y) F λv B=>∃N,N<E/\I (j+1) N (Z++[v]) B)):=by
 refine⟨λj m Z H=>m=n-j/\j<=n/\J j Z H,⟨n,by simp,Zc _,g⟩,λj m Z H z=>?_⟩;obtain⟨rfl,k,p⟩:=z;exists O j Z H p;rcases jr j n with L|t
 .exact .inr ⟨A j Z H L p,λy F P=>q j Z H y F _ L p P λv B Q=>⟨n-(j+1),by lia,rfl,L,Q⟩⟩
 .have e:j=n:=by lia
  subst e;exact .inl ⟨G Z H p,hd Z H p⟩
end L2
namespace L2
open PySem PySem.Spec PyProof.Rows
section
def Ci(K:W.Frag):List V->Hp->VK->Prop:=λZ H Q=>∃x T t b,Z=[x,.ty T]/\Xn K H x t/\W.kitOne K t (.type T)=some b/\Q (.bl b) H
def L1:UL X (.builtin "isinstance") (Ci X.K):=by
 intro J s U H L N Q I r h;obtain⟨x,T,t,b,rfl,ty,e,q⟩:=h;obtain⟨u,M,rfl,G,Z⟩:=vals2 r;cases Z;exact FL I G ty e λO=>⟨.bl b,H,I.tok _,Y,q⟩
theorem Tu:∀{Z:kQ}{J:kP},Vals (Z.map V.str) J->StrsAre J Z
 |[],_,r=>by cases r;exact .nil
 |y::Z,_,r=>by
  cases r with
  |cons h t=>
   obtain⟨G,e⟩:=h;subst e;exact .cons _ _<|Tu t
def rJoin(K:W.Frag):V->List V->Hp->VK->Prop:=λx J H Q=>∃z p Z,x=.str z/\J=[.ref p]/\SqL K H p (Z.map V.str)/\(Z.map (·.length)).sum+Z.length*z.length<=16777216/\Q (.str<|Txt.join z Z) H
def Pi:MtR X "str.join" (rJoin X.K):=by
 intro Z s U H x B v D Q I J G h;obtain⟨z,p,T,rfl,rfl,R,O,q⟩:=h;obtain⟨t,rfl⟩:=J;obtain⟨u,rfl,L⟩:=vals1 G;cases L;obtain⟨N,r,M,F⟩:=I.list R;exact join_list M.isList (by simpa using Tu r) O λE k=>⟨.str _,H,I.tok _,⟨_,Y⟩,q⟩
def Sy:V->List V->Hp->VK->Prop:=λx Z H Q=>∃z y i rest,x=.str z/\Z=[.str y]/\Builtin.Str.occurrences z y 0 z.length 1=i::rest/\Q (.int (i:Nat)) H
def LA:MtR X "str.index" Sy:=by
 intro Z s U H x M v N Q I J G h;obtain⟨z,y,i,rest,rfl,rfl,L,q⟩:=h;obtain⟨t,rfl⟩:=J;obtain⟨u,rfl,O,rfl⟩:=vals1 G;exact SC.index L ⟨.int _,H,I.tok _,⟨_,Y⟩,q⟩
def yk:V->Option Int->Option Int->Hp->VK->Prop:=λx Z J H Q=>∃z,x=.str z/\z.length<=sizeLine/\Q (.str<|Txt.slice z Z J) H
def Gr:SlR X yk:=by
 intro J s U H x v g m E C sl Q I B S D T h;obtain⟨z,rfl,A,q⟩:=h;obtain⟨t,rfl⟩:=B;exists "str",_,F.slot_str_getitem.lookup,typeIs_str _ _ _
 have Z:∀(l u:Option (Int×Tok)),l.map (·.1)=E->u.map (·.1)=C->s.heap.IsSlice sl l u none->wpAny (model X.prog X.w) X.A (getItem (.str z t)<|.ref sl) (EP X J U Q) X.xe s:=λl u y P O=>by
  subst y;subst P;exact wpAny_getItem_str_slice O Y (post_val_or_str ⟨Zb (Txt.slice_le z (l.map (·.1))<|u.map (·.1)) A,λp k=>⟨.str _,H,I.tok _,⟨_,rfl⟩,q⟩⟩)
 obtain⟨o,M,L,G⟩:=S
 cases D with
 |none=>
  cases T with
  |none=>exact Z none none Y Y ⟨o,M,L,G⟩
  |int j N=>exact Z none (some (j,N)) Y Y ⟨o,M,L,G⟩
 |int i R=>
  cases T with
  |none=>exact Z (some (i,R)) none Y Y ⟨o,M,L,G⟩
  |int j N=>exact Z (some (i,R)) (some (j,N)) Y Y ⟨o,M,L,G⟩
theorem Ww:∀{Z:List Bool}{J:kP},Vals (Z.map V.bl) J->∀(i:Nat)(v:Value),J[i]?=some v->∃b,Z[i]?=some b/\v=.bool b
 |[],_,r,i,v,e=>by cases r;simp at e
 |b::Z,_,r,i,v,e=>by
  cases r with
  |cons h t=>
   cases i with
   |zero=>
    have G:some _=some v:=e;cases G;exact⟨b,Y,h⟩
   |succ j=>exact Ww t j v e
def all_range:∀(Z:List Bool),((List.range Z.length).all λi=>(Z[i]?).getD true)=Z.all id:=λZ=>by
 have e:((List.range Z.length).map λi=>(Z[i]?).getD true)=Z:=List.ext_getElem (by simp) λi G J=>by simp[J]
 have z:=List.all_map (l:=List.range Z.length) (f:=λi=>(Z[i]?).getD true) (p:=id);rw[e]at z;exact z.symm
def Nq(E:X.calm=true):UL X (.builtin "all") (λM H Q=>∃(p:Addr)(J:List Bool),M=[.ref p]/\SqL X.K H p (J.map V.bl)/\Q (.bl<|J.all id) H):=by
 intro O s U H M C Q I r h;obtain⟨p,J,rfl,T,q⟩:=h;obtain⟨u,rfl,R⟩:=vals1 r;cases R;obtain⟨Z,N,L,P⟩:=I.list T
 have B:p<s.heap.objs.size:=by
  obtain⟨o,n,e,_⟩:=L;exact ZP e
 have G:Z.length=J.length:=by
  have:=N.length;rw[ZA]at this;exact this.symm
 refine call_all_walk<|qw L.isList ?_;exists s.heap.objs.size,_,_,Z.toArray.size,_,_,λi=>(J[i]?).getD true,Y,Walks.list (A:=X.A.in1) (I.ok.hd E) _ p (Ze B) Z.toArray,?_,?_
 .exact ⟨⟨_,ZY _ rfl,rfl,rfl⟩,L.isList.push _⟩
 .intro i v s' Q' E' hP hQ
  obtain⟨b,e,rfl⟩:=Ww N i v (by simpa using hP);have F:(J[i]?).getD true=b:=by rw[e];rfl
  exact vy<|F ▸ hQ
 .intro h' tk hk
  rw[ZO,G,all_range];refine⟨.bl<|J.all id,H,I.kept λb o e=>hk b o (λD=>?_)<|ZE _ e,rfl,q⟩;have S:b=s.heap.objs.size:=by simpa using D
  rw[S]at e;exact vw _<|ZP e
theorem Wz:∀{Z:kZ}{J:kP},Z.length=J.length->(∀(j:Nat)(x:V)(u:Value),Z[j]?=some x->J[j]?=some u->RelV x u)->Vals Z J
 |[],[],_,_=>.nil
 |[],_::_,h,_=>Zr h<|by simp
 |_::_,[],h,_=>Zr h<|by simp
 |x::Z,u::J,h,hr=>.cons (hr 0 x u rfl rfl)<|Wz (by simpa using h) λj a b L G=>hr (j+1) a b L G
def U6(b:X.calm=true):UL X (.type "list") (λE H Q=>∃a kvs,E=[.ref a]/\H a=some (.dK kvs)/\∀l,H l=none->Q (.ref l) (upd H l<|.lst<|kvs.map λZ=>kV Z.1)):=by
 intro S s U H E us Q I r h;obtain⟨a,kvs,rfl,e,q⟩:=h;obtain⟨u,rfl,m⟩:=vals1 r;cases m;obtain⟨C,g,F,A,hd⟩:=Eg I.hok e;obtain⟨ep,R⟩:=hd.dictAt;have J:=A.length;refine W.kdl_call (W.kdl_dict (knd:=VD X.prog X.w) (kvs:=F) (ep:=ep) g) (I.ok.hd b) R (by rw[<-J];exact C) λh' tk D c w v L=>?_;refine⟨.ref s.heap.objs.size,_,I.laid (o:=.lst<|kvs.map λZ=>kV Z.1) w (ZG _) ⟨by rw[ZA];exact C,D.toList,c,?_,by rw[Array.toArray_toList];exact v⟩,rfl,q _<|I.hok.fresh<|ZG _⟩;obtain⟨f,d⟩:=L;refine Wz (by simp[f,J]) λj x u M e2=>?_;obtain⟨k,y,p,O⟩:=d j u (by rw[<-Array.getElem?_toList];exact e2);rw[ZH]at M
 cases hkv:kvs[j]? with
 |none=>rw[hkv]at M;cases M
 |some Z=>
  rw[hkv]at M;cases M;have G:=A.keys;have P:(kvs.map (·.1))[j]?=(F.map (·.1))[j]?:=by rw[G]
  rw[ZH,ZH,hkv,p]at P;have n:Z.1=k:=ZT P;have N:JC Z.1 u=true:=by rw[n];exact O
  rcases VQ N with⟨i,t,B,T⟩|⟨z,t,B,T⟩
  .show RelV (kV Z.1) u
   rw[B,T];exact⟨t,Y⟩
  .show RelV (kV Z.1) u
   rw[B,T];exact⟨t,Y⟩
end
end L2
namespace PySem.W
open PySem PySem.Spec PyProof.Rows
end PySem.W
namespace PySem
open Sem (wp)
section
variable{prog:Program}{w:World}{A:Around}{E:Value->Shared->Prop}{h:Heap}{g:Array GenState}{d:Drawn}{t:Nat}{os:OsState}
variable{nm q:Str}{C N:Addr}{bs bm bmB:List Value}{hdct:Bool}{sn:List Str}{sub:List Value}{ab:Bool}{col:Option Bool}{dd:Option Addr}{k0 k1 k2 k3 k5:Option Value}{B newId initId:String}
end
end PySem
namespace PySem.W
open PySem PySem.Spec PyProof.Rows PySem.Builtin PySem.Builtin.ObjectAttr
end PySem.W
namespace L2
open PySem PySem.Spec PyProof.Rows
end L2
namespace PySem.W
open PySem PySem.Spec PyProof.Rows
end PySem.W
namespace PySem
section
variable{M:Model}{A:Around}{E:Value->Shared->Prop}{env:Env}
variable{nm q:Str}{C N:Addr}{bs bm:List Value}{hdct:Bool}{sn:List Str}{sub:List Value}{ab:Bool}{col:Option Bool}{dd:Option Addr}{k0 k1 k2 k3 k5:Option Value}{newId:String}
end
end PySem
namespace L2
open PySem PySem.Spec PyProof.Rows
def SI(tp:Bool)(h:Heap)(i l:Addr)(k:Nat)(xs:kX):Prop:=match tp with
 |false=>h.IsListIter i l k/\h.IsList l xs
 |true=>h.IsTupleIter i l k/\h.IsTuple l xs
def SI.to(z:SI J h i l k G)(Z:∀b o,(b=i\/b=l)->h.get? b=some o->L.get? b=some o):SI J L i l k G:=by
 cases J with
 |false=>exact⟨let⟨o,e,r⟩:=z.1;⟨o,Z _ _ (.inl Y) e,r⟩,let⟨o,e,r⟩:=z.2;⟨o,Z _ _ (.inr Y) e,r⟩⟩
 |true=>exact⟨let⟨o,e,r⟩:=z.1;⟨o,Z _ _ (.inl Y) e,r⟩,let⟨o,e,r⟩:=z.2;⟨o,Z _ _ (.inr Y) e,r⟩⟩
def SI.but(z:SI G h i l k J)(e:Heap.ExtBut b h L)(N:i≠b)(M:l≠b):SI G L i l k J:=
 z.to λc o Z q=>e c o (by rcases Z with Z|Z <;> rw[Z] <;> assumption) q
def Dw{a b:Sem α}{Q:α->Shared->Prop}(Z:c=false)(h:wpAny M A b Q E s):wpAny M A (if c=true then a else b) Q E s:=by
 subst Z
 rwa [Zq (by decide)]
section
def XF(z:SI R s.heap i l k O)(B:l≠i)(D:O[k]?=some x)(I:∀g,SI R g i l (k+1) O->Heap.SameBut i s.heap g->Q x {s with heap:=g}):wpAny (model prog w) A (Builtin.SmallTypes.nextOf<|.ref i) Q E s:=by
 cases R with
 |false=>exact wpAny_nextOf_list_item z.1 z.2 D λg a T=>I g ⟨a,z.2.extBut T.extBut B⟩ T
 |true=>
  obtain⟨G,N⟩:=z;obtain⟨C,J,M,Z⟩:=id G;obtain⟨U,L,_,X,S⟩:=id N;have sn:=F.slot_tuple_iterator_next;simp only[Builtin.SmallTypes.nextOf];refine Zl<|wpAny_callSpecial?_slot (name:=Str.ofString "__next__") G.typeIs sn<|vz sn G.typeIs F.entry_tuple_iterator_next ?_<|F.args_tuple_iterator_next_1 _;refine Zl (m:=field (.ref i) 0)<|Zo J Z (x:=.ref l) rfl (Dw (c:=Value.ref l==.none) rfl ?_);refine Zl (m:=field (.ref i) 1)<|Zo J Z (x:=.int k 0) rfl (Zl (m:=seqItems?<|.ref l)<|vW L S ?_);simp only[D,jP];refine Zl<|wpAny_setField J Z (by simp)<|Zm ⟨x,rfl,Zm<|I _ ⟨?_,?_⟩<|Heap.SameBut.update ..⟩
  .refine ⟨_,Heap.get?_update_self _ J<|Obj.isFreed_of_fields<|Obj.data_mapFields Z _,(Obj.cls_mapFields ..).trans M,?_⟩
   rw[Obj.data_mapFields Z];simp[rawInt]
  .exact N.extBut (Heap.SameBut.update ..).extBut B
def R9(N:A.handled=none)(z:SI B s.heap i l k T)(M:T[k]?=none)(O:∀g e,Heap.ExtBut i s.heap g->(∃o,g.get? e=some o/\o.cls=.type "StopIteration")->E (.ref e) {s with heap:=g}):wpAny (model prog w) A (Builtin.SmallTypes.nextOf<|.ref i) Q E s:=by
 cases B with
 |false=>exact wpAny_nextOf_list_end N z.1 z.2 M O
 |true=>
  obtain⟨G,R⟩:=z;obtain⟨C,Z,S,J⟩:=id G;obtain⟨U,L,_,X,I⟩:=id R;have sn:=F.slot_tuple_iterator_next;simp only[Builtin.SmallTypes.nextOf];refine Zl<|wpAny_callSpecial?_slot (name:=Str.ofString "__next__") G.typeIs sn<|vz sn G.typeIs F.entry_tuple_iterator_next ?_<|F.args_tuple_iterator_next_1 _;refine Zl (m:=field (.ref i) 0)<|Zo Z J (x:=.ref l) rfl (Dw (c:=Value.ref l==.none) rfl ?_);refine Zl (m:=field (.ref i) 1)<|Zo Z J (x:=.int k 0) rfl (Zl (m:=seqItems?<|.ref l)<|vW L I ?_);simp only[M,jP];refine Zl (jY<|Zl<|wpAny_setField Z J (by simp) ?_);refine Zl (m:=newExc (.type "StopIteration") []) ?_;simp only[newExc,newTuple];refine Zl (jw (Zl (m:=firstArgMember _ _)<|wpAny_of_eq (a:=.none) (by simp only[firstArgMember];rfl)<|jw ?_<|by size_fits)<|by size_fits);have D:A.in1.handled=none:=N;simp only[raiseNew];refine Zl<|wpAny_handled<|?_;rw[D];exact Zl<|Zm<|wpAny_throw<|O _ _ (((Heap.SameBut.update ..).extBut.push _).push _) ⟨_,ZY _ rfl,rfl⟩
structure ZS(h:Heap)(z TI TO:Addr)(f0:Value)(t1:Bool)(i1 l1:Addr)(xs:Array Value)(t2:Bool)(i2 l2:Addr)(ys:Array Value)(k:Nat):Prop where
 zip:IsZip h z TI TO f0
 its:IsPair h TI (.ref i1) (.ref i2)
 out:∃a b,IsPair h TO a b
 one:SI t1 h i1 l1 k xs
 two:SI t2 h i2 l2 k ys
def Dv{z TI TO G J t U:Addr}(D:ZipApart z TI TO G J t U)(S:ZS s.heap z TI TO .none t1 G t u t2 J U P k)(hx:u[k]?=some x)(hy:P[k]?=some y)(hQ:∀g,ZS g z TI TO (rawInt s.heap.objs.size) t1 G t u t2 J U P (k+1)->IsPair g s.heap.objs.size x y->g.objs.size=s.heap.objs.size+1->
   (∀c o,c≠z->c≠TO->c≠G->c≠J->s.heap.get? c=some o->g.get? c=some o)->Q (some<|.ref s.heap.objs.size) {s with heap:=g}):wpAny (model prog w) A (pyNext<|.ref z) Q E s:=by
 have hT:s.TypeIs (.ref z) "zip":=⟨_,S.zip,rfl⟩;obtain⟨a,b,So⟩:=S.out;simp only[pyNext];refine Zl<|qa<|wpAny_callSpecial?_slot (name:=Str.ofString "__next__") hT jt<|vz jt hT qF ?_<|qz _;refine Zl (m:=field (.ref z) 2)<|Zo S.zip rfl (x:=.bool false) rfl (Zl (m:=field (.ref z) 3)<|Zo S.zip rfl (x:=.ref TI) rfl (Zl<|vW S.its rfl ?_));refine Zl (m:=Builtin.SmallTypes.ownedTupleIsFree<|.ref z)<|Zl (m:=field (.ref z) 0)<|Zo S.zip rfl (x:=.none) rfl (Zm ?_);simp only[if_true];refine Zl (jY<|Zl<|Zo S.zip rfl (x:=.ref TO) rfl (Zl<|vq S.zip (by simp) λg1 f I=>Zl ?_));replace f:IsZip g1 z TI TO .ellipsis:=f;simp only[jA,qd,List.zipIdx_cons,List.zipIdx_nil];refine Zl<|Zl<|wpAny_onRaise (?_:wpAny _ _ (Builtin.SmallTypes.nextOf (.ref G) >>=_) _ _ _);refine Zl<|XF (S.one.but I.extBut D.i1z D.l1z) D.l1i1 hx λg2 a2 F=>Zm ?_;have o2:IsPair g2 TO a b:=F.extBut _ _ D.TOi1<|I.extBut _ _ D.TOz So;refine Zl<|vW o2 rfl ?_;refine Zl<|ky o2 λg3 l B=>?_;replace l:IsPair g3 TO x b:=l;refine Zl<|wpAny_letGo<|Zm<|Zl<|Zl<|wpAny_onRaise (?_:wpAny _ _ (Builtin.SmallTypes.nextOf (.ref J) >>=_) _ _ _);have b3:SI t2 g3 J U k P:=((S.two.but I.extBut D.i2z D.l2z).but F.extBut D.i12.symm D.l2i1).but B.extBut D.TOi2.symm D.l2TO;refine Zl<|XF b3 D.l2i2 hy λg4 b4 T=>Zm ?_;have o4:IsPair g4 TO x b:=T.extBut _ _ D.TOi2 l;refine Zl<|vW o4 rfl ?_;refine Zl<|ky o4 λZ j R=>?_;replace j:IsPair Z TO x y:=j;refine Zl<|wpAny_letGo<|Zm<|Zm<|Zl<|vW j rfl (Zl<|wpAny_newTuple ?_);have sz:Z.objs.size=s.heap.objs.size:=by rw[R.1,T.1,B.1,F.1,I.1]
 have n:IsZip Z z TI TO .ellipsis:=R.extBut _ _ D.TOz.symm<|T.extBut _ _ D.i2z.symm<|B.extBut _ _ D.TOz.symm<|F.extBut _ _ D.i1z.symm f
 have k5:∀c o,c≠z->c≠TO->c≠G->c≠J->s.heap.get? c=some o->Z.get? c=some o:=λc o L p c3 h e=>
  R.extBut _ _ p (T.extBut _ _ h<|B.extBut _ _ p<|F.extBut _ _ c3<|I.extBut _ _ L e)
 have a5:SI t1 Z G t (k+1) u:=((a2.but B.extBut D.TOi1.symm D.l1TO).but T.extBut D.i12 D.l1i2).but R.extBut D.TOi1.symm D.l1TO;have b5:SI t2 Z J U (k+1) P:=b4.but R.extBut D.TOi2.symm D.l2TO;have M:z<Z.objs.size:=ZP n;show wpAny _ _ (Builtin.SmallTypes.ownedTupleHandOut (.ref z) (.ref Z.objs.size) >>=_) _ _ _;refine Zl ?_;simp only[Builtin.SmallTypes.ownedTupleHandOut];have z6:IsZip (Z.push {cls:=.type "tuple",data:=.seq #[x,y]}) z TI TO .ellipsis:=ZE _ n;refine Zl<|vq z6 (by simp) λg7 d r=>?_;replace d:IsZip g7 z TI TO (rawInt Z.objs.size):=d;refine vq d (by simp) λC X v=>?_;replace X:IsZip C z TI TO (rawInt Z.objs.size):=X;have N:∀c o,c≠z->Z.get? c=some o->C.get? c=some o:=λc o L e=>v.extBut _ _ L<|r.extBut _ _ L<|ZE _ e;have t8:IsPair C Z.objs.size x y:=v.extBut _ _ (jp M)<|r.extBut _ _ (jp M)<|ZY _ rfl;have O:C.objs.size=Z.objs.size+1:=by rw[v.1,r.1,jd]
 rw[sz]at X t8 O;refine Zm ⟨_,Y,Zm ?_⟩;show Q (some<|.ref Z.objs.size) _;rw[sz];refine hQ C ⟨X,N _ _ D.TIz<|k5 _ _ D.TIz D.TITO D.TIi1 D.TIi2 S.its,⟨_,_,N _ _ D.TOz j⟩,?_,?_⟩ t8 O λc o L p c3 h e=>N c o L<|k5 c o L p c3 h e
 .exact a5.to λc o i e=>N c o (i.elim (λq=>q ▸ D.i1z) λq=>q ▸ D.l1z) e
 .exact b5.to λc o i e=>N c o (i.elim (λq=>q ▸ D.i2z) λq=>q ▸ D.l2z) e
def Fk{z TI TO O N v X:Addr}(r:A.handled=none)(D:ZipApart z TI TO O N v X)(S:ZS s.heap z TI TO .none t1 O v d t2 N X U k)(R:d[k]?=none\/U[k]?=none)(hQ:∀g,(∀c o,c≠z->c≠TO->c≠O->c≠N->s.heap.get? c=some o->g.get? c=some o)->Q none {s with heap:=g}):wpAny (model prog w) A (pyNext<|.ref z) Q E s:=by
 have l:s.TypeIs (.ref z) "zip":=⟨_,S.zip,rfl⟩;obtain⟨a,b,So⟩:=S.out;have stop:∀(g:Heap)(e:Addr),(∀c o,c≠z->c≠TO->c≠O->c≠N->s.heap.get? c=some o->g.get? c=some o)->(∃o,g.get? e=some o/\o.cls=.type "StopIteration")->
   wpAny (model prog w) A (do if(<-isInstance (.ref e) (.type "StopIteration"))then pure none else throw (.ref e):Sem (Option Value)) Q E {s with heap:=g}:=λg e n ⟨o,ho,hc⟩=>
  Zl (j9 (T:="StopIteration") (b:=true) ⟨o,ho,hc⟩ isSubtype_stop<|Zm<|hQ g n)
 simp only[pyNext];refine Zl<|qa<|wpAny_callSpecial?_slot (name:=Str.ofString "__next__") l jt<|vz jt l qF ?_<|qz _;refine Zl (m:=field (.ref z) 2)<|Zo S.zip rfl (x:=.bool false) rfl (Zl (m:=field (.ref z) 3)<|Zo S.zip rfl (x:=.ref TI) rfl (Zl<|vW S.its rfl ?_));refine Zl (m:=Builtin.SmallTypes.ownedTupleIsFree<|.ref z)<|Zl (m:=field (.ref z) 0)<|Zo S.zip rfl (x:=.none) rfl (Zm ?_);simp only[if_true];refine Zl (jY<|Zl<|Zo S.zip rfl (x:=.ref TO) rfl (Zl<|vq S.zip (by simp) λg1 F M=>Zl ?_));replace F:IsZip g1 z TI TO .ellipsis:=F;simp only[jA,qd,List.zipIdx_cons,List.zipIdx_nil];refine Zl<|Zl<|wpAny_onRaise (?_:wpAny _ _ (Builtin.SmallTypes.nextOf (.ref O) >>=_) _ _ _)
 cases hx:d[k]? with
 |none=>
  refine Zl<|R9 r (S.one.but M.extBut D.i1z D.l1z) hx λy e h P=>?_;obtain⟨C,Z,J⟩:=P;have p:IsZip y z TI TO .ellipsis:=h _ _ D.i1z.symm F;have G:e≠z:=λq=>by subst q;rw[p]at Z;cases Z;simp at J
  refine vq p (by simp) λj _ L=>?_;exact stop j e (λc o B _ c3 _ q=>L.extBut _ _ B<|h _ _ c3<|M.extBut _ _ B q) ⟨C,L.extBut _ _ G Z,J⟩
 |some x=>
  have hy:U[k]?=none:=by rcases R with q|q;rw[hx]at q;cases q;exact q
  refine Zl<|XF (S.one.but M.extBut D.i1z D.l1z) D.l1i1 hx λy a2 I=>Zm ?_;have u:IsPair y TO a b:=I.extBut _ _ D.TOi1<|M.extBut _ _ D.TOz So;refine Zl<|vW u rfl ?_;refine Zl<|ky u λj o3 L=>?_;refine Zl<|wpAny_letGo<|Zm<|Zl<|Zl<|wpAny_onRaise (?_:wpAny _ _ (Builtin.SmallTypes.nextOf (.ref N) >>=_) _ _ _);have b3:SI t2 j N X k U:=((S.two.but M.extBut D.i2z D.l2z).but I.extBut D.i12.symm D.l2i1).but L.extBut D.TOi2.symm D.l2TO;refine Zl<|R9 r b3 hy λg4 e i P=>?_;obtain⟨C,Z,J⟩:=P;have t:IsZip g4 z TI TO .ellipsis:=i _ _ D.i2z.symm<|L.extBut _ _ D.TOz.symm<|I.extBut _ _ D.i1z.symm F;have G:e≠z:=λq=>by subst q;rw[t]at Z;cases Z;simp at J
  refine vq t (by simp) λg5 _ f=>?_;exact stop g5 e (λc o B c2 c3 c4 q=>f.extBut _ _ B<|i _ _ c4<|L.extBut _ _ c2<|I.extBut _ _ c3<|M.extBut _ _ B q) ⟨C,f.extBut _ _ G Z,J⟩
def Wk(tp:Bool)(h:Heap)(l:Addr)(xs:kX):Prop:=match tp with
 |false=>h.IsList l xs
 |true=>h.IsTuple l xs
def Jj(tp:Bool)(l:Addr):Obj:={cls:=.type<|if tp then "tuple_iterator" else "list_iterator",data:=.fields #[.ref l,.int 0 0]}
def W9(h:Wk Z s.heap l J)(q:Q (.ref s.heap.objs.size) {s with heap:=s.heap.push (Jj Z l)}):wpAny (model prog w) A (pyIter<|.ref l) Q E s:=by
 cases Z with
 |false=>exact qw h q
 |true=>exact wpAny_pyIter_tuple h q
def Wk.push(z:Wk Z h l J)(o:Obj):Wk Z (h.push o) l J:=by
 cases Z with
 |false=>exact Heap.IsList.push z o
 |true=>exact Heap.IsTuple.push z o
end
abbrev zg1(h:Heap)(t1:Bool)(l1:Addr):Heap:=h.push (Jj t1 l1)
abbrev zg2(h:Heap)(t1:Bool)(l1:Addr)(t2:Bool)(l2:Addr):Heap:=(zg1 h t1 l1).push (Jj t2 l2)
abbrev zg3(h:Heap)(t1:Bool)(l1:Addr)(t2:Bool)(l2:Addr):Heap:=(zg2 h t1 l1 t2 l2).push {cls:=.type "tuple",data:=.seq #[.ref h.objs.size,.ref (zg1 h t1 l1).objs.size]}
abbrev zg4(h:Heap)(t1:Bool)(l1:Addr)(t2:Bool)(l2:Addr):Heap:=(zg3 h t1 l1 t2 l2).push {cls:=.type "tuple",data:=.seq #[.none,.none]}
abbrev zg5(h:Heap)(t1:Bool)(l1:Addr)(t2:Bool)(l2:Addr):Heap:=(zg4 h t1 l1 t2 l2).push {cls:=.type "zip",data:=.fields #[.none,.bool false,.bool false,.ref (zg2 h t1 l1 t2 l2).objs.size,.ref (zg3 h t1 l1 t2 l2).objs.size]}
def N0(J L:Bool)(Z G:Addr)(N M:kX):
  Meets (Builtin.«zip.__new__» ⟨[.type "zip",.ref Z,.ref G],[]⟩) (λ_ R s=>Wk J s.heap Z N/\Wk L s.heap G M/\
   R (.ok<|.ret<|.ref (zg4 s.heap J Z L G).objs.size) {s with heap:=zg5 s.heap J Z L G}):=
 .of_wp λT w A R s h=>by
  obtain⟨E,g,d,O,B⟩:=s;obtain⟨U,S,h⟩:=h;have D:=sub_zip;have I:Wk J (Shared.heap ⟨E,g,d,O,B⟩) Z N:=U;have F:Wk L (Shared.heap ⟨E.push<|Jj J Z,g,d,O,B⟩) G M:=Wk.push S _
  wp_walk using W9 I,W9 F
  exact⟨_,Y,h⟩
def SJ(tp:Bool)(h:Heap)(i l:Addr)(k:Nat):Prop:=match tp with
 |false=>h.IsListIter i l k
 |true=>h.IsTupleIter i l k
def SJ.si(z:SJ Z h i l k)(c:Wk Z h l J):SI Z h i l k J:=by
 cases Z <;> exact⟨z,c⟩
def SI.sj(z:SI Z h i l k J):SJ Z h i l k:=by
 cases Z <;> exact z.1
def SJ.to(z:SJ Z h i l k)(J:∀o,h.get? i=some o->G.get? i=some o):SJ Z G i l k:=by
 cases Z with
 |false=>exact let⟨o,e,r⟩:=z;⟨o,J _ e,r⟩
 |true=>exact let⟨o,e,r⟩:=z;⟨o,J _ e,r⟩
def SJ.obj(z:SJ Z h i l k):∃o,h.get? i=some o/\∀v,o.data≠.cell v:=by
 cases Z with
 |false=>obtain⟨o,e,_,d⟩:=z;exact⟨o,e,λv q=>by rw[d]at q;cases q⟩
 |true=>obtain⟨o,e,_,d⟩:=z;exact⟨o,e,λv q=>by rw[d]at q;cases q⟩
def SJ.new(Z:Bool)(h:Heap)(l:Addr):SJ Z (h.push<|Jj Z l) h.objs.size l 0:=by
 cases Z <;> exact⟨_,ZY _ Y,Y,Y⟩
structure ZR(h:Heap)(z TI TO:Addr)(t1:Bool)(i1 l1:Addr)(t2:Bool)(i2 l2:Addr)(k:Nat):Prop where
 zip:IsZip h z TI TO .none
 its:IsPair h TI (.ref i1) (.ref i2)
 out:∃a b,IsPair h TO a b
 one:SJ t1 h i1 l1 k
 two:SJ t2 h i2 l2 k
section
def Np(U:Wk t1 s.heap l1 D)(S:Wk t2 s.heap l2 B)(h:∀g,ZR g (s.heap.objs.size+4) (s.heap.objs.size+2) (s.heap.objs.size+3) t1 s.heap.objs.size l1 t2 (s.heap.objs.size+1) l2 0->
   (∀c o,s.heap.get? c=some o->g.get? c=some o)->Q (.ref<|s.heap.objs.size+4) {s with heap:=g}):wpAny (model prog w) A (call (.type "zip") [.ref l1,.ref l2]) Q E s:=by
 refine callType_new F.called_zip (by decide) (F.typeCall_zip_2 _ _) (F.newCall_zip_2 _ _) (λJ=>F.args_object_init_3 J _ _) F.entry_zip_new (N0 t1 t2 l1 l2 D B) ⟨U,S,?_⟩;have M:(zg1 s.heap t1 l1).objs.size=s.heap.objs.size+1:=jd ..;have L:(zg2 s.heap t1 l1 t2 l2).objs.size=s.heap.objs.size+2:=by rw[jd,M]
 have G:(zg3 s.heap t1 l1 t2 l2).objs.size=s.heap.objs.size+3:=by rw[jd,L]
 have T:(zg4 s.heap t1 l1 t2 l2).objs.size=s.heap.objs.size+4:=by rw[jd,G]
 have Z:(zg5 s.heap t1 l1 t2 l2).get? (zg4 s.heap t1 l1 t2 l2).objs.size=some _:=ZY _ rfl;have N:(zg5 s.heap t1 l1 t2 l2).get? (zg3 s.heap t1 l1 t2 l2).objs.size=some _:=ZE _<|ZY _ rfl;have O:(zg5 s.heap t1 l1 t2 l2).get? (zg2 s.heap t1 l1 t2 l2).objs.size=some _:=ZE _<|ZE _<|ZY _ rfl;have R:SJ t2 (zg5 s.heap t1 l1 t2 l2) (zg1 s.heap t1 l1).objs.size l2 0:=(SJ.new t2 (zg1 s.heap t1 l1) l2).to λo q=>ZE _<|ZE _<|ZE _ q;have I:SJ t1 (zg5 s.heap t1 l1 t2 l2) s.heap.objs.size l1 0:=(SJ.new t1 s.heap l1).to λo q=>ZE _<|ZE _<|ZE _<|ZE _ q;show _/\_;rw[L,G,T]at Z;rw[M,L]at O;rw[G]at N;rw[M]at R;rw[T]
 exact⟨⟨_,Z,Y⟩,h _ ⟨Z,O,⟨_,_,N⟩,I,R⟩ λc o q=>
  ZE _ (ZE _<|ZE _<|ZE _<|ZE _ q)⟩
end
def Sq(K:W.Frag)(tp:Bool)(H:Hp)(l:Addr)(xs:kZ):Prop:=match tp with
 |false=>SqL K H l xs
 |true=>SqT K H l xs
def Inv.sq(I:Inv X G U H s)(h:Sq X.K J H l L):∃Z:kP,Vals L Z/\Wk J s.heap l Z.toArray:=by
 cases J with
 |false=>
  obtain⟨Z,r,p,_⟩:=I.list h;exact⟨Z,r,p.isList⟩
 |true=>
  obtain⟨Z,r,p,_⟩:=I.tuple h;exact⟨Z,r,p⟩
def Inv.sq_inj(I:Inv X J U H s)(h:Sq X.K Z H l M)(G:Sq X.K Z H l L):M=L:=by
 cases Z with
 |false=>exact I.list_inj h G
 |true=>exact I.tuple_inj h G
def Wk.lt(z:Wk Z h l J):l<h.objs.size:=by
 cases Z with
 |false=>obtain⟨_,e,_⟩:=z;exact ZP e
 |true=>obtain⟨_,e,_⟩:=z;exact ZP e
def Itz(K:W.Frag)(t1:Bool)(l1:Addr)(t2:Bool)(l2:Addr):It:=
  ⟨λi H=>∃J Z x y,Sq K t1 H l1 J/\Sq K t2 H l2 Z/\J[i]?=some x/\Z[i]?=some y,
   λi H v G=>∃p x y,v=.ref p/\H p=none/\G=upd H p (.tup [x,y])/\(∀J,Sq K t1 H l1 J->J[i]?=some x)/\∀Z,Sq K t2 H l2 Z->Z[i]?=some y,
   λi H=>∃J Z,Sq K t1 H l1 J/\Sq K t2 H l2 Z/\(J.length<=i\/Z.length<=i)⟩
def RQ:bootBuiltins "zip"=some (.type "zip"):=by decide +kernel
def Inv.turnedL{ch:kU}(I:Inv X Z U H s)(k:∀b o,b∉ch->s.heap.get? b=some o->O.get? b=some o)(f:∀b∈ch,J1 X Z H b):
  Inv X Z U H {s with heap:=O,toks:=t'}:=by
 have L:∀b u,H b=some u->b∉ch:=λb u e z=>by rw[(f b z).1]at e;cases e
 have M:X.env.locals∉ch:=λz=>(f _ z).2.1 rfl;refine I.step (g':=s.gens) (d':=s.drawn) (ch:=ch) (λb G=>⟨(f b G).2.2.2.1,(f b G).2.1,(f b G).2.2.2.2.1,(f b G).2.2.2.2.2⟩) (λb o _ _ J e _=>k b o J e) (λb o _ _ J e _=>⟨o.slots,k b o J e⟩) (λ_ _ _ _ n=>n)
  (λb o J e=>⟨o,k b o J e⟩) (λ_ _ e=>e) (λ_ _ _ e=>e) (λb R e=>⟨#[],by rw[e];simp⟩) (λm N=>?_) (λb u e=>?_) I.bare
 .obtain ⟨o,es,ep,ho,r⟩:=N
  exact⟨o,es,ep,k _ o M ho,r⟩
 .refine (I.hok b u e).stay (λc v J q=>k c v ?_ q) (λ_ q=>q) λ_ _ q=>q
  rcases J with z|z
  .rw [z];exact L b u e
  .exact L c _ z
def zI{a b c d x:Addr}(h:x∈ [a,b,c,d]):x=a\/x=b\/x=c\/x=d:=by simpa using h
def Fy{P:Program}{w:World}{K:W.Frag}{B:pB}{x1}{r:Pos}{z TI TO L G l1 l2:Addr}{t1 t2:Bool}(D:ZipApart z TI TO L G l1 l2):
  Turn P w K (.Tuple B x1 r) (Itz K t1 l1 t2 l2) [z,TO,L,G,TI] z (λi h=>ZR h z TI TO t1 L l1 t2 G l2 i) where
 mem:=by simp
 obj:=λi h st b Z=>by
  have q:b=z\/b=TO\/b=L\/b=G\/b=TI:=by simpa using Z
  rcases q with q|q|q|q|q <;> rw[q]
  .exact ⟨_,st.zip,λv e=>nomatch e⟩
  .obtain ⟨a,b,e⟩:=st.out
   exact⟨_,e,λv e=>nomatch e⟩
  .exact st.one.obj
  .exact st.two.obj
  .exact ⟨_,st.its,λv e=>nomatch e⟩
 keep:=λi h h' st k=>⟨k z (by simp) _ st.zip,k TI (by simp) _ st.its,let⟨a,b,e⟩:=st.out;⟨a,b,k TO (by simp) _ e⟩,st.one.to λo e=>k L (by simp) o e,st.two.to λo e=>k G (by simp) o e⟩
 item:=by
  intro X hP hw hK hc i J s U H E I C st hg;subst hP hw hK;obtain⟨xs,ys,x,y,S,A,hx,hy⟩:=hg;obtain⟨R,u,j⟩:=I.sq S;obtain⟨O,d,Q⟩:=I.sq A;obtain⟨m,G2,c⟩:=u.get hx;obtain⟨t,G1,p⟩:=d.get hy;refine Dv D ⟨st.zip,st.its,st.out,st.one.si j,st.two.si Q⟩ (x:=m) (y:=t) (by simpa using G2) (by simpa using G1) λg F hp sz kp=>?_
  have f:∀b∈ [z,TO,L,G],J1 X J H b:=λb Z=>C b (by
   rcases zI Z with q|q|q|q <;> rw[q] <;> simp)
  have J2:∀b o,b ∉ [z,TO,L,G]->s.heap.get? b=some o->g.get? b=some o:=λb o Z e=>kp b o (λq=>Z<|by simp[q]) (λq=>Z<|by simp[q]) (λq=>Z<|by simp[q]) (λq=>Z<|by simp[q]) e;have I1:Inv X J U H {s with heap:=g}:=I.turnedL (t':=s.toks) J2 f;have hn:H s.heap.objs.size=none:=I.hok.fresh<|ZG _;have N:z<s.heap.objs.size:=ZP st.zip;exists _,Y;refine wpAny_letOwnedTupleGo_zip (s:={s with heap:=g}) F.zip λg2 z2 M=>?_
  have I2:Inv X J U H {s with heap:=g2}:=I1.turnedL (s:={s with heap:=g}) (t':=s.toks) (ch:=[z]) (λb o Z e=>M.extBut b o (λq=>Z<|by simp[q]) e) λb Z=>by
   have q:b=z:=by simpa using Z
   rw[q];exact f z<|by simp
  have l:IsPair g2 s.heap.objs.size m t:=M.extBut _ _ (jp N) hp;have I3:Inv X J U (upd H s.heap.objs.size<|.tup [x,y]) {s with heap:=g2}:=I2.retrack hn (I.fpOk (ZG _) hn) ⟨sl 2,[m,t],.cons c<|.cons p .nil,⟨_,l,rfl,rfl,_,rfl⟩⟩
  have n:∀b∈ [z,TO,L,G,TI],b<s.heap.objs.size:=λb Z=>by
   have q:b=z\/b=TO\/b=L\/b=G\/b=TI:=by simpa using Z
   rcases q with q|q|q|q|q <;> rw[q]
   .exact N
   .obtain ⟨a,b,e⟩:=st.out
    exact ZP e
   .obtain ⟨o,e,_⟩:=st.one.obj
    exact ZP e
   .obtain ⟨o,e,_⟩:=st.two.obj
    exact ZP e
   .exact ZP st.its
  refine⟨.ref s.heap.objs.size,_,I3,Y,⟨_,x,y,Y,hn,Y,λzs h=>by rw[I.sq_inj h S];exact hx,λzs h=>by rw[I.sq_inj h A];exact hy⟩,?_,λb Z=>?_⟩
  .refine ⟨z2,M.extBut _ _ D.TIz F.its,let⟨a,b,e⟩:=F.out;⟨a,b,M.extBut _ _ D.TOz e⟩,F.one.sj.to λo e=>M.extBut _ _ D.i1z e,F.two.sj.to λo e=>M.extBut _ _ D.i2z e⟩
  .rw [Yg (Ze<|n b Z)]
   exact(C b Z).1
 done:=by
  intro X hP hw hK hc i J s U H E I C st hg;subst hP hw hK;obtain⟨xs,ys,S,A,T⟩:=hg;obtain⟨R,u,j⟩:=I.sq S;obtain⟨O,d,Q⟩:=I.sq A;have e1:=u.length;have e2:=d.length;refine Fk (I.ok.hd hc) D ⟨st.zip,st.its,st.out,st.one.si j,st.two.si Q⟩ ?_ λg kp=>⟨Y,?_⟩
  .rcases T with q|q
   .exact .inl (by simp;lia)
   .exact .inr (by simp;lia)
  .refine I.turnedL (t':=s.toks) (ch:=[z,TO,L,G]) (λb o Z e=>kp b o (λq=>Z<|by simp[q]) (λq=>Z<|by simp[q]) (λq=>Z<|by simp[q]) (λq=>Z<|by simp[q]) e) λb Z=>C b (by
    rcases zI Z with q|q|q|q <;> rw[q] <;> simp)
 self:=λ_ _ _ _ _ st h=>wpAny_pyIter_zip st.zip h
def zap(n J Z:Nat)(M:J<n)(L:Z<n):ZipApart (n+4) (n+2) (n+3) n (n+1) J Z:=by
 constructor <;> (intro q;have G:(_:Nat)=_:=q;lia)
def yz(K:W.Frag)(ta:TA):TI:=λU H R=>ta U H λN Z=>∃a b G J M L,N=[.ref a,.ref b]/\Sq K G Z a M/\Sq K J Z b L/\R (Itz K G a J b) Z
def S4(f:Gl X "zip")(d:X.mg "zip"=none)(w:PA X [a,b] ta)(c:starEach [a,b] X.env=[(false,eval a X.env),(false,eval b X.env)]:=by rfl)(G:starEach [b] X.env=[(false,eval b X.env)]:=by rfl):PI X (.Tuple elts x1 tpos) (.Call (.Name "zip" p) [a,b] [] pos) (yz X.K ta):=by
 intro J s U H R I h;refine Call_ (U2 I f d RQ<|ja (thn (w pos J s U H _ I h) λx Z ⟨n,A,M,j,O⟩=>?_) (by rw[c,G]) (by rw[G];rfl));obtain⟨l1,l2,t1,t2,o,l,e,O,y,q⟩:=O;subst e;obtain⟨u,i,rfl,C,N⟩:=vals2 j;cases C;cases N;obtain⟨F,Q,B⟩:=M.sq O;obtain⟨E,P,T⟩:=M.sq y;have m:=B.lt;have t:=T.lt;refine Np B T λg S k=>?_;refine wpAny_pyIter_zip (s:={Z with heap:=g}) S.zip ?_;have D:=zap _ _ _ m t;have r:Inv X J U A {Z with heap:=g}:=M.kept (t':=Z.toks) k;refine⟨_,[Z.heap.objs.size+4,Z.heap.objs.size+3,Z.heap.objs.size,Z.heap.objs.size+1,Z.heap.objs.size+2],_,_,A,Y,r,Fy D,S,λb v=>?_,q⟩
 have L:Z.heap.objs.size<=b:=by
  have z:b=Z.heap.objs.size+4\/b=Z.heap.objs.size+3\/b=Z.heap.objs.size\/b=Z.heap.objs.size+1\/b=Z.heap.objs.size+2:=by simpa using v
  rcases z with z|z|z|z|z <;> rw[z] <;> first|exact ZG _|exact je _ _
 exact M.fpOk L<|M.hok.fresh L
inductive Dat where
 |non|bl (b:Bool)|int (i:Int)|str (x:Str)|tup (ds:List Dat)|lst (ds:List Dat)
abbrev ph:=List Dat
mutual
def Has(H:Hp):V->Dat->Prop
 |v,.non=>v=.non
 |v,.bl b=>v=.bl b
 |v,.int i=>v=.int i
 |v,.str x=>v=.str x
 |v,.tup ds=>∃a xs,v=.ref a/\H a=some (.tup xs)/\HasL H xs ds
 |v,.lst ds=>∃a xs,v=.ref a/\H a=some (.lst xs)/\HasL H xs ds
def HasL(H:Hp):List V->List Dat->Prop
 |[],[]=>True
 |x::xs,d::ds=>Has H x d/\HasL H xs ds
 |_::_,[]=>False
 |[],_::_=>False
end
mutual
theorem Has.mono{H M:Hp}(e:Same H M):∀(d:Dat){v:V},Has H v d->Has M v d
 |.non,_,h=>by unfold Has at h |-;exact h
 |.bl _,_,h=>by unfold Has at h |-;exact h
 |.int _,_,h=>by unfold Has at h |-;exact h
 |.str _,_,h=>by unfold Has at h |-;exact h
 |.tup ds,_,h=>by
  unfold Has at h |-;obtain⟨a,Z,L,G,J⟩:=h;exact⟨a,Z,L,e _ _ G,HasL.mono e ds J⟩
 |.lst ds,_,h=>by
  unfold Has at h |-;obtain⟨a,Z,L,G,J⟩:=h;exact⟨a,Z,L,e _ _ G,HasL.mono e ds J⟩
theorem HasL.mono{H G:Hp}(e:Same H G):∀(Z:ph){J:kZ},HasL H J Z->HasL G J Z
 |[],[],h=>by unfold HasL;trivial
 |[],_::_,h=>by unfold HasL at h;exact h.elim
 |_::_,[],h=>by unfold HasL at h;exact h.elim
 |d::Z,x::J,h=>by
  unfold HasL at h |-;exact⟨Has.mono e d h.1,HasL.mono e Z h.2⟩
end
theorem HasL.length:∀{J:ph}{Z:kZ},HasL H Z J->Z.length=J.length
 |[],[],h=>rfl
 |[],_::_,h=>by unfold HasL at h;exact h.elim
 |_::_,[],h=>by unfold HasL at h;exact h.elim
 |d::J,x::Z,h=>by
  unfold HasL at h;rw[Zf,Zf,HasL.length h.2]
theorem HasL.get:∀{J:ph}{Z:kZ}{i:Nat}{x:V},HasL H Z J->Z[i]?=some x->∃d,J[i]?=some d/\Has H x d
 |[],[],i,x,h,e=>by simp at e
 |[],_::_,_,_,h,_=>by unfold HasL at h;exact h.elim
 |_::_,[],_,_,h,_=>by unfold HasL at h;exact h.elim
 |d::J,y::Z,0,x,h,e=>by
  unfold HasL at h;have G:some y=some x:=e;cases G;exact⟨d,Y,h.1⟩
 |d::J,y::Z,i+1,x,h,e=>by
  unfold HasL at h;exact HasL.get (i:=i) h.2 e
theorem HasL.append:∀{L G:ph}{J Z:kZ},HasL H J L->HasL H Z G->HasL H (J++ Z) (L++ G)
 |[],_,[],_,_,h=>h
 |[],_,_::_,_,h,_=>by unfold HasL at h;exact h.elim
 |_::_,_,[],_,h,_=>by unfold HasL at h;exact h.elim
 |d::L,G,x::J,Z,h,h'=>by
  unfold HasL at h;show HasL H (x::(J++ Z)) (d::(L++ G));unfold HasL;exact⟨h.1,HasL.append h.2 h'⟩
abbrev Z7:=@HasL.append
def HasL.one(h:Has H x d):HasL H [x] [d]:=by
 unfold HasL;exact⟨h,by unfold HasL;trivial⟩
abbrev Z5:=@HasL.one
def HasL.nil:HasL H [] []:=by unfold HasL;trivial
abbrev Z6:=@HasL.nil
def HasL.cons(h:Has H x d)(t:HasL H Z J):HasL H (x::Z) (d::J):=by
 unfold HasL;exact⟨h,t⟩
abbrev Z4:=@HasL.cons
mutual
theorem Has.inj{H:Hp}:∀(d Z:Dat){v:V},Has H v d->Has H v Z->d=Z
 |.non,Z,_,h,h'=>by
  unfold Has at h;subst h;cases Z <;> unfold Has at h' <;> first|(obtain⟨_,_,q,_⟩:=h';cases q;done)|rfl|(cases h';done)
 |.bl _,Z,_,h,h'=>by
  unfold Has at h;subst h;cases Z <;> unfold Has at h' <;> first|(obtain⟨_,_,q,_⟩:=h';cases q;done)|(cases h';done)|(cases h';rfl)
 |.int _,Z,_,h,h'=>by
  unfold Has at h;subst h;cases Z <;> unfold Has at h' <;> first|(obtain⟨_,_,q,_⟩:=h';cases q;done)|(cases h';done)|(cases h';rfl)
 |.str _,Z,_,h,h'=>by
  unfold Has at h;subst h;cases Z <;> unfold Has at h' <;> first|(obtain⟨_,_,q,_⟩:=h';cases q;done)|(cases h';done)|(cases h';rfl)
 |.tup ds,Z,_,h,h'=>by
  unfold Has at h;obtain⟨a,B,T,L,R⟩:=h;subst T
  cases Z with
  |tup M=>
   unfold Has at h';obtain⟨b,O,G,J,N⟩:=h';cases G;rw[L]at J;cases J;rw[HasL.inj ds M R N]
  |lst M=>
   unfold Has at h';obtain⟨b,O,G,J,N⟩:=h';cases G;rw[L]at J;cases J
  |_=>unfold Has at h';cases h'
 |.lst ds,Z,_,h,h'=>by
  unfold Has at h;obtain⟨a,B,T,L,R⟩:=h;subst T
  cases Z with
  |lst M=>
   unfold Has at h';obtain⟨b,O,G,J,N⟩:=h';cases G;rw[L]at J;cases J;rw[HasL.inj ds M R N]
  |tup M=>
   unfold Has at h';obtain⟨b,O,G,J,N⟩:=h';cases G;rw[L]at J;cases J
  |_=>unfold Has at h';cases h'
theorem HasL.inj{H:Hp}:∀(G J:ph){Z:kZ},HasL H Z G->HasL H Z J->G=J
 |[],[],_,_,_=>rfl
 |[],_::_,Z,h,h'=>by
  cases Z <;> unfold HasL at h h'
  .exact h'.elim
  .exact h.elim
 |_::_,[],Z,h,h'=>by
  cases Z <;> unfold HasL at h h'
  .exact h.elim
  .exact h'.elim
 |d::G,e::J,Z,h,h'=>by
  cases Z with
  |nil=>unfold HasL at h;exact h.elim
  |cons x Z=>
   unfold HasL at h h';rw[Has.inj d e h.1 h'.1,HasL.inj G J h.2 h'.2]
end
theorem LU{K:W.Frag}:∀{d:Dat},Has H v d->Xn K H v (.type<|match d with|.non=>"NoneType"|.bl _=>"bool"|.int _=>"int"|.str _=>"str"|.tup _=>"tuple"|.lst _=>"list")
 |.non,h=>by unfold Has at h;subst h;exact .non
 |.bl _,h=>by unfold Has at h;subst h;exact .bl _
 |.int _,h=>by unfold Has at h;subst h;exact .int _
 |.str _,h=>by unfold Has at h;subst h;exact .str _
 |.tup _,h=>by unfold Has at h;obtain⟨a,Z,rfl,e,_⟩:=h;exact .tup e
 |.lst _,h=>by unfold Has at h;obtain⟨a,Z,rfl,e,_⟩:=h;exact .lst e
end L2
namespace L2
open PySem
def P3{K:PySem.W.Frag}{a:Addr}{xs:kZ}{g:TG}{L:TS}{D:Ends}{U:St}{H:Hp}(Z:pc)(I:Z 0 U H)(A:∀i U H,i<=xs.length->Z i U H->SqL K H a xs)(F:∀(B:pe)(R:VK) i x U H,xs[i]?=some x->Z i U H->g x U H fun σ2 G=>L {nx:=Z<|i+1,rt:=R,bk:=B,ct:=Z (i+1)} σ2 G)(hd:∀U H,Z xs.length U H->D.nx U H):
  ∃W:Nat->Nat->St->Hp->Prop,(∃m,W 0 m U H)/\∀i m U H,W i m U H->
   ((Itl K a).stop i H/\D.nx U H)\/((Itl K a).go i H/\∃N:pe,(∀O J,N O J->∃M,M<m/\W (i+1) M O J)/\∀x J,(Itl K a).yld i H x J->g x U J fun σ2 G=>L {D with nx:=N,ct:=N,bk:=D.nx} σ2 G):=
 Li Z I A (λi x U H E p=>F _ _ i x U H E p) hd
def Th{K:PySem.W.Frag}{a:Addr}{xs:kZ}{g:TG}{L:TS}{D:Ends}{U:St}{H:Hp}(Z:pc)(I:Z 0 U H)(A:∀i U H,i<=xs.length->Z i U H->SqT K H a xs)(F:∀(B:pe)(R:VK) i x U H,xs[i]?=some x->Z i U H->g x U H fun σ2 G=>L {nx:=Z<|i+1,rt:=R,bk:=B,ct:=Z (i+1)} σ2 G)(hd:∀U H,Z xs.length U H->D.nx U H):
  ∃W:Nat->Nat->St->Hp->Prop,(∃m,W 0 m U H)/\∀i m U H,W i m U H->
   ((Itt K a).stop i H/\D.nx U H)\/((Itt K a).go i H/\∃N:pe,(∀O J,N O J->∃M,M<m/\W (i+1) M O J)/\∀x J,(Itt K a).yld i H x J->g x U J fun σ2 G=>L {D with nx:=N,ct:=N,bk:=D.nx} σ2 G):=
 Ec Z I A (λi x U H E p=>F _ _ i x U H E p) hd
def Ti{G:Int}{n:Nat}{g:TG}{M:TS}{D:Ends}{U:St}{H:Hp}(Z:pc)(I:Z 0 U H)(F:∀(B:pe)(R:VK) i U H,i<n->Z i U H->g (.int<|G+i) U H fun σ2 L=>M {nx:=Z<|i+1,rt:=R,bk:=B,ct:=Z (i+1)} σ2 L)(hd:∀U H,Z n U H->D.nx U H):
  ∃W:Nat->Nat->St->Hp->Prop,(∃m,W 0 m U H)/\∀i m U H,W i m U H->
   ((Itr G n).stop i H/\D.nx U H)\/((Itr G n).go i H/\∃N:pe,(∀T J,N T J->∃O,O<m/\W (i+1) O T J)/\∀x J,(Itr G n).yld i H x J->g x U J fun σ2 L=>M {D with nx:=N,ct:=N,bk:=D.nx} σ2 L):=
 FV Z I (λi U H A p=>F _ _ i U H A p) hd
def Ye.none{P:Program}{w:World}{K:W.Frag}{M:Str->Option Value}{base:Heap}{O:CXT}{k:Nat}{f:Addr}{N:FuncData}{L:kQ}{G:Sp}(h:∀Z H Q E,G Z H Q E->False):Ye P w K M base O k f N L G:=
 ⟨λZ H Q E q=>(h _ _ _ _ q).elim,λA J s H args R Z Q E _ _ _ _ q=>(h _ _ _ _ q).elim⟩
def Y2{N P:kQ}{Z:Scope}(h:Z.kind=.function/\Z.isCoroutine=false/\Z.isGenerator=false/\N.Nodup/\N.take P.length=P/\(∀x∈P,Z.names.lookup x=some .local\/Z.names.lookup x=some .cell)/\∀y∈Z.names,y.2≠.free:=by decide +kernel):Yh N P Z:=
 ⟨h.1,h.2.1,h.2.2.1,h.2.2.2.1,h.2.2.2.2.1,h.2.2.2.2.2.1,h.2.2.2.2.2.2⟩
end L2
namespace K4
open PySem L2
def top(i:Nat):Stmt:=PySem.Challenge.pw_wantway_k59_far_down.main.body.getD i<|.Pass ⟨0,0,0,0⟩
abbrev BR:Stmt:=top 2
abbrev Gx:Stmt:=top 3
abbrev sKP:Stmt:=top 5
abbrev Il:Stmt:=top 6
abbrev BZ:Stmt:=top 7
abbrev BY:Stmt:=top 8
abbrev Im:Stmt:=top 9
abbrev MH:Stmt:=top 10
abbrev BX:Stmt:=top 11
abbrev Gz:Stmt:=top 12
abbrev Ip:Stmt:=top 13
abbrev Io:Stmt:=top 14
abbrev MJ:Stmt:=top 26
abbrev Ba:Stmt:=top 27
abbrev BP:Stmt:=top 28
abbrev MF:Stmt:=top 30
abbrev Uj:Stmt:=top 36
abbrev Iq:Stmt:=inClass Uj 0
abbrev BW:Stmt:=inClass Uj 1
abbrev Ik:Stmt:=inClass Uj 2
abbrev BS:Stmt:=inClass Uj 4
abbrev WZ:Stmt:=inClass Uj 5
abbrev Gw:Stmt:=inClass Uj 7
abbrev MI:Stmt:=inClass Uj 9
abbrev Gy:Stmt:=inClass Uj 10
abbrev Xv:Stmt:=inClass Uj 11
abbrev XY:Stmt:=top 42
abbrev Bg:Stmt:=inClass XY 0
abbrev Bc:Stmt:=inClass XY 1
abbrev Bh:Stmt:=inClass XY 2
abbrev MM:Stmt:=inClass XY 3
abbrev ML:Stmt:=inClass XY 4
abbrev MK:Stmt:=inClass XY 5
abbrev Be:Stmt:=inClass XY 6
abbrev Bf:Stmt:=inClass XY 7
abbrev Bi:Stmt:=inClass XY 8
abbrev Bb:Stmt:=inClass XY 10
abbrev Wc:Stmt:=top 43
abbrev UZ:Stmt:=top 44
abbrev Bk:Stmt:=top 45
abbrev Wb:Stmt:=top 46
abbrev Xe:Stmt:=top 47
abbrev Wa:Stmt:=top 48
abbrev Ge:Stmt:=top 50
abbrev UO:Stmt:=top 51
abbrev U7:Stmt:=top 54
abbrev Nr:Stmt:=top 60
abbrev Le:Stmt:=inClass Ge 0
abbrev DZ:Stmt:=inClass Ge 1
abbrev Xl:Stmt:=inClass Ge 7
abbrev Xm:Stmt:=inClass Ge 8
abbrev K2:Stmt:=inClass UO 0
abbrev B2:Stmt:=inClass UO 1
abbrev Wi:Stmt:=inClass UO 2
abbrev K3:Stmt:=inClass UO 3
abbrev Wl:Stmt:=inClass UO 4
abbrev Xj:Stmt:=inClass UO 5
abbrev Wj:Stmt:=inClass UO 6
abbrev TJ:Stmt:=inClass UO 7
abbrev X3:Stmt:=inClass UO 8
abbrev XM:Stmt:=inClass UO 9
abbrev Lx:Stmt:=inClass U7 0
abbrev WL:Stmt:=inClass U7 1
abbrev WJ:Stmt:=inClass U7 2
abbrev XR:Stmt:=inClass U7 4
abbrev Lw:Stmt:=inClass U7 5
abbrev Gb:Stmt:=inClass U7 6
abbrev Av:Stmt:=inClass U7 7
abbrev WM:Stmt:=inClass U7 8
abbrev Ft:Stmt:=inClass Nr 0
abbrev Gg:Stmt:=inClass Nr 1
abbrev Fu:Stmt:=inClass Nr 2
abbrev Fs:Stmt:=inClass Nr 3
abbrev Q7:Stmt:=inClass Nr 4
abbrev BU:Stmt:=top 52
abbrev Xf:Stmt:=top 55
abbrev Bj:Stmt:=top 58
abbrev MC:Stmt:=top 59
abbrev BV:Stmt:=top 65
abbrev ME:Stmt:=top 66
abbrev Ij:Stmt:=top 67
abbrev BO:Stmt:=top 68
abbrev BQ:Stmt:=top 69
abbrev G0:Stmt:=top 63
abbrev Ma:Stmt:=top 70
abbrev LF:Stmt:=top 71
abbrev Mb:Stmt:=top 72
abbrev TQ:Stmt:=top 73
abbrev B9:Stmt:=top 74
def IZ:Yh ["stream","many","number"] ["stream","many"] (Yd Ij):=Y2
end K4
namespace L2
open PySem PySem.Spec PyProof.Rows
def TR(K:W.Frag)(T:String):W.kitOne K (.type T) (.type T)=some true:=by
 unfold W.kitOne;rw[Zp (by simp)]
def yx{K:W.Frag}:∀{a b:String},(a,b)∈ [("NoneType","bool"),("NoneType","str"),("NoneType","int"),("NoneType","tuple"),("NoneType","list"),("int","bool"),("int","str"),("int","tuple"),("int","list"),("str","bool"),("str","int"),("str","tuple"),("str","list"),("bool","str"),("bool","tuple"),("bool","list"),("tuple","bool"),("tuple","str"),("tuple","int"),("tuple","list"),("list","bool"),("list","str"),("list","int"),("list","tuple")]->W.kitOne K (.type a) (.type b)=some false:=by
 intro a b h;simp only[Zd,Prod.mk.injEq,jH,or_false]at h;rcases h with⟨rfl,rfl⟩|⟨rfl,rfl⟩|⟨rfl,rfl⟩|⟨rfl,rfl⟩|⟨rfl,rfl⟩|⟨rfl,rfl⟩|⟨rfl,rfl⟩|⟨rfl,rfl⟩|⟨rfl,rfl⟩|⟨rfl,rfl⟩|⟨rfl,rfl⟩|⟨rfl,rfl⟩|⟨rfl,rfl⟩|⟨rfl,rfl⟩|⟨rfl,rfl⟩|⟨rfl,rfl⟩|⟨rfl,rfl⟩|⟨rfl,rfl⟩|⟨rfl,rfl⟩|⟨rfl,rfl⟩|⟨rfl,rfl⟩|⟨rfl,rfl⟩|⟨rfl,rfl⟩|⟨rfl,rfl⟩ <;> kernel_rfl
def Vm:bootBuiltins "tuple"=some (.type "tuple"):=by decide +kernel
def Jo:bootBuiltins "list"=some (.type "list"):=by decide +kernel
def Wv:bootBuiltins "str"=some (.type "str"):=by decide +kernel
def Fi:bootBuiltins "int"=some (.type "int"):=by decide +kernel
def Uk:bootBuiltins "dict"=some (.type "dict"):=by decide +kernel
def Fh:bootBuiltins "isinstance"=some (.builtin "isinstance"):=by decide +kernel
def RT:bootBuiltins "all"=some (.builtin "all"):=by decide +kernel
def We(R:Gl X "isinstance")(O:X.mg "isinstance"=none)(J:Gl X x)(Z:X.mg x=none)(M:bootBuiltins x=some (.type T))(he:PE X e te)(N:x≠"__name__":=by decide)(G:(x==("__debug__":Str))=false:=by decide)(L:starEach [e,.Name x p'] X.env=(false,eval e X.env)::starEach [.Name x p'] X.env:=by rfl):
  PE X (.Call (.Name "isinstance" p) [e,.Name x p'] [] pos) (tCB (Ci X.K)<|Jd te<|Jd (tC<|.ty T) Rm):=
 Y9 L1 R O Fh (pa2 he (PD J Z M rfl N G) L) (he:=L)
def tyD:Dat->String
 |.non=>"NoneType"|.bl _=>"bool"|.int _=>"int"|.str _=>"str"|.tup _=>"tuple"|.lst _=>"list"
def Mh{K:W.Frag}(h:Has H v d):Xn K H v (.type<|tyD d):=by
 have q:=LU (K:=K) h;cases d <;> exact q
def isD(T:String)(d:Dat):Bool:=decide (tyD d=T) || (T=="int" && decide (tyD d="bool"))
def Mc(K:W.Frag)(d:Dat)(Z:T∈ ["bool","str","int","tuple","list"]):W.kitOne K (.type<|tyD d) (.type T)=some (isD T d):=by
 simp only[Zd,jH,or_false]at Z;rcases Z with rfl|rfl|rfl|rfl|rfl <;> cases d <;> kernel_rfl
end L2
namespace L2
open PySem
mutual
def Dat.dep:Dat->Nat
 |.tup ds=>1+Dat.deps ds
 |.lst ds=>1+Dat.deps ds
 |_=>0
def Dat.deps:List Dat->Nat
 |[]=>0
 |d::ds=>max d.dep<|Dat.deps ds
end
theorem Dat.deps_get:∀{ds:ph}{i:Nat}{d:Dat},ds[i]?=some d->d.dep<=Dat.deps ds
 |[],i,d,e=>by simp at e
 |a::ds,0,d,e=>by
  have Z:some a=some d:=e;cases Z;unfold Dat.deps;exact jB _ _
 |a::ds,i+1,d,e=>by
  have q:=Dat.deps_get (ds:=ds) (i:=i) e;unfold Dat.deps;exact Zb q<|jx _ _
def VG{c A B:Prop}[Decidable c](Z:c)(h:A):if c then A else B:=by
 rw[Zp Z];exact h
def Y0{c A B:Prop}[Decidable c](Z:¬c)(h:B):if c then A else B:=by
 rw[Zq Z];exact h
def Vd(n:Nat)(S:n<sizeLine)(G:Nat->List V->Hp->Prop)(A:G 0 [] H)(M:∀i Z H,G i Z H->Z.length=i)(O:∀i Z H,i<n->G i Z H->J.go i H)(L:∀Z H,G n Z H->J.stop n H)(E:∀i Z H x N (R:V->Hp->Prop),i<n->G i Z H->J.yld i H x N->(∀v T,G (i+1) (Z++[v]) T->R v T)->g x s0 N λB I=>te B I R)(hd:∀Z H p,G n Z H->H p=none->Q (.ref p) (upd H p<|.lst Z)):
  Ra J g te s0 Q H:=by
 refine⟨λi m Z H=>m=n-i/\i<=n/\G i Z H,⟨n,by simp,Zc _,A⟩,?_⟩;rintro i m Z H ⟨rfl,C,p⟩;have U:=M i Z H p;exists by lia
 by_cases hlt:i<n
 .exact .inr ⟨O i Z H hlt p,λx N y=>E i Z H x N _ hlt p y λv T D=>⟨n-(i+1),by lia,rfl,hlt,D⟩⟩
 .have e:i=n:=by lia
  subst e;exact .inl ⟨L Z H p,λa F=>hd Z H a p F⟩
def Ys(h:H p=none)(o:HO):Same H (upd H p o):=λb u q=>by rw[Yg (Yb q h)];exact q
@[elab_as_elim] theorem up_in {motive:Hp->Prop}(h:H l=none) (o:HO) (k:∀H',Same H H'->H' l=some o->motive H'):motive (upd H l o):=k _ (Ys h o) Yf
def G7{α:Type}(f:Nat->α)(i:Nat):(List.range i).map f++[f i]=(List.range<|i+1).map f:=by
 rw[jo,ZK];rfl
structure Blt(mg:Str->Option Value):Prop where
 len:mg "len"=none
 isi:mg "isinstance"=none
 bool:mg "bool"=none
 str:mg "str"=none
 int:mg "int"=none
 tuple:mg "tuple"=none
 list:mg "list"=none
 dict:mg "dict"=none
 all:mg "all"=none
 zip:mg "zip"=none
 max:mg "max"=none
 range:mg "range"=none
 sorted:mg "sorted"=none
end L2
namespace K4
open PySem L2
section
def TZ:GK 2 (Nd K 2<|Jl (Vv 0)<|Jl (Vv 1) Td):=
 DU (XO (Vc (i:=0)<|by decide) (XO (Vc (i:=1)<|by decide) DV (λ_ _ _ _ _ h z=>h _ _ z) (λx _ _ _ _ h z=>by
  match x,z with
  |[],z=>exact h _ _ z)) (λ_ _ _ _ _ h z=>h _ _ z) (λx _ _ _ _ h z=>by
  match x,z with
  |[v],z=>exact h _ _ z))
end
end K4
namespace L2
open PySem
inductive W where
 |non|tag (x:Str)|pair (a b:W)
def W.dat:W->Dat
 |.non=>.non
 |.tag x=>.str x
 |.pair a b=>.tup [a.dat,b.dat]
def W.part:W->List Int->W
 |w,[]=>w
 |.pair a b,i::r=>if i=0 then a.part r else b.part r
 |.non,_::_=>.non
 |.tag _,_::_=>.non
def WB(h:Has H v (W.pair a b).dat):∃p x y,v=.ref p/\H p=some (.tup [x,y])/\Has H x a.dat/\Has H y b.dat:=by
 unfold W.dat Has at h;obtain⟨p,L,rfl,M,Z⟩:=h
 match L,Z with
 |[x,y],Z=>
  unfold HasL at Z;obtain⟨N,J⟩:=Z;unfold HasL at J;exact⟨p,x,y,Y,M,N,J.1⟩
 |[],Z=>unfold HasL at Z;exact Z.elim
 |[x],Z=>unfold HasL at Z;obtain⟨_,J⟩:=Z;unfold HasL at J;exact J.elim
 |_::_::_::_,Z=>
  unfold HasL at Z;obtain⟨_,J⟩:=Z;unfold HasL at J;obtain⟨_,G⟩:=J;unfold HasL at G;exact G.elim
def Mi:Has H .non W.non.dat:=by unfold W.dat Has;rfl
def Way(ws:kT):Prop:=∀i∈ws,i=0\/i=1
def RN{Z:kT}(h:(Z.map V.int)[i]?=some x):∃n r,x=.int n/\Z.drop i=n::r/\Z.drop (i+1)=r/\n∈Z:=by
 rw[ZH]at h
 cases e:Z[i]? with
 |none=>rw[e]at h;cases h
 |some n=>
  rw[e]at h;cases h;obtain⟨J,q⟩:=ZF.mp e;exact⟨n,Z.drop<|i+1,rfl,by rw[List.drop_eq_getElem_cons J,q],rfl,ZJ e⟩
def PF{a b:V}(h:n=0\/n=1):atI [a,b] n=some (if n=0 then a else b):=by
 rcases h with rfl|rfl <;> rfl
def Js(ws:kT):Dat:=.tup<|ws.map Dat.int
def W.dep:W->Nat
 |.non=>0
 |.tag _=>0
 |.pair a b=>1+max a.dep b.dep
theorem Nc:∀{J:kT}{Z:kZ},HasL H Z (J.map Dat.int)->Z=J.map V.int
 |[],[],_=>rfl
 |[],_::_,h=>by unfold HasL at h;exact h.elim
 |_::_,[],h=>by rw[ZV]at h;unfold HasL at h;exact h.elim
 |n::J,x::Z,h=>by
  rw[ZV]at h;unfold HasL at h;obtain⟨G,L⟩:=h;unfold Has at G;rw[G,Nc L];rfl
theorem TX:∀(Z:kT),HasL H (Z.map V.int)<|Z.map Dat.int
 |[]=>Z6
 |n::Z=>Z4 (by unfold Has;rfl)<|TX Z
def Jk(h:Has H v (Js J)):∃a,v=.ref a/\H a=some (.tup<|J.map V.int):=by
 unfold Js Has at h;obtain⟨a,L,rfl,Z,G⟩:=h;rw[Nc G]at Z;exact⟨a,Y,Z⟩
def Jc(h:H a=some (.tup<|Z.map V.int)):Has H (.ref a) (Js Z):=by
 unfold Js Has;exact⟨a,_,Y,h,TX Z⟩
def Pm(h:H a=some (.lst Z))(t:HasL H Z J):Has H (.ref a) (.lst J):=by unfold Has;exact⟨a,Z,Y,h,t⟩
def JU(H:Hp)(p:Addr):Prop:=∃(a:Int)(b:Bool)(c d:Int),H p=some (.lst [.int a,.bl b,.int c,.int d])
def But(p:Addr)(H H':Hp):Prop:=∀b,b≠p->H' b=H b
def But.trans(a:But p H J)(b:But p J Z):But p H Z:=λc h=>(b c h).trans<|a c h
def But.upd{p:Addr}{H:Hp}(o:HO):But p H (upd H p o):=λ_ h=>Yg h
end L2
namespace K4
open PySem L2
def MA:Yh ["cell","k","number"] ["cell","k"] (Yd BV):=Y2
def Ib:Yh ["cell"] ["cell"] (Yd ME):=Y2
section
variable{K:W.Frag}
def D4:Sp:=λZ H Q _=>∃(c k:Int),Z=[.int c,.int k]/\∀r:Int,0<=r->r<2147483563->Q (.int r) H
def Kk(F:Fun K "_law_mixed" "_law_mixed" BV f J):Ye P w K T base CX0 (n+1) f J ["cell","k"] D4:=by
 refine F.oq MA λG A Z s H R Q E I h=>?_;obtain⟨c,k,rfl,q⟩:=h;refine⟨_,YY (Yz 2 MA.nd<|VB V8 (VB V9 (VB V9 (VB Uz (VB V8 (pv 0) Ya) Ya)<|VB Uz Ya<|pv 1) Ya) Ya)
  (YY (Yz 2 MA.nd<|VB V8 (VB V9 (VB V9 (VB Uz (pv 2)<|pv 2)<|VB Uz Ya<|pv 1) Ya) Ya)
  (YZ<|Yi<|VB V8 (VB Uz (pv 2)<|VB V9 (pv 2) Ya) Ya)),?_⟩
 show let a:=_;let b:=Yl _ a;Yl _ b _ _ _
 intros
 have D:=jC c (show(2147483647:Int)≠0 by decide);have B:=jk c (show(0:Int)<2147483647 by decide);refine⟨(by show(0:Int)<_;decide),.inl ⟨by lia,by lia⟩,.inl ⟨by decide,by decide⟩,(by show(0:Int)<_;decide),?_⟩;generalize hx:(c % 2147483647*48271+69621*k+7919) % 2147483629=x;have O:0<=x:=by rw[<-hx];exact jC _<|by decide
 have N:x<2147483629:=by rw[<-hx];exact jk _<|by decide
 refine⟨.inl ⟨by lia,by lia⟩,.inl ⟨by decide,by decide⟩,(by show(0:Int)<_;decide),?_⟩;generalize hy:(x*x+31*k+5) % 2147483587=y;have M:0<=y:=by rw[<-hy];exact jC _<|by decide
 have L:y<2147483587:=by rw[<-hy];exact jk _<|by decide
 refine⟨.inl ⟨by lia,by lia⟩,(by show(0:Int)<_;decide),?_⟩;exact q _ (jC _<|by decide)<|jk _<|by decide
def NC:Sp:=λJ H Q _=>∃(c:Int),J=[.int c]/\∀p Z,H p=none->But p H Z->JU Z p->Q (.ref p) Z
def FD(F:Fun K "_law_stream" "_law_stream" ME f L):Ye P w K O base CX0 (n+1) f L ["cell"] NC:=by
 refine F.oq Ib λM A Z s H N Q E R h=>?_;obtain⟨c,rfl,q⟩:=h;exists _,YZ<|Yi<|JJ<|pa4 (pv 0) (Ck (V6 QZ (pv 0) (VB Ka Ya Ya)<|Yx _)<|Ux<|V6 XT (pv 0) (G9 Xa<|VB Ka Ya Ya)<|Yx _) Ya<|VB V8 (pv 0) Ya;have G:yH 10 18:=⟨by decide,by decide,by decide⟩;exists G,_,Y;refine Ae (λ_=>?_) λ_=>?_
 .refine ⟨(by show(0:Int)<_;decide),sl 4,λp J=>?_⟩
  exact q p _ J (But.upd _) ⟨_,_,_,_,Yf⟩
 .refine ⟨G,_,rfl,?_⟩
  refine⟨(by show(0:Int)<_;decide),sl 4,λp J=>?_⟩;exact q p _ J (But.upd _) ⟨_,_,_,_,Yf⟩
def Gj:Sp:=λJ H Q _=>∃(p:Addr)(many:Int),J=[.ref p,.int many]/\JU H p/\0<many/\many<1073741824/\∀(r:Int)(Z:Hp),0<=r->r<many->But p H Z->JU Z p->Q (.int r) Z
def PP(F:Fun K "_law_take" "_law_take" Ij f C)(G:Ye P w K R base CX0 n g U ["cell","k"] D4)(j:Binds K U ["cell","k"] [])(D:W.keepIn K (.ref g)=true)(T:R "_law_mixed"=some (.ref g)):
  Ye P w K R base CX0 (n+1) f C ["stream","many"] Gj:=by
 refine F.oq IZ λX A O s H y Q E I h=>?_;obtain⟨p,many,rfl,⟨a,b,c,d,J⟩,L,B,q⟩:=h;refine⟨_,YY (Y3 (Vz<|Yk Y8 (pv 0) Ya)
   (YY (Yz 2 IZ.nd<|VB V8 (Yk Y8 (pv 0) Ya)<|pv 1)
   (YY (Jw (VB EF (Yk Y8 (pv 0) Ya)<|pv 1)<|MQ (pv 0) Ya set_list)
   (YY (Jw (Xg (V6 UF (Yk Y8 (pv 0) Ya) Ya<|Yx _)<|Ux<|V6 UF (Yk Y8 (pv 0) Ya) (G9 Xa Ya)<|Yx _)<|MQ (pv 0) Ya set_list)
   (YZ<|Yi<|pv 2)))) Yo)
  (YY (Jw (VB V9 (Yk Y8 (pv 0) Ya) Ya)<|MQ (pv 0) Ya set_list)
  (YZ<|Yi<|VB V8 (VB EF (JY G I rfl T D j .nil Y4 (pa2 (Yk Y8 (pv 0) Ya)<|Yk Y8 (pv 0) Ya)) Ya)<|pv 1)),?_⟩
 show let a:=_;let b:=Yl _ a;let c:=_;let d:=Yl _ c;let e:=Yl _ d;let f:=Yl _ e;Yl (VF _ f _) b _ _ _
 intros
 exists _,_,Z3 J,Y,_,Y;refine Ae (λS=>?_) λS=>?_
 .refine ⟨_,_,Z3 J,rfl,L,?_⟩
  exists _,_,Z3 J,Y,⟨L,B⟩,p,_,0,0,Y,Y,J,Y;have Z:upd H p (.lst [.int (a / many),.bl b,.int c,.int d]) p=some (.lst [.int (a / many),.bl b,.int c,.int d]):=Yf;exists _,_,Z3 Z,Y,Y,_,Y;have N:=jC a (show many≠0 by lia);have M:=jk a L;refine Ae (λ_=>?_) λ_=>?_
  .refine ⟨_,_,Z3 Z,rfl,_,rfl,rfl,p,_,1,1,rfl,rfl,Z,rfl,?_⟩
   exact q _ _ N M ((But.upd _).trans<|But.upd _) ⟨_,_,_,_,Yf⟩
  .refine ⟨p,_,1,1,rfl,rfl,Z,rfl,?_⟩
   exact q _ _ N M ((But.upd _).trans<|But.upd _) ⟨_,_,_,_,Yf⟩
 .refine ⟨_,_,Z3 J,rfl,p,_,2,2,rfl,rfl,J,rfl,?_⟩
  have Z:upd H p (.lst [.int a,.bl b,.int<|c+1,.int d]) p=some (.lst [.int a,.bl b,.int<|c+1,.int d]):=Yf;refine⟨_,_,Z3 Z,Y,_,_,Z3 Z,Y,_,_,Y,λr N M=>?_⟩;exists ⟨by decide,by decide⟩,L;exact q _ _ (jC _<|by lia) (jk _ L) (But.upd _) ⟨_,_,_,_,Yf⟩
end
end K4
namespace L2
open PySem
def alpha(o:Nat):Str:=⟨((List.range 26).map (o + ·)).toArray⟩
def one(c:Nat):Str:=⟨#[c]⟩
def txt(cs:List Nat):Str:=⟨cs.toArray⟩
def Wy(o:Nat):(alpha o).length=26:=by show((List.range 26).map (o + ·)).toArray.size=26;simp
def Nv(o:Nat)(j:Int)(J:0<=j)(Z:j<26):atI (alpha o).cps.toList j=some (o+j.toNat):=by
 obtain⟨n,rfl⟩:∃n:Nat,j=n:=⟨j.toNat,by lia⟩;refine VE ?_;show(((List.range 26).map (o + ·)).toArray.toList)[n]?=_;rw[List.toList_toArray,ZH,jb (by lia)]
 rfl
def K1(G:o=97\/o=65)(h:o<=c/\c<o+26):∃i rest,Builtin.Str.occurrences (alpha o) (one c) 0 (alpha o).length 1=i::rest:=by
 have J:∀j<26,(Builtin.Str.occurrences (alpha 97) (one<|97+j) 0 26 1).isEmpty=false/\(Builtin.Str.occurrences (alpha 65) (one<|65+j) 0 26 1).isEmpty=false:=by decide +kernel
 rw[Wy]
 have Z:(Builtin.Str.occurrences (alpha o) (one c) 0 26 1).isEmpty=false:=by
  have a:=J (c-o) (by lia);rcases G with rfl|rfl
  .have e:97+(c-97)=c:=by lia
   rw[e]at a;exact a.1
  .have e:65+(c-65)=c:=by lia
   rw[e]at a;exact a.2
 cases q:Builtin.Str.occurrences (alpha o) (one c) 0 26 1 with
 |nil=>rw[q]at Z;cases Z
 |cons i r=>exact⟨i,r,Y⟩
def Ef{Z:List Nat}(h:Z.length=8):∃a b c d e f g i,Z=[a,b,c,d,e,f,g,i]:=by
 match Z,h with
 |[a,b,c,d,e,f,g,i],_=>exact⟨a,b,c,d,e,f,g,i,Y⟩
def zR(h:cs.length=8):Txt.join (Str.ofString "") (cs.map one)=txt cs:=by
 obtain⟨a,b,c,d,e,f,g,i,rfl⟩:=Ef h
 rfl
def Mr(h:cs.length=8)(j:Nat)(Z:j<=8):Txt.slice (txt cs) none (some (j:Int))=txt (cs.take j):=by
 obtain⟨a,b,c,d,e,f,g,i,rfl⟩:=Ef h
 match j,Z with
 |0,_|1,_|2,_|3,_|4,_|5,_|6,_|7,_|8,_=>rfl
def Ly(h:cs.length=8)(j:Nat)(Z:j<=8):Txt.slice (txt cs) (some (j:Int)) none=txt (cs.drop j):=by
 obtain⟨a,b,c,d,e,f,g,i,rfl⟩:=Ef h
 match j,Z with
 |0,_|1,_|2,_|3,_|4,_|5,_|6,_|7,_|8,_=>
  unfold Txt.slice;rw[show(txt [a,b,c,d,e,f,g,i]).length=8 from rfl]
  first
   |(rw[Zp (by decide +kernel)];rfl)
   |(rw[Zq (by decide +kernel)];rfl)
def Rj(a b:List Nat):txt a++ txt b=txt (a++ b):=by
 show(⟨a.toArray++ b.toArray⟩:Str)=⟨(a++ b).toArray⟩;simp
def OO(h:txt a=txt b):a=b:=by
 have q:a.toArray=b.toArray:=congrArg Str.cps h;simpa using q
def Ri(a:List Nat):(txt a).length=a.length:=by show a.toArray.size=a.length;simp
def wd(o:Nat)(cs:List Nat)(at' way i k:Nat):List Nat:=
 if way=0 then cs.take at'++[o+(i+5*k) % 26]++ cs.drop (at'+1)
 else if way=1 then[o+(i+5*k) % 26]++ cs.take ((3*k+at') % 8)
 else if way=2 then cs.take (k % 8+1)
 else cs.take (8-k % 8)
def OV(Z:k<l)(h:l<24):(i+5*k) % 26≠(i+5*l) % 26:=λe=>by
 have q:=Nat.sub_mod_eq_zero_of_mod_eq e.symm;have f:∀d:Fin 24,d.val≠0->5*d.val % 26≠0:=by decide
 refine f ⟨l-k,by lia⟩ (by show l-k≠0;lia) ?_;show 5*(l-k) % 26=0;rw[Nat.mul_sub,<-Nat.add_sub_add_left i (5*l) (5*k)];exact q
def A8(O:cs.length=8)(G:at'<8)(N:way<2/\l<24\/l<8)(Z:k<l):wd o cs at' way i k≠wd o cs at' way i l:=by
 intro e;have d:=OV (i:=i) Z (N.elim (·.2) λz=>kq z<|by decide);unfold wd at e
 by_cases w0:way=0
 .rw [Zp w0,Zp w0]at e
  have L:(cs.take at').length=at':=by rw[ZN,O];exact ji<|Zh G
  have q:=congrArg (λx:List Nat=>x[at']?) e
  have g:∀x:Nat,(cs.take at'++[x]++ cs.drop (at'+1))[at']?=some x:=λx=>by
   rw[jS,vb<|jF L,L];simp
  exact d<|Nat.add_left_cancel<|ZT<|(g _).symm.trans<|q.trans<|g _
 rw[Zq w0,Zq w0]at e
 by_cases w1:way=1
 .rw [Zp w1,Zp w1]at e
  exact d<|Nat.add_left_cancel (List.cons.inj e).1
 rw[Zq w1,Zq w1]at e;have J:l<8:=N.elim (λz=>by lia) id;have M:=kq Z J;rw[qm J,qm M]at e
 have q:∀{a b:Nat},cs.take a=cs.take b->a<=8->b<=8->a=b:=λz G R=>by
  have:=congrArg List.length z;rw[ZN,ZN,O,ji G,ji R]at this;exact this
 by_cases w2:way=2
 .rw [Zp w2,Zp w2]at e
  exact Zr (Nat.succ.inj<|q e M J)<|Ze Z
 rw[Zq w2,Zq w2]at e;have:=q e (Nat.sub_le _ _)<|Nat.sub_le _ _;lia
def Q6(J:cs.length=8)(G:at'<8):1<=(wd o cs at' way i k).length/\(wd o cs at' way i k).length<=8:=by
 have t:∀{n:Nat},n<=8->(cs.take n).length=n:=λh=>by rw[ZN,J];exact ji h
 unfold wd
 split
 .rw [ZL,ZL,t<|Zh G,j0,J,vc];lia
 split
 .rw [ZL,t<|Zh<|vY _<|by decide,vc]
  have:=vY (3*k+at') (show 8 > 0 by decide);lia
 have Z:=vY k (show 8 > 0 by decide)
 split
 .rw [t Z];exact⟨Nat.succ_pos _,Z⟩
 .rw [t (Nat.sub_le _ _)];exact⟨Nat.sub_pos_of_lt Z,Nat.sub_le _ _⟩
def A9(Z:∀c∈cs,o<=c/\c<o+26):∀c∈wd o cs at' way i k,o<=c/\c<o+26:=by
 have z:o<=o+(i+5*k) % 26/\o+(i+5*k) % 26<o+26:=by lia
 intro c h;unfold wd at h
 split at h
 .simp only[ZX,ZQ]at h
  rcases h with(h|h)|h
  .exact Z c (Zk h)
  .rw [h];exact z
  .exact Z c (qG h)
 split at h
 .simp only[ZX,ZQ]at h
  rcases h with h|h
  .rw [h];exact z
  .exact Z c (Zk h)
 split at h
 .exact Z c (Zk h)
 .exact Z c (Zk h)
structure Wds(o:Nat)(ys:List Str):Prop where
 nd:ys.Nodup
 len:∀y∈ys,1<=y.length/\y.length<=8
 abc:∀y∈ys,∀c∈y.cps.toList,o<=c/\c<o+26
def Q5(M:cs.length=8)(L:at'<8)(T:way<2/\m<=24\/m<=8)(N:∀c∈cs,o<=c/\c<o+26):Wds o ((List.range m).map λk=>txt<|wd o cs at' way i k):=by
 refine⟨?_,λy Z=>?_,λy Z c J=>?_⟩
 .show List.Pairwise _ _
  rw[kz];refine List.Pairwise.imp_of_mem ?_<|List.pairwise_lt_range (n:=m);intro a b R O G e;exact A8 (i:=i) M L (by have:=jD.mp O;lia) G<|OO e
 .obtain ⟨k,_,rfl⟩:=ZW.mp Z
  rw[Ri];exact Q6 M L
 .obtain ⟨k,_,rfl⟩:=ZW.mp Z
  exact A9 N c<|by simpa[txt]using J
def SameB(p:Addr)(H H':Hp):Prop:=∀b o,b≠p->H b=some o->H' b=some o
def SameB.refl(p:Addr)(H:Hp):SameB p H H:=λ_ _ _ h=>h
def SameB.trans(a:SameB p H J)(b:SameB p J Z):SameB p H Z:=λc o n h=>b c o n<|a c o n h
def But.sb(a:But p H Z):SameB p H Z:=λb o n h=>(a b n).trans h
def Same.sb(a:Same H Z):SameB p H Z:=λb o _ h=>a b o h
def SameB.free(a:SameB p H Z)(n:r≠p)(h:Z r=none):H r=none:=by
 cases e:H r with
 |none=>rfl
 |some o=>rw[a r o n e]at h;cases h
def SameB.put(a:SameB p H Z)(h:H r=none):SameB p H (upd Z r o):=λb u n e=>by
 rw[Yg (Yb e h)];exact a b u n e
def JU.ne(s:JU H p)(h:H r=none):r≠p:=λe=>by
 obtain⟨a,b,c,d,q⟩:=s;rw[<-e,h]at q;cases q
def JU.keep(s:JU H p)(e:Z p=H p):JU Z p:=by
 obtain⟨a,b,c,d,q⟩:=s;exact⟨a,b,c,d,e.trans q⟩
def NA(a b:Str):(a++ b).length=a.length+b.length:=by
 show(a.cps++ b.cps).size=a.cps.size+b.cps.size;simp
def Ax(h:cs.length=8)(Z J:kS):(Txt.slice (txt cs) Z J).length<=8:=by
 have q:=Txt.slice_le (txt cs) Z J;rw[Ri,h]at q;exact q
def Cj{J Z i k:Nat}(h:Z<4):atI [V.str (txt<|cs.take J++[o+(i+5*k) % 26]++ cs.drop (J+1)),V.str<|txt<|[o+(i+5*k) % 26]++ cs.take ((3*k+J) % 8),V.str<|txt<|cs.take<|k % 8+1,V.str (txt<|cs.take<|8-k % 8)] (Z:Int)=some (V.str<|txt<|wd o cs J Z i k):=by
 match Z,h with
 |0,_|1,_|2,_|3,_=>rfl
end L2
namespace K4
open PySem L2
def UC:Yh ["stream","many","letters","ways","k","base","at","way","words","sign","some"] ["stream","many","letters","ways"] (Yd BO):=Y2
def AT:List.Nodup [("k":Str),"letters","stream"]:=by decide +kernel
section
def GD:Sp:=λL H Q _=>∃(p:Addr)(many:Nat)(o:Nat)(Z:Nat),L=[.ref p,.int many,.str<|alpha o,.int Z]/\JU H p/\(o=97\/o=65)/\0<Z/\(Z<=2/\many<=24\/Z<=4/\many<=8)/\
 ∀(r:Addr)(G:kQ)(J:Hp),SameB p H J->JU J p->H r=none->r≠p->J r=some (.lst<|G.map V.str)->G.length=many->Wds o G->Q (.ref r) J
def Kc(B:Blt mg)(F:Fun K "_law_words" "_law_words" BO f fd)(G:Ye P w K mg base CX0 n g gd ["stream","many"] Gj)(bG:Binds K gd ["stream","many"] [])(kG:W.keepIn K (.ref g)=true)(mG:mg "_law_take"=some (.ref g)):
  Ye P w K mg base CX0 (n+1) f fd ["stream","many","letters","ways"] GD:=by
 refine F.oq UC λR6 A R1 s H u Q E hr h=>?_;obtain⟨p,many,o,T,rfl,hs,ho,hw,hm,q⟩:=h;refine⟨_,YY (Yz 5 UC.nd (Uy PySem.F.plainAttrs_str PySem.F.slot_str_join PySem.F.type_str_join Pi Yr (pa1 (JF ["k"] [2,0] (JL Y B.range (pa1 Ya)) (Vc (i:=0)<|by decide)
   (λcl C fp s H=>Ym 0 AT rfl (Or.inl rfl) (Or.inr rfl)) (λcl C fp s H=>Yk (r:=Cf) DD (pv 1) (JY G hr rfl mG kG bG .nil Y4 (pa2 (pv 2) Ya)) λ_ _=>rfl)))))
  (YY (Yz 6 UC.nd<|JY G hr rfl mG kG bG .nil Y4 (pa2 (pv 0) Ya))
  (YY (Yz 7 UC.nd<|JY G hr rfl mG kG bG .nil Y4 (pa2 (pv 0)<|pv 3))
  (YY (Yz 8 UC.nd<|JJ Vq)
  (YY (Ja Zv rfl (JL rfl B.range (pa1<|pv 1)) (Ym 4 UC.nd)
   (YY (Yz 9 UC.nd<|Yk DD (pv 2) (VB V8 (VB V9 (Uy PySem.F.plainAttrs_str PySem.F.slot_str_index PySem.F.type_str_index LA (pv 2)<|pa1<|Yk DD (pv 5) (pv 6) λ_ _=>rfl)<|VB Uz Ya<|pv 4) Ya) λ_ _=>rfl)
   (YY (Yz 10 UC.nd<|JJ<|pa4 (VB Xi (VB Xi (V0 Gr (pv 5) JV<|JE<|pv 6)<|pv 9)<|V0 Gr (pv 5) (JE<|VB V9 (pv 6) Ya) JV) (VB Xi (pv 9)<|V0 Gr (pv 5) JV<|JE<|VB V8 (VB V9 (VB Uz Ya<|pv 4)<|pv 6) Ya) (V0 Gr (pv 5) JV<|JE<|VB V9 (VB V8 (pv 4) Ya) Ya)<|V0 Gr (pv 5) JV<|JE<|VB Bu Ya<|VB V8 (pv 4) Ya)
   (YZ<|VZ<|Uy Zz Z0 Z1 JM (pv 8)<|pa1<|Yk Y8 (pv 10) (pv 7) λ_ _=>rfl))))
  (YZ<|Yi<|pv 8))))),?_⟩
 show let a:=_;let b:=_;let c:=Yl _ b;let d:=Yl _ c;let e:=Yl (XS _ _ d) a;let f:=Yl _ e;let g:=Yl _ f;let h:=Yl _ g;Yl _ h _ _ _
 intros
 have em:((many:Nat):Int).toNat=many:=jP _;refine⟨Y,8,Y,by decide,by decide,?_⟩;refine Vd 8 (Y1<|by decide) (λi u L=>SameB p H L/\JU L p/\∃Z:List Nat,u=Z.map (λc=>V.str<|one c)/\Z.length=i/\∀c∈Z,o<=c/\c<o+26) ⟨SameB.refl _ _,hs,[],rfl,rfl,λc h=>nomatch h⟩
  (λi u L z=>by obtain⟨_,_,Z,e,l,_⟩:=z;rw[e,ZA,l]) (λi u L X z=>X) (λu L z=>ZG _) ?_ ?_
 .intro i u L x H'' R X z yl hR
  obtain⟨rfl,rfl⟩:=yl;obtain⟨j,O,Z,rfl,zl,zc⟩:=z;refine⟨p,26,Y,O,by decide,by decide,λr H3 r0 r1 b s3=>?_⟩;refine⟨alpha o,r,o+r.toNat,Y,Y,by rw[Wy];decide,Nv o r r0 r1,hR _ _ ⟨j.trans b.sb,s3,Z++[o+r.toNat],by rw[ZK];rfl,by rw[ZL,zl];rfl,λc hc=>?_⟩⟩;rcases ZX.mp hc with h|h
  .exact zc c h
  .rw [ZQ.mp h];lia
 intro u H1 pl z G3;obtain⟨j,O,Z,rfl,M,zc⟩:=z;have R3:pl≠p:=O.ne G3;have e1:Z.map (λc=>V.str<|one c)=(Z.map one).map V.str:=by rw[vi];rfl
 exists _,pl,Z.map one,Y,Y,Z3 (by rw[Yf,e1]),?_
 .obtain ⟨a,b,c,d,e,f,g,i,rfl⟩:=Ef M
  show(8:Nat)+8*0<=16777216
  decide
 rw[zR M];have s1:JU (upd H1 pl<|.lst<|Z.map λc=>V.str<|one c) p:=O.keep<|Yg<|Zs R3;have b1:SameB p H (upd H1 pl<|.lst<|Z.map λc=>V.str<|one c):=j.trans (Ys G3 _).sb;generalize upd H1 pl (.lst<|Z.map λc=>V.str<|one c)=H2 at s1 b1;refine⟨p,8,Y,s1,by decide,by decide,λR0 H3 a0 a1 b3 s3=>?_⟩;refine⟨p,T,Y,s3,by lia,by lia,λJ2 H4 w0 w1 b4 s4=>?_⟩;refine⟨sl 0,λy G2=>?_⟩;have b5:SameB p H H4:=(b1.trans b3.sb).trans b4.sb;have N:y≠p:=s4.ne G2;have v:H y=none:=b5.free N G2;obtain⟨at1,rfl⟩:∃n:Nat,R0=n:=⟨R0.toNat,by lia⟩;obtain⟨D,rfl⟩:∃n:Nat,J2=n:=⟨J2.toNat,by lia⟩;have R4:at1<8:=by lia
 obtain⟨c0,O1⟩:∃c0,Z[at1]?=some c0:=⟨Z[at1],ZD<|by lia⟩;obtain⟨J,rest,M2⟩:=K1 ho<|zc c0<|ZJ O1;exists many,Y,by lia,by lia
 let I:pc:=λi U L=>SameB p H L/\JU L p/\L y=some (.lst<|((List.range i).map λk=>txt<|wd o Z at1 D J k).map V.str)/\
  ∃j O z3,U=[some (.ref p),some<|.int many,some<|.str<|alpha o,some<|.int T,j,some<|.str<|txt Z,some<|.int at1,some<|.int D,some<|.ref y,O,z3]
 refine Ti (n:=((many:Nat):Int).toNat) I ?_ ?_ ?_
 .exact ⟨b5.put v,s4.keep<|Yg<|Zs N,Yf,_,_,_,rfl⟩
 .rintro BB RR i U L X ⟨y1,y2,y3,j,O,z3,rfl⟩
  rw[em]at X;have tl:(txt Z).length<=sizeLine:=by rw[Ri,M];decide
  have e0:((J:Int)+5*(0+(i:Int))) % 26=(((J+5*i) % 26:Nat):Int):=by rw[show(J:Int)+5*(0+(i:Int))=((J+5*i:Nat):Int) by lia];rfl
  have S:(0:Int)<=((J:Int)+5*(0+(i:Int))) % 26/\((J:Int)+5*(0+(i:Int))) % 26<26:=by rw[e0];exact⟨Int.natCast_nonneg _,Int.ofNat_lt.mpr<|vY _<|by decide⟩
  have R5:(((J:Int)+5*(0+(i:Int))) % 26).toNat=(J+5*i) % 26:=by rw[e0];rfl
  refine⟨Y,txt Z,at1,c0,Y,Y,tl,VE<|by simpa[txt]using O1,_,_,J,rest,rfl,rfl,M2,.inl ⟨by decide,by decide⟩,(by show(0:Int)<_;decide),?_⟩;exists alpha o,_,_,Y,Y,by rw[Wy];decide,Nv o _ S.1 S.2;rw[R5];have sg:(⟨#[o+(J+5*i) % 26]⟩:Str)=txt [o+(J+5*i) % 26]:=rfl;rw[sg]
  have eA:Txt.slice (txt Z) none (some (at1:Int))++ txt [o+(J+5*i) % 26]++ Txt.slice (txt Z) (some<|(at1:Int)+1) none=txt (Z.take at1++[o+(J+5*i) % 26]++ Z.drop (at1+1)):=by
   have z:((at1:Int)+1)=((at1+1:Nat):Int):=by lia
   rw[z,Mr M at1<|by lia,Ly M (at1+1)<|by lia,Rj,Rj]
  have eB:txt [o+(J+5*i) % 26]++ Txt.slice (txt Z) none (some<|(3*(0+(i:Int))+(at1:Int)) % 8)=txt ([o+(J+5*i) % 26]++ Z.take ((3*i+at1) % 8)):=by
   have z:(3*(0+(i:Int))+(at1:Int)) % 8=(((3*i+at1) % 8:Nat):Int):=by rw[show 3*(0+(i:Int))+(at1:Int)=((3*i+at1:Nat):Int) by lia];rfl
   rw[z,Mr M _<|Zh<|vY _<|by decide,Rj]
  have eC:Txt.slice (txt Z) none (some<|(0+(i:Int)) % 8+1)=txt (Z.take<|i % 8+1):=by
   have z:(0+(i:Int)) % 8+1=((i % 8+1:Nat):Int):=by rw[Int.zero_add];rfl
   rw[z,Mr M _ (by lia)]
  have eD:Txt.slice (txt Z) none (some<|8-(0+(i:Int)) % 8)=txt (Z.take<|8-i % 8):=by
   have z:8-(0+(i:Int)) % 8=((8-i % 8:Nat):Int):=by lia
   rw[z,Mr M _ (by lia)]
  have small:∀m:Nat,m<=100->m<=sizeLine:=λm h=>Zh (Y1<|by lia);have k1:∀lo X,(Txt.slice (txt Z) lo X).length<=8:=λlo X=>Ax M lo X;have x1:(txt [o+(J+5*i) % 26]).length=1:=rfl;refine⟨_,Y,txt Z,Y,tl,_,_,Y,Y,small _ (by have:=k1 none<|some (at1:Int);lia),_,Y,txt Z,Y,tl,_,_,Y,Y,small _ (by have:=k1 none<|some (at1:Int);have:=k1 (some<|(at1:Int)+1) none;rw[NA];lia),?_⟩;refine⟨.inl ⟨by decide,by decide⟩,(by show(0:Int)<_;decide),_,Y,txt Z,Y,tl,_,_,Y,Y,small _ (by have:=k1 none<|some<|(3*(0+(i:Int))+(at1:Int)) % 8;lia),?_⟩;exists (by show(0:Int)<_;decide),_,Y,txt Z,Y,tl;refine⟨(by show(0:Int)<_;decide),_,Y,txt Z,Y,tl,sl 4,λt ht=>?_⟩;rw[eA,eB,eC,eD];have nt:t≠p:=y2.ne ht;have G1:y≠t:=Yb y3 ht;exists .inl ⟨Y,_,Z3<|(Yg G1).trans y3⟩,_,_,Z3 Yf,Cj<|by lia,y,_,_,rfl,rfl,(Yg G1).trans y3,?_
  .rw [ZA,ZA,vo]
   exact Y1<|by lia
  .have ft:H t=none:=y1.free nt ht
   refine⟨(y1.put ft).put v,y2.keep<|(Yg<|Zs N).trans<|Yg<|Zs nt,?_,_,_,_,rfl⟩;rw[Yf,<-G7,ZK]
   rfl
 .rintro U L ⟨y1,y2,y3,j,O,z3,rfl⟩
  rw[em]at y3;refine q y _ L y1 y2 v N y3 (by simp)<|Q5 M R4 ?_ zc;lia
end
end K4
namespace L2
open PySem PySem.Spec PyProof.Rows SeqAt
mutual
def Dat.pq:Dat->Dat->Bool
 |.non,.non=>true
 |.bl a,.bl b=>a==b
 |.bl a,.int b=>(if a then 1 else 0)==b
 |.int a,.bl b=>a==(if b then 1 else 0)
 |.int a,.int b=>a==b
 |.str a,.str b=>a==b
 |.tup a,.tup b=>Dat.pqs a b
 |.lst a,.lst b=>Dat.pqs a b
 |_,_=>false
def Dat.pqs:List Dat->List Dat->Bool
 |[],[]=>true
 |a::as,b::bs=>Dat.pq a b && Dat.pqs as bs
 |_,_=>false
end
mutual
theorem Dat.pq_self:∀a:Dat,a.pq a=true
 |.non=>by unfold Dat.pq;rfl
 |.bl b=>by unfold Dat.pq;exact beq_self_eq_true b
 |.int i=>by unfold Dat.pq;exact beq_self_eq_true i
 |.str x=>by unfold Dat.pq;exact beq_self_eq_true x
 |.tup ds=>by unfold Dat.pq;exact Dat.pqs_self ds
 |.lst ds=>by unfold Dat.pq;exact Dat.pqs_self ds
theorem Dat.pqs_self:∀a:ph,Dat.pqs a a=true
 |[]=>by unfold Dat.pqs;rfl
 |a::as=>by unfold Dat.pqs;rw[Dat.pq_self a,Dat.pqs_self as];rfl
end
theorem GP:∀(J Z:ph),((List.range<|min J.length Z.length).all (λi=>((J[i]?).getD .non).pq<|(Z[i]?).getD .non) && J.length==Z.length)=Dat.pqs J Z
 |[],[]=>by unfold Dat.pqs;rfl
 |[],_::_=>by unfold Dat.pqs;simp
 |_::_,[]=>by unfold Dat.pqs;simp
 |a::J,b::Z=>by
  have ih:=GP J Z;have e:min (a::J).length (b::Z).length=min J.length Z.length+1:=by simp only[Zf];lia
  rw[e,List.range_succ_eq_map,qR,List.all_map];unfold Dat.pqs;rw[<-ih];have G:((a::J).length==(b::Z).length)=(J.length==Z.length):=by simp
  rw[G,Bool.and_assoc]
  rfl
def O3(h:Z.length=J.length):(List.range Z.length).all (λi=>((Z[i]?).getD .non).pq<|(J[i]?).getD .non)=Dat.pqs Z J:=by
 rw[<-GP Z J,h];simp
def Sz(h:J.length≠Z.length):Dat.pqs J Z=false:=by
 rw[<-GP J Z];simp[h]
def UY{s:Shared}(G:HOk P w H s.heap)(h:H a=some (.tup J)):∃Z:kP,Vals J Z/\s.heap.IsTuple a Z.toArray:=by
 obtain⟨_,Z,r,p⟩:=(show VS P w H s.heap a (.tup J)from G a _ h);exact⟨Z,r,p.is⟩
def Ud{s:Shared}(G:HOk P w H s.heap)(h:H a=some (.lst J)):∃Z:kP,Vals J Z/\s.heap.IsList a Z.toArray:=by
 obtain⟨_,Z,n,r,p⟩:=(show VS P w H s.heap a (.lst J)from G a _ h);exact⟨Z,r,_,p,Y,n,Y⟩
structure Cmp(A:Around)(s:Shared)(u v:Value)(b:Bool):Prop where
 eq:EqAt A s u v b
 rc:RcAt A s u v b
 ne:RcNeAt A s u v (!b)
def Eo{A:Around}{F Q:ph}{L G:kZ}{J Z:kP}(ih:∀(I q:Dat){x y:V}{u v:Value},I.dep<=m->Has H x I->Has H y q->RelV x u->RelV y v->EqAt A s u v (I.pq q))(b:Dat.deps F<=m)(R:HasL H L F)(O:HasL H G Q)(r:Vals L J)(S:Vals G Z):∀j (P:j<J.toArray.size) (X:j<Z.toArray.size),EqAt A s J.toArray[j] Z.toArray[j] ((λi=>((F[i]?).getD .non).pq<|(Q[i]?).getD .non) j):=by
 intro j P X;have l:=r.length;have w:=S.length;rw[ZO]at P X;have C:j<L.length:=by lia
 have U:j<G.length:=by lia
 obtain⟨d,hd,c⟩:=R.get<|ZD C;obtain⟨f,E,D⟩:=O.get<|ZD U;obtain⟨g,B,N⟩:=r.get<|ZD C;obtain⟨t,T,M⟩:=S.get<|ZD U;have p:J.toArray[j]=g:=by have z:=(ZF.mp B).2;simpa using z
 have k:Z.toArray[j]=t:=by have z:=(ZF.mp T).2;simpa using z
 dsimp only;rw[p,k,hd,E];have e:=Dat.deps_get hd;exact ih d f (by lia) c D N M
def Nm(U:HOk P w H s.heap)(n:Nat)(ih:∀m,n=m+1->∀(C S:Dat)(A:Around){x y:V}{u v:Value},C.dep<=m->Has H x C->Has H y S->RelV x u->RelV y v->Vu (m+1) A->Cmp A s u v (C.pq S))(C S:Dat)(A:Around){x y:V}{u v:Value}(hn:C.dep<=n)(B:Has H x C)(Z:Has H y S)(j:RelV x u)(L:RelV y v)(i:Vu (n+1) A):Cmp A s u v (C.pq S):=by
 have G:=i.units0
 cases C with
 |non=>
  unfold Has at B;subst B;cases j
  cases S with
  |non=>unfold Has at Z;subst Z;cases L;unfold Dat.pq;exact⟨.same _,.none_none,.none_none⟩
  |bl b=>unfold Has at Z;subst Z;cases L;unfold Dat.pq;exact⟨.none_bool _,.none_bool _,.none_bool _⟩
  |int b=>unfold Has at Z;subst Z;obtain⟨Q,rfl⟩:=L;unfold Dat.pq;exact⟨.none_int _ _,.none_int _ _,.none_int _ _⟩
  |str b=>unfold Has at Z;subst Z;obtain⟨Q,rfl⟩:=L;unfold Dat.pq;exact⟨.none_str _ _,.none_str _ _,.none_str _ _⟩
  |tup O=>unfold Has at Z;obtain⟨p,X,rfl,R,_⟩:=Z;cases L;obtain⟨N,r,J⟩:=UY U R;unfold Dat.pq;exact⟨.none_tuple J G,.none_tuple J G,.none_tuple J G⟩
  |lst O=>unfold Has at Z;obtain⟨p,X,rfl,R,_⟩:=Z;cases L;obtain⟨N,r,J⟩:=Ud U R;unfold Dat.pq;exact⟨.none_list J G,.none_list J G,.none_list J G⟩
 |bl a=>
  unfold Has at B;subst B;cases j
  cases S with
  |non=>unfold Has at Z;subst Z;cases L;unfold Dat.pq;exact⟨.bool_none _,.bool_none _,.bool_none _⟩
  |bl b=>unfold Has at Z;subst Z;cases L;unfold Dat.pq;exact⟨.bool_bool _ _,.bool_bool _ _,.bool_bool _ _⟩
  |int b=>unfold Has at Z;subst Z;obtain⟨Q,rfl⟩:=L;unfold Dat.pq;exact⟨.bool_int _ _ _,.bool_int _ _ _,.bool_int _ _ _⟩
  |str b=>unfold Has at Z;subst Z;obtain⟨Q,rfl⟩:=L;unfold Dat.pq;exact⟨.bool_str _ _ _,.bool_str _ _ _,.bool_str _ _ _⟩
  |tup O=>unfold Has at Z;obtain⟨p,X,rfl,R,_⟩:=Z;cases L;obtain⟨N,r,J⟩:=UY U R;unfold Dat.pq;exact⟨.bool_tuple _ J G,.bool_tuple _ J G,.bool_tuple _ J G⟩
  |lst O=>unfold Has at Z;obtain⟨p,X,rfl,R,_⟩:=Z;cases L;obtain⟨N,r,J⟩:=Ud U R;unfold Dat.pq;exact⟨.bool_list _ J G,.bool_list _ J G,.bool_list _ J G⟩
 |int a=>
  unfold Has at B;subst B;obtain⟨t,rfl⟩:=j
  cases S with
  |non=>unfold Has at Z;subst Z;cases L;unfold Dat.pq;exact⟨.int_none _ _,.int_none _ _,.int_none _ _⟩
  |bl b=>unfold Has at Z;subst Z;cases L;unfold Dat.pq;exact⟨.int_bool _ _ _,.int_bool _ _ _,.int_bool _ _ _⟩
  |int b=>unfold Has at Z;subst Z;obtain⟨Q,rfl⟩:=L;unfold Dat.pq;exact⟨.int_int _ _ _ _,.int_int _ _ _ _,.int_int _ _ _ _⟩
  |str b=>unfold Has at Z;subst Z;obtain⟨Q,rfl⟩:=L;unfold Dat.pq;exact⟨.int_str _ _ _ _,.int_str _ _ _ _,.int_str _ _ _ _⟩
  |tup O=>unfold Has at Z;obtain⟨p,X,rfl,R,_⟩:=Z;cases L;obtain⟨N,r,J⟩:=UY U R;unfold Dat.pq;exact⟨.int_tuple _ _ J G,.int_tuple _ _ J G,.int_tuple _ _ J G⟩
  |lst O=>unfold Has at Z;obtain⟨p,X,rfl,R,_⟩:=Z;cases L;obtain⟨N,r,J⟩:=Ud U R;unfold Dat.pq;exact⟨.int_list _ _ J G,.int_list _ _ J G,.int_list _ _ J G⟩
 |str a=>
  unfold Has at B;subst B;obtain⟨t,rfl⟩:=j
  cases S with
  |non=>unfold Has at Z;subst Z;cases L;unfold Dat.pq;exact⟨.str_none _ _,.str_none _ _,.str_none _ _⟩
  |bl b=>unfold Has at Z;subst Z;cases L;unfold Dat.pq;exact⟨.str_bool _ _ _,.str_bool _ _ _,.str_bool _ _ _⟩
  |int b=>unfold Has at Z;subst Z;obtain⟨Q,rfl⟩:=L;unfold Dat.pq;exact⟨.str_int _ _ _ _,.str_int _ _ _ _,.str_int _ _ _ _⟩
  |str b=>unfold Has at Z;subst Z;obtain⟨Q,rfl⟩:=L;unfold Dat.pq;exact⟨.str_str _ _ _ _,.str_str _ _ _ _,.str_str _ _ _ _⟩
  |tup O=>unfold Has at Z;obtain⟨p,X,rfl,R,_⟩:=Z;cases L;obtain⟨N,r,J⟩:=UY U R;unfold Dat.pq;exact⟨.str_tuple _ _ J G,.str_tuple _ _ J G,.str_tuple _ _ J G⟩
  |lst O=>unfold Has at Z;obtain⟨p,X,rfl,R,_⟩:=Z;cases L;obtain⟨N,r,J⟩:=Ud U R;unfold Dat.pq;exact⟨.str_list _ _ J G,.str_list _ _ J G,.str_list _ _ J G⟩
 |tup D=>
  unfold Has at B;obtain⟨p,xs,rfl,R,F⟩:=B;cases j;obtain⟨N,r,J⟩:=UY U R
  cases S with
  |non=>unfold Has at Z;subst Z;cases L;unfold Dat.pq;exact⟨.tuple_none J G,.tuple_none J G,.tuple_none J G⟩
  |bl b=>unfold Has at Z;subst Z;cases L;unfold Dat.pq;exact⟨.tuple_bool _ J G,.tuple_bool _ J G,.tuple_bool _ J G⟩
  |int b=>unfold Has at Z;subst Z;obtain⟨Q,rfl⟩:=L;unfold Dat.pq;exact⟨.tuple_int _ _ J G,.tuple_int _ _ J G,.tuple_int _ _ J G⟩
  |str b=>unfold Has at Z;subst Z;obtain⟨Q,rfl⟩:=L;unfold Dat.pq;exact⟨.tuple_str _ _ J G,.tuple_str _ _ J G,.tuple_str _ _ J G⟩
  |lst O=>unfold Has at Z;obtain⟨q,X,rfl,h,_⟩:=Z;cases L;obtain⟨T,g,M⟩:=Ud U h;unfold Dat.pq;exact⟨.tuple_list J M G,.tuple_list J M G,.tuple_list J M G⟩
  |tup O=>
   unfold Has at Z;obtain⟨c,X,rfl,I,E⟩:=Z;cases L;obtain⟨T,g,M⟩:=UY U I;have l1:=F.length;have l2:=E.length;have l3:=r.length;have l4:=g.length;have dd:Dat.deps D+1<=n:=by unfold Dat.dep at hn;lia
   obtain⟨m,rfl⟩:∃m,n=m+1:=⟨n-1,by lia⟩;have d:=Eo (A:=A.in1) (λC S {x y u v} z B Z j L=>(ih m rfl C S A.in1 z B Z j L i.in1).eq) (show Dat.deps D<=m by lia) F E r g;have f:N.toArray.size=D.length:=by rw[ZO];lia
   have o:T.toArray.size=O.length:=by rw[ZO];lia
   have q:=RcAt.tuples (A:=A) J M G d;have k:=RcNeAt.tuples (A:=A) J M G d;rw[f,o,GP]at q k;have e0:(Dat.tup D).pq (Dat.tup O)=Dat.pqs D O:=by conv=>lhs;unfold Dat.pq
   rw[e0];refine⟨?_,q,k⟩
   by_cases e:p=c
   .subst e
    rw[R]at I;cases I;rw[HasL.inj D O F E,Dat.pqs_self];exact EqAt.same _
   .exact EqAt.of_refs e q
 |lst D=>
  unfold Has at B;obtain⟨p,xs,rfl,R,F⟩:=B;cases j;obtain⟨N,r,J⟩:=Ud U R
  cases S with
  |non=>unfold Has at Z;subst Z;cases L;unfold Dat.pq;exact⟨.list_none J G,.list_none J G,.list_none J G⟩
  |bl b=>unfold Has at Z;subst Z;cases L;unfold Dat.pq;exact⟨.list_bool _ J G,.list_bool _ J G,.list_bool _ J G⟩
  |int b=>unfold Has at Z;subst Z;obtain⟨Q,rfl⟩:=L;unfold Dat.pq;exact⟨.list_int _ _ J G,.list_int _ _ J G,.list_int _ _ J G⟩
  |str b=>unfold Has at Z;subst Z;obtain⟨Q,rfl⟩:=L;unfold Dat.pq;exact⟨.list_str _ _ J G,.list_str _ _ J G,.list_str _ _ J G⟩
  |tup O=>unfold Has at Z;obtain⟨q,X,rfl,h,_⟩:=Z;cases L;obtain⟨T,g,M⟩:=UY U h;unfold Dat.pq;exact⟨.list_tuple J M G,.list_tuple J M G,.list_tuple J M G⟩
  |lst O=>
   unfold Has at Z;obtain⟨c,X,rfl,I,E⟩:=Z;cases L;obtain⟨T,g,M⟩:=Ud U I;have l1:=F.length;have l2:=E.length;have l3:=r.length;have l4:=g.length;have dd:Dat.deps D+1<=n:=by unfold Dat.dep at hn;lia
   obtain⟨m,rfl⟩:∃m,n=m+1:=⟨n-1,by lia⟩;have d:=Eo (A:=A.in1) (λC S {x y u v} z B Z j L=>(ih m rfl C S A.in1 z B Z j L i.in1).eq) (show Dat.deps D<=m by lia) F E r g;have f:N.toArray.size=D.length:=by rw[ZO];lia
   have o:T.toArray.size=O.length:=by rw[ZO];lia
   have e0:(Dat.lst D).pq (Dat.lst O)=Dat.pqs D O:=by conv=>lhs;unfold Dat.pq
   rw[e0]
   have l:RcAt A s (.ref p) (.ref c) (Dat.pqs D O)/\RcNeAt A s (.ref p) (.ref c) (!Dat.pqs D O):=by
    by_cases e:D.length=O.length
    .have q:=RcAt.lists (A:=A) J M (by lia) G d
     have k:=RcNeAt.lists (A:=A) J M (by lia) G d;rw[f,O3 e]at q k;exact⟨q,k⟩
    .have z:(N.toArray.size !=T.toArray.size)=true:=by rw[f,o];simp[e]
     rw[Sz e];exact⟨RcAt.lists_lengths (A:=A) J M z G,RcNeAt.lists_lengths (A:=A) J M z G⟩
   refine⟨?_,l.1,l.2⟩
   by_cases e:p=c
   .subst e
    rw[R]at I;cases I;rw[HasL.inj D O F E,Dat.pqs_self];exact EqAt.same _
   .exact EqAt.of_refs e l.1
theorem Gc(G:HOk P w H s.heap):∀(n:Nat)(Z J:Dat)(A:Around){x y:V}{u v:Value},Z.dep<=n->Has H x Z->Has H y J->RelV x u->RelV y v->Vu (n+1) A->Cmp A s u v (Z.pq J)
 |0,Z,J,A,_,_,_,_,hn,hx,hy,ru,rv,hr=>Nm G 0 (λ_ e=>nomatch e) Z J A hn hx hy ru rv hr
 |n+1,Z,J,A,_,_,_,_,hn,hx,hy,ru,rv,hr=>Nm G (n+1) (λ_ e Z J A {_ _ _ _}=>by cases e;exact Gc G n Z J A) Z J A hn hx hy ru rv hr
section
def yq(k:Nat):R2:=λx y H Q=>∃d e,Has H x d/\Has H y e/\d.dep<=k/\Q (.bl<|d.pq e) H
def yo(k:Nat):R2:=λx y H Q=>∃d e,Has H x d/\Has H y e/\d.dep<=k/\Q (.bl<|!d.pq e) H
def MS(L:Vu (k+1) X.A):OpR X (compareOp .Eq) (yq k):=by
 intro Z s U H x y v u Q I G J h;obtain⟨d,e,hd,N,M,q⟩:=h;exact(Gc I.hok k d e X.A M hd N G J L).rc _ _ _ _ ⟨.bl _,H,I,rfl,q⟩
def TH(L:Vu (k+1) X.A):OpR X (compareOp .NotEq) (yo k):=by
 intro Z s U H x y v u Q I G J h;obtain⟨d,e,hd,N,M,q⟩:=h;exact(Gc I.hok k d e X.A M hd N G J L).ne _ _ _ _ ⟨.bl _,H,I,rfl,q⟩
end
end L2
namespace L2
open PySem PySem.Spec PyProof.Rows
mutual
def Dat.st:Dat->Bool
 |.str _=>true
 |.tup ds=>Dat.sts ds
 |_=>false
def Dat.sts:List Dat->Bool
 |[]=>true
 |d::ds=>d.st && Dat.sts ds
end
end L2
namespace L2
open PySem
inductive Shp where
 |tags (ts:List Str)
 |pair (a b:Str)
abbrev pi:=List (Str×Shp)
def Shp.dat:Shp->Dat
 |.tags ts=>.tup [.str "tags",.tup (ts.map Dat.str)]
 |.pair a b=>.tup [.str "pair",.str a,.str b]
def M3(s:JU H p)(h:H a=some (.tup Z)):a≠p:=λe=>by
 obtain⟨_,_,_,_,q⟩:=s;rw[<-e,h]at q;cases q
end L2
namespace K4
open PySem L2
def Oc:Yh ["stream","many"] ["stream","many"] (Yd BQ):=Y2
def RC:(Str.ofString "abcdefghijklmnopqrstuvwxyz")=alpha 97:=by decide +kernel
def RL:(Str.ofString "ABCDEFGHIJKLMNOPQRSTUVWXYZ")=alpha 65:=by decide +kernel
section
variable{K:W.Frag}
def Rp:Sp:=λG H Q _=>∃(p:Addr)(many:Nat),G=[.ref p,.int many]/\JU H p/\many<=8/\
 ∀(r:Addr)(J:kQ)(Z:Hp),SameB p H Z->JU Z p->H r=none->r≠p->Z r=some (.lst<|J.map V.str)->J.length=many->Wds 97 J->Q (.ref r) Z
def Ki(F:Fun K "_law_small" "_law_small" BQ f B)(G:Ye P w K J base CX0 n g T ["stream","many","letters","ways"] GD)(I:Binds K T ["stream","many","letters","ways"] [])(M:W.keepIn K (.ref g)=true)(L:J "_law_words"=some (.ref g)):
  Ye P w K J base CX0 (n+1) f B ["stream","many"] Rp:=by
 refine F.oq Oc λD A Z s H S Q E O h=>?_;obtain⟨p,many,rfl,N,R,q⟩:=h;exists _,YZ<|Yi<|JY G O rfl L M I .nil Y4 (pa4 (pv 0) (pv 1) Yr Ya);refine⟨p,many,97,4,?_,N,.inl Y,by decide,.inr ⟨by decide,R⟩,q⟩;rw[<-RC];rfl
end
end K4
namespace L2
open PySem
def TK(H H':Hp):Prop:=∀b Z,H b=some (.tup Z)->H' b=some (.tup Z)
def N4(h:H a=some u)(J:∀Z,u≠.tup Z):TK H (upd H a o):=λb Z e=>by
 rw[Yg (Jh e h λz=>J Z z.symm)];exact e
mutual
theorem DJ{H Z:Hp}(b:TK H Z):∀(d:Dat){v:V},d.st=true->Has H v d->Has Z v d
 |.str _,_,_,h=>by unfold Has at h |-;exact h
 |.tup ds,_,t,h=>by
  unfold Has at h |-;obtain⟨a,J,M,L,G⟩:=h;unfold Dat.st at t;exact⟨a,J,M,b _ _ L,GY b ds t G⟩
 |.non,_,t,_=>by unfold Dat.st at t;cases t
 |.bl _,_,t,_=>by unfold Dat.st at t;cases t
 |.int _,_,t,_=>by unfold Dat.st at t;cases t
 |.lst _,_,t,_=>by unfold Dat.st at t;cases t
theorem GY{H L:Hp}(b:TK H L):∀(Z:ph){J:kZ},Dat.sts Z=true->HasL H J Z->HasL L J Z
 |[],[],_,h=>Z6
 |[],_::_,_,h=>by unfold HasL at h;exact h.elim
 |_::_,[],_,h=>by unfold HasL at h;exact h.elim
 |d::Z,x::J,t,h=>by
  unfold HasL at h;unfold Dat.sts at t;have G:=Bool.and_eq_true_iff.mp t;exact Z4 (DJ b d G.1 h.1)<|GY b Z G.2 h.2
end
def NZ(k:Str×Shp):Dat:=.tup [.str k.1,k.2.dat]
def KK1(top:Nat)(c d:pj)(ahead:kQ)(y:Str):Shp->Prop
 |.tags ts=>1<=ts.length/\ts.length<=4/\c y=1+ts.length/\d y=0/\ts.Nodup
 |.pair a b=>a∈ahead/\b∈ahead/\c y=1+c a*c b/\c y<=top/\d y=1+max (d a) (d b)/\d y<=2
def KK(top:Nat)(c d:pj)(ks:pi):Prop:=∀(i:Nat)(y:Str)(s:Shp),ks[i]?=some (y,s)->KK1 top c d ((ks.take i).map (·.1)) y s
structure KG(ks:List (Str×Shp)):Prop where
 nm:Wds 97 (ks.map (·.1))
 tg:∃tgs,Wds 65 tgs/\∀(i':Nat)(y:Str)(ts:List Str),ks[i']?=some (y,.tags ts)->∃r,r<4/\ts=(tgs.drop (4*i')).take (1+r)
 pr:∀(i1 i2:Nat)(y1 y2 a b:Str),ks[i1]?=some (y1,.pair a b)->ks[i2]?=some (y2,.pair a b)->i1=i2
def KG.tags(g:KG M)(h:(y,Shp.tags L)∈M):Wds 65 L:=by
 obtain⟨Z,w,q⟩:=g.tg;obtain⟨i,N,e⟩:=vZ.mp h;obtain⟨r,_,rfl⟩:=q i y L (by rw[ZD N,e]);have J:∀z,z∈(Z.drop<|4*i).take (1+r)->z∈Z:=λz G=>qG<|Zk G;exact⟨w.nd.sublist<|(jq _ _).trans<|List.drop_sublist _ _,λz G=>w.len z<|J z G,λz G=>w.abc z<|J z G⟩
def take_snoc{α:Type}{l:List α}{a:α}(h:l[i]?=some a):l.take (i+1)=l.take i++[a]:=by
 have Z:=(ZF.mp h).1;rw[List.take_succ_eq_append_getElem Z,(ZF.mp h).2]
def L7(h:u D (U.set k<|some v) H):Yl (N8 (tC v)<|Vv k) u D U H:=h
def Nj(Z:kZ)(k:Nat)(h:k<=Z.length):Ug Z none (some (k:Int))=Z.take k:=by
 unfold Ug;rw[HT.sIx_none,HT.sIx_nat,List.drop_zero,Nat.sub_zero,ji h]
def LV(h:Has H x (NZ (y,s))):∃a v,x=.ref a/\H a=some (.tup [.str y,v])/\Has H v s.dat:=by
 unfold NZ Has at h;obtain⟨a,M,rfl,N,Z⟩:=h
 match M,Z with
 |[u,v],Z=>
  unfold HasL at Z;obtain⟨L,J⟩:=Z;unfold HasL at J;unfold Has at L;subst L;exact⟨a,v,Y,N,J.1⟩
 |[],Z=>unfold HasL at Z;exact Z.elim
 |[x],Z=>unfold HasL at Z;obtain⟨_,J⟩:=Z;unfold HasL at J;exact J.elim
 |_::_::_::_,Z=>unfold HasL at Z;obtain⟨_,J⟩:=Z;unfold HasL at J;obtain⟨_,G⟩:=J;unfold HasL at G;exact G.elim
def Jb(Z:pe)(L:∀J G,Z J G->u D J G)(main:∀N:pe,(∀J G,Z J G->N J G)->t {D with nx:=N} U H):Yl t u D U H:=main _ L
end L2
namespace K4
open PySem L2
end K4
namespace L2
open PySem
def Vh(ks:pi)(y:Str):Option Shp:=(ks.find? λk=>decide<|k.1=y).map (·.2)
def VA(ks:pi):Nat->Str->List W
 |0,_=>[]
 |n+1,y=>match Vh ks y with
  |none=>[]
  |some (.tags ts)=>.non::ts.map W.tag
  |some (.pair a b)=>.non::(VA ks n a).flatMap λu=>(VA ks n b).map λv=>.pair u v
def Xt(h:Vh Z y=some s):(y,s)∈Z:=by
 unfold Vh at h
 cases e:Z.find? λk=>decide (k.1=y)with
 |none=>rw[e]at h;cases h
 |some k=>
  rw[e]at h;have J:k.2=s:=ZT h;have q:=List.find?_some e;have m:=vt e;have z:k.1=y:=Zt q;rw[<-J,<-z];exact m
def Jq(h:y∈Z.map (·.1)):∃s,Vh Z y=some s:=by
 obtain⟨k,J,rfl⟩:=ZW.mp h;unfold Vh
 cases e:Z.find? λz=>decide (z.1=k.1)with
 |none=>
  have q:=qe.mp e k J;simp at q
 |some z=>exact⟨z.2,Y⟩
def KK.at(h:KK top c d J)(e:Vh J y=some s):KK1 top c d (J.map (·.1)) y s:=by
 obtain⟨i,M,N⟩:=vZ.mp<|Xt e;have q:=h i y s<|by rw[ZD M,N]
 have Z:∀z,z∈(J.take i).map (·.1)->z∈J.map (·.1):=λz G=>by
  obtain⟨k,L,rfl⟩:=ZW.mp G;exact ZW.mpr ⟨k,Zk L,Y⟩
 cases s with
 |tags O=>exact q
 |pair a b=>exact⟨Z a q.1,Z b q.2.1,q.2.2⟩
theorem Nf{α:Type}(f:α->List W)(k:Nat):∀(l:List α),(∀a∈l,(f a).length=k)->(l.flatMap f).length=l.length*k
 |[],_=>by simp
 |a::l,h=>by
  rw[kB,ZL,h a (by simp),Nf f k l λb Z=>h b (by simp[Z]),Zf,jI,Nat.add_comm]
theorem WQ(h:KK top c d J):∀(n:Nat)(y:Str),y∈J.map (·.1)->d y<n->(VA J n y).length=c y/\0<c y/\∀u∈VA J n y,u.dep<=d y
 |0,y,_,hd=>Zr hd<|Zw _
 |n+1,y,hy,hd=>by
  obtain⟨s,N⟩:=Jq hy;have M:=h.at N;unfold VA;rw[N]
  cases s with
  |tags L=>
   obtain⟨R,O,U,S,_⟩:=M;refine⟨?_,by lia,λu G=>?_⟩
   .show (W.non::L.map W.tag).length=c y
    rw[Zf,ZA];lia
   .have Z:u=.non\/u∈L.map W.tag:=Zd.mp G
    rcases Z with rfl|Z
    .exact Zc _
    .obtain ⟨x,_,rfl⟩:=ZW.mp Z
     exact Zc _
  |pair a b=>
   obtain⟨R,O,U,S,q,j⟩:=M;have E:=jB (d a)<|d b;have D:=jx (d a)<|d b;obtain⟨A,Q,X⟩:=WQ h n a R (by lia);obtain⟨F,P,C⟩:=WQ h n b O (by lia);refine⟨?_,by lia,λu G=>?_⟩
   .show (W.non::(VA J n a).flatMap λu=>(VA J n b).map λv=>.pair u v).length=c y
    rw[Zf,Nf _ (c b) _ (λa _=>by rw[ZA,F]),A];lia
   .have Z:u=.non\/u∈(VA J n a).flatMap λu=>(VA J n b).map λv=>.pair u v:=Zd.mp G
    rcases Z with rfl|Z
    .exact Zc _
    .obtain ⟨x,hx,hu2⟩:=List.mem_flatMap.mp Z
     obtain⟨z,I,rfl⟩:=ZW.mp hu2;have B:=X x hx;have T:=C z I;show 1+max x.dep z.dep<=d y;have:=Nat.max_le.mpr ⟨Zb B E,Zb T D⟩;lia
theorem UB(h:KK top c d Z):∀(n m:Nat)(y:Str),y∈Z.map (·.1)->d y<n->d y<m->VA Z n y=VA Z m y
 |0,_,_,_,h1,_=>Zr h1<|Zw _
 |_+1,0,_,_,_,h2=>Zr h2<|Zw _
 |n+1,m+1,y,hy,h1,h2=>by
  obtain⟨s,J⟩:=Jq hy;have M:=h.at J;unfold VA;rw[J]
  cases s with
  |tags N=>rfl
  |pair a b=>
   obtain⟨L,G,B,T,R,O⟩:=M;have E:=jB (d a)<|d b;have D:=jx (d a)<|d b;show(W.non::_)=(W.non::_);rw[UB h n m a L (by lia) (by lia),UB h n m b G (by lia) (by lia)]
theorem WT:∀{J:kQ}{Z:kZ},HasL H Z (J.map Dat.str)->Z=J.map V.str
 |[],[],_=>rfl
 |[],_::_,h=>by rw[jQ]at h;unfold HasL at h;exact h.elim
 |_::_,[],h=>by rw[ZV]at h;unfold HasL at h;exact h.elim
 |t::J,z::Z,h=>by
  rw[ZV]at h;unfold HasL at h;obtain⟨g1,G⟩:=h;unfold Has at g1;rw[g1,WT G];rfl
def wOf(ks:pi)(n:Nat):Shp->List W
 |.tags ts=>.non::ts.map W.tag
 |.pair a b=>.non::(VA ks n a).flatMap λu=>(VA ks n b).map λv=>.pair u v
def WR(h:Vh Z y=some s):VA Z (n+1) y=wOf Z n s:=by
 conv=>lhs;unfold VA
 rw[h];cases s <;> rfl
def X9(h:Has H v (Shp.tags M).dat):∃p l,v=.ref p/\H p=some (.tup [.str "tags",.ref l])/\H l=some (.tup<|M.map V.str):=by
 unfold Shp.dat Has at h;obtain⟨p,T,rfl,B,Z⟩:=h
 match T,Z with
 |[u,v],Z=>
  unfold HasL at Z;obtain⟨O,J⟩:=Z;unfold HasL at J;unfold Has at O;subst O;have G:=J.1;unfold Has at G;obtain⟨l,R,rfl,N,L⟩:=G;have e:R=M.map V.str:=WT L;rw[e]at N;exact⟨p,l,Y,B,N⟩
 |[],Z=>unfold HasL at Z;exact Z.elim
 |[x],Z=>unfold HasL at Z;obtain⟨_,J⟩:=Z;unfold HasL at J;exact J.elim
 |_::_::_::_,Z=>unfold HasL at Z;obtain⟨_,J⟩:=Z;unfold HasL at J;obtain⟨_,G⟩:=J;unfold HasL at G;exact G.elim
def Xk(h:Has H v (Shp.pair a b).dat):∃p,v=.ref p/\H p=some (.tup [.str "pair",.str a,.str b]):=by
 unfold Shp.dat Has at h;obtain⟨p,N,rfl,O,Z⟩:=h
 match N,Z with
 |[u,v,w],Z=>
  unfold HasL at Z;obtain⟨M,J⟩:=Z;unfold HasL at J;obtain⟨J,G⟩:=J;unfold HasL at G;have G:=G.1;unfold Has at M J G;subst M J G;exact⟨p,Y,O⟩
 |[],Z=>unfold HasL at Z;exact Z.elim
 |[x],Z=>unfold HasL at Z;obtain⟨_,J⟩:=Z;unfold HasL at J;exact J.elim
 |[x,y],Z=>unfold HasL at Z;obtain⟨_,J⟩:=Z;unfold HasL at J;obtain⟨_,G⟩:=J;unfold HasL at G;exact G.elim
 |_::_::_::_::_,Z=>unfold HasL at Z;obtain⟨_,J⟩:=Z;unfold HasL at J;obtain⟨_,G⟩:=J;unfold HasL at G;obtain⟨_,L⟩:=G;unfold HasL at L;exact L.elim
theorem M7:∀Z:kQ,HasL H (Z.map V.str)<|(Z.map W.tag).map W.dat
 |[]=>Z6
 |t::Z=>Z4 (by show Has H (.str t) (W.dat<|.tag t);unfold W.dat Has;rfl)<|M7 Z
end L2
namespace L2
open PySem PySem.Spec PyProof.Rows
section
def UT(K:W.Frag):R2:=λx y H Q=>∃a b Z,x=.ref a/\y=.ref b/\SqT K H a []/\SqT K H b Z/\Q (.ref b) H
def PK:OpR X (binaryOp .Add) (UT X.K):=by
 intro O s U H x y v u Q I D B h;obtain⟨a,b,t,rfl,rfl,j,P,q⟩:=h;cases D;cases B;obtain⟨C,E,A,_⟩:=I.tuple j;obtain⟨Z,m,F,_⟩:=I.tuple P;cases E;obtain⟨⟨k,z,data,sl⟩,R,T,n,hd⟩:=id A;obtain⟨⟨g,N,data2,M⟩,J,L,S,G⟩:=id F;simp only at T hd L G;subst T hd L G;exact concat_meets ⟨_,R,Y⟩ ⟨_,J,Y⟩ noFill_tuple_add seq_tuple_add qv ql (qk _ _)
  (tuple_addW0 a b _ Z.toArray n S z N sl M rfl) ⟨R,J,.ref b,H,I,rfl,q⟩
def J0:OpR X (binaryOp .Add) (λx y H Q=>UT X.K x y H Q\/US X.K x y H Q):=PK.or MT
end
def Jv:plainId "dict.update.loop"=true:=by decide +kernel
def WE:entryFor table "dict.update.loop"=some Builtin.«dict.update.loop»:=entryFor_of_fast<|by kernel_rfl
def vR{prog:Program}{w:World}(h₀:Heap)(vs:List (Key×Value))(i:Nat)(v:Value):Prop:=
 ∃a k J Z,v=.ref a/\vs[i]?=some (k,Z)/\h₀.IsTuple a #[J,Z]/\(VD prog w).is k J=true
def RO(Z:List (Key×Value))(T:(Z.map (·.1)).Nodup)(e:Z[i]?=some (k,u)):stored (Z.take i) k u=Z.take (i+1):=by
 obtain⟨A,F⟩:=ZF.mp e
 have L:(Z.take i).any (λG=>decide<|G.1=k)=false:=by
  rw[kC];intro J;obtain⟨G,B,D⟩:=qr.mp J;have M:G.1=k:=Zt D;obtain⟨j,E,R⟩:=vZ.mp B;rw[ZN]at E;rw[List.getElem_take]at R;have N:j<(Z.map (·.1)).length:=by rw[ZA];lia
  have O:i<(Z.map (·.1)).length:=by rw[ZA];lia
  have q:(Z.map (·.1))[j]=(Z.map (·.1))[i]:=by
   rw[jJ,jJ,R,F,M]
  exact jc.mp T j i N O (by lia) q
 unfold stored;rw[L,List.take_add_one,e]
 rfl
section
variable{St:Nat->Heap->Prop}
def P9(W:Walks prog w A.in1 I fp wr n P St)(E:vs.length=n)(hsz:vs.length<=sizeLine)(hn:(vs.map (·.1)).Nodup)(hP:∀i v,P i v->vR (prog:=prog) (w:=w) h₀ vs i v)(d:Addr)(U:d∉fp)(hw:∀b o,h₀.get? b=some o->b∉wr/\b≠d)(O:Value):
  ∀(k i:Nat)(s:Shared)(j:Int)(t:Tok),n-i=k->i<=n->St i s.heap->s.heap.DictOf (VD prog w) d (vs.take i)->(∀b o,h₀.get? b=some o->s.heap.get? b=some o)->
  (∀J N,J.DictOf (VD prog w) d vs->(∀b o,b∉wr->b≠d->s.heap.get? b=some o->J.get? b=some o)->R (.ok<|.ret O) {s with heap:=J,toks:=N})->
  codeAny (model prog w) A (.builtin "dict.update.loop" ⟨[.ref d,.ref I,.int j t,O],[]⟩) R s:=by
 have S:d∉wr:=λh=>U<|W.sub _ h;intro k
 induction k with
 |zero=>
  intro i s j t hk hi G hd h0 r;have c:i=n:=by lia
  subst c;refine qS WE ?_;rw[Around.under_plainId Jv _];refine Zl (m:=pyNext<|.ref I)<|W.done s _ _ G λJ N Z=>Zl<|Zm<|Zm ?_;refine r J N ?_ λb o M _ e=>Z b o M e;rw[<-E,kH]at hd;obtain⟨o,x,ep,g,rest⟩:=hd;exact⟨o,x,ep,Z d o S g,rest⟩
 |succ k ih=>
  intro i s j t hk hi G hd h0 r;have D:i<n:=by lia
  refine qS WE ?_;rw[Around.under_plainId Jv _];refine Zl (m:=pyNext<|.ref I)<|W.item i s _ _ D G λv J N l T Z=>?_;obtain⟨a,J2,ku,vu,rfl,ev,ht,F⟩:=hP i v l;have Q:∀b o,h₀.get? b=some o->J.get? b=some o:=λb o e=>Z b o (hw b o e).1<|h0 b o e;obtain⟨o,g,hc,m,hdat⟩:=ht;have B:=Q a o g;have hT:({s with heap:=J,toks:=N}:Shared).TypeIs (.ref a) "tuple":=⟨o,B,hc⟩;refine Zl<|wpAny_holding<|Zl<|wpAny_tryCatch ?_;simp only[Builtin.Dict.pairItems];refine Zl (m:=typeOf<|.ref a)<|qN hT ?_;rw[Zp (by decide)];refine Zl<|vW B hdat<|Zm ?_;show wpAny _ A.in1 (holding [ku,vu]<|dictSet d ku vu) _ _ _
  have u:Heap.DictOf (VD prog w) J d (vs.take i):=by
   obtain⟨o1,x,ep,q,rest⟩:=hd;exact⟨o1,x,ep,Z d o1 S q,rest⟩
  refine wpAny_holding<|wpAny_dictSet_pairs (hsz:=by rw[ZN];lia) F u λh2 C L=>?_;rw[RO vs hn ev]at C;refine Zm ⟨plainId_quiet Jv _,ih (i+1) _ (j+1) 0 (by lia) D (W.frame _ _ _ T λb M o e=>?_) C (λb o e=>?_) λh3 y f p=>?_⟩
  .exact (L.2 b λz=>U<|z ▸ M).trans e
  .exact (L.2 b (hw b o e).2).trans (Q b o e)
  .refine r h3 y f λb o M X e=>p b o M X<|(L.2 b X).trans<|Z b o M e
end
section
def OG(K:W.Frag)(H:Hp)(ts:kU)(kvs:kY):Prop:=ts.length=kvs.length/\∀(i:Nat)(a:Addr)(k:Key)(y:V),ts[i]?=some a->kvs[i]?=some (k,y)->SqT K H a [kV k,y]
theorem NJ(h:Heap):∀(L:kU)(Z:kY),L.length=Z.length->(∀(i:Nat)(a:Addr)(k:Key)(y:V),L[i]?=some a->Z[i]?=some (k,y)->∃G J,h.IsTuple a #[G,J]/\RelV (kV k) G/\RelV y J)->
  ∃M,KV Z M/\∀(i:Nat)(a:Addr),L[i]?=some a->∃k G J,M[i]?=some (k,J)/\h.IsTuple a #[G,J]/\RelV (kV k) G
 |[],[],_,_=>⟨[],.nil,λi a e=>by simp at e⟩
 |[],_::_,e,_=>by simp at e
 |_::_,[],e,_=>by simp at e
 |t::L,kv::Z,e,hp=>by
  obtain⟨G,J,D,B,T⟩:=hp 0 t kv.1 kv.2 rfl rfl;obtain⟨M,r,R⟩:=NJ h L Z (by simpa using e) λi a k y F E=>hp (i+1) a k y F E;refine⟨(kv.1,J)::M,.cons ⟨Y,T⟩ r,λi a O=>?_⟩
  cases i with
  |zero=>
   have N:some t=some a:=O;cases N;exact⟨kv.1,G,J,Y,D,B⟩
  |succ i=>exact R i a O
end
end L2
namespace L2
open PySem
def KK.small(h:KK 30 c d G)(L:y∈G.map (·.1)):d y<=2/\c y<=30:=by
 obtain⟨s,M⟩:=Jq L;have Z:=h.at M
 cases s with
 |tags B=>obtain⟨T,R,O,J⟩:=Z;lia
 |pair a b=>obtain⟨T,R,O,J,D,N⟩:=Z;exact⟨N,J⟩
end L2
namespace L2
open PySem PySem.Spec PyProof.Rows
section
def P4{i:Nat}{Q:kO}(y:IsEnum s.heap e it i old)(z:SI a s.heap it l i xs)(nl:l≠it)(hx:xs[i]?=some x)(J:e≠it)(hQ:∀g,IsEnumOut g e it ((i:Int)+1) x s.heap.objs.size->SJ a g it l (i+1)->g.get? s.heap.objs.size=some {cls:=.type "tuple",data:=.seq #[.int i s.toks,x]}->g.objs.size=s.heap.objs.size+1->
   (∀b o,b≠e->b≠it->s.heap.get? b=some o->g.get? b=some o)->Q (.ref s.heap.objs.size) {s with heap:=g,toks:=s.toks+1}):
  wpAny (model prog w) A (Builtin.«enumerate.__next__» ⟨[.ref e],[]⟩) (λc s'=>∃v,c=.done (.ret v)/\Q v s') E s:=by
 obtain⟨Z,g,d,R,os⟩:=s;refine Zl (m:=field (.ref e) 2)<|Zo y rfl (x:=.ref it) rfl ?_;refine Zl<|XF z nl hx λg1 n N=>?_;replace N:Heap.SameBut it Z g1:=N;have P:IsEnum g1 e it i old:=(N.2 e J).trans y;refine Zl (m:=field (.ref e) 3)<|Zo P rfl (x:=rawInt i) rfl ?_;refine Zl (m:=field (.ref e) 4)<|Zo P rfl (x:=.none) rfl ?_;refine Zl (m:=mkInt i)<|wpAny_mkInt ?_;refine Zl (m:=setField (.ref e) 3<|rawInt<|(i:Int)+1)<|vq P (by simp) λS X M=>?_;replace M:Heap.SameBut e g1 S:=M;replace X:IsEnum S e it ((i:Int)+1) old:=X;refine Zl (m:=setField (.ref e) 4 .none)<|vq X (by simp) λO C L=>?_;replace L:Heap.SameBut e S O:=L;replace C:IsEnum O e it ((i:Int)+1) old:=C;refine Zl (m:=newTuple [.int i R,x])<|wpAny_newTuple ?_;have U:IsEnum (O.push {cls:=.type "tuple",data:=.seq #[.int i R,x]}) e it ((i:Int)+1) old:=ZE _ C;generalize q4:O.push {cls:=.type "tuple",data:=.seq #[.int i R,x]}=g4 at U;have T:O.objs.size=Z.objs.size:=by rw[L.1,M.1,N.1]
 have el:e<Z.objs.size:=ZP y;have t4:g4.get? Z.objs.size=some {cls:=.type "tuple",data:=.seq #[.int i R,x]}:=by rw[<-q4,<-T];exact ZY _ Y
 have z4:g4.objs.size=Z.objs.size+1:=by rw[<-q4,jd,T]
 have k4:∀b o,b≠e->b≠it->Z.get? b=some o->g4.get? b=some o:=λb o G h t=>by
  rw[<-q4];exact ZE _<|L.extBut b o G<|M.extBut b o G<|N.extBut b o h t
 have j4:SJ a g4 it l (i+1):=by
  rw[<-q4];exact n.sj.to λo ho=>ZE _<|L.extBut _ o (Zs J)<|M.extBut _ o (Zs J) ho
 show wpAny _ _ (Builtin.SmallTypes.ownedTupleIsFree (.ref e) >>=_) _ _ ⟨g4,g,d,R+1,os⟩;rw[T];clear q4 C L X M P N n T O S g1;refine Zl (m:=Builtin.SmallTypes.ownedTupleIsFree<|.ref e)<|Zl (m:=field (.ref e) 0)<|Zo U rfl (x:=.none) rfl (Zm ?_);simp only[if_true];refine Zl (jY<|Zl<|Zo U rfl (x:=old) rfl (Zl<|vq U (by simp) λp r F=>?_));replace F:Heap.SameBut e g4 p:=F;replace r:IsEnum p e it ((i:Int)+1) x:=r;refine Zl (m:=Builtin.SmallTypes.ownedTupleHandOut (.ref e)<|.ref Z.objs.size) ?_;simp only[Builtin.SmallTypes.ownedTupleHandOut];refine Zl<|vq r (by simp) λk u D=>?_;replace D:Heap.SameBut e p k:=D;replace u:IsEnumOut k e it ((i:Int)+1) x Z.objs.size:=u;refine vq u (by simp) λI f B=>?_;replace B:Heap.SameBut e k I:=B;replace f:IsEnumOut I e it ((i:Int)+1) x Z.objs.size:=f;have j:∀b o,b≠e->g4.get? b=some o->I.get? b=some o:=λb o G q=>B.extBut b o G<|D.extBut b o G<|F.extBut b o G q;refine Zl<|wpAny_letGo<|Zm ⟨_,rfl,hQ I f (j4.to λo q=>j _ o (Zs J) q) (j _ _ (jp el) t4) (by rw[B.1,D.1,F.1,z4]) λb o G h t=>j b o G<|k4 b o G h t⟩
def Pg{i:Nat}(J:IsEnum s.heap e it i old)(z:SI M s.heap it l i L)(N:l≠it)(O:L[i]?=some x)(Z:e≠it)(R:∀g,IsEnumOut g e it ((i:Int)+1) x s.heap.objs.size->SJ M g it l (i+1)->g.get? s.heap.objs.size=some {cls:=.type "tuple",data:=.seq #[.int i s.toks,x]}->g.objs.size=s.heap.objs.size+1->
   (∀b o,b≠e->b≠it->s.heap.get? b=some o->g.get? b=some o)->Q (some<|.ref s.heap.objs.size) {s with heap:=g,toks:=s.toks+1}):wpAny (model prog w) A (pyNext<|.ref e) Q E s:=by
 have G:s.TypeIs (.ref e) "enumerate":=⟨_,J,rfl⟩;simp only[pyNext];exact Zl (qa (wpAny_callSpecial?_slot (name:=Str.ofString "__next__") G j7 (vz j7 G F.entry_enumerate_next
   (P4 J z N O Z λg a b c d k=>Zm<|R g a b c d k) (F.args_enumerate_next_1 _))))
def Ar{i:Nat}(N:A.handled=none)(Z:IsEnum s.heap e it i old)(z:SI D s.heap it l i G)(L:G[i]?=none)(R:∀g,Heap.ExtBut it s.heap g->Q none {s with heap:=g}):wpAny (model prog w) A (pyNext<|.ref e) Q E s:=by
 have J:s.TypeIs (.ref e) "enumerate":=⟨_,Z,rfl⟩;simp only[pyNext];refine Zl<|qa<|wpAny_callSpecial?_slot (name:=Str.ofString "__next__") J j7<|vz j7 J F.entry_enumerate_next ?_<|F.args_enumerate_next_1 _;refine Zl (m:=field (.ref e) 2)<|Zo Z rfl (x:=.ref it) rfl (Zl<|R9 N z L λg y B ⟨o,M,O⟩=>?_);exact Zl<|j9 (T:="StopIteration") (b:=true) ⟨o,M,O⟩ isSubtype_stop<|Zm<|R _ B
set_option tactic.hygienic true in
def FY(J:Bool)(l:Addr)(N:kX):Meets (Builtin.«enumerate.__new__» ⟨[.type "enumerate",.ref l],[]⟩) (λ_ R s=>Wk J s.heap l N/\
   R (.ok<|.ret<|.ref (s.heap.push<|Jj J l).objs.size) {s with heap:=(s.heap.push<|Jj J l).push {cls:=.type "enumerate",data:=.fields #[.none,.bool false,.ref s.heap.objs.size,rawInt 0,.none,.none]}}):=
 .of_wp λO w A R s h=>by
  obtain⟨D,g,d,F,I⟩:=s;obtain⟨L,h⟩:=h;have B:=sub_enumerate;have T:Wk J (Shared.heap ⟨D,g,d,F,I⟩) l N:=L
  obtain⟨G,Z,S⟩:∃G,D.get? l=some G/\(∃E n,G.data=.seq E n):=by
   cases J with
   |false=>obtain⟨o,e,_,n,M⟩:=L;exact⟨o,e,_,n,M⟩
   |true=>obtain⟨o,e,_,n,M⟩:=L;exact⟨o,e,_,n,M⟩
  wp_walk using AutoSeq1.wpAny_loadPart' Z
  refine wpAny_stack_any λst=>Zm ?_
  split
  .rename_i c _ _ _ _ _
   cases(c==Value.type "enumerate") <;> (wp_walk using AutoSeq1.wpAny_loadPart' Z,W9 T;exact⟨_,Y,h⟩)
  .wp_walk using AutoSeq1.wpAny_loadPart' Z,W9 T
   exact⟨_,Y,h⟩
def QE(N:Wk Z s.heap l L)(h:∀g,IsEnum g (s.heap.objs.size+1) s.heap.objs.size 0 .none->SJ Z g s.heap.objs.size l 0->(∀c o,s.heap.get? c=some o->g.get? c=some o)->Q (.ref<|s.heap.objs.size+1) {s with heap:=g}):
  wpAny (model prog w) A (call (.type "enumerate") [.ref l]) Q E s:=by
 refine callType_new F.called_enumerate (by decide) (F.typeCall_enumerate_1 _) (F.newCall_enumerate_1 _) (λG=>F.args_object_init_2 G _) F.entry_enumerate_new (FY Z l L) ⟨N,?_⟩;have O:(s.heap.push<|Jj Z l).objs.size=s.heap.objs.size+1:=jd ..;have J:((s.heap.push<|Jj Z l).push {cls:=.type "enumerate",data:=.fields #[.none,.bool false,.ref s.heap.objs.size,rawInt 0,.none,.none]}).get? (s.heap.push<|Jj Z l).objs.size=some _:=ZY _ rfl;have M:SJ Z ((s.heap.push<|Jj Z l).push {cls:=.type "enumerate",data:=.fields #[.none,.bool false,.ref s.heap.objs.size,rawInt 0,.none,.none]}) s.heap.objs.size l 0:=(SJ.new Z s.heap l).to λo q=>ZE _ q;show _/\_;rw[O]at J |-;exact⟨⟨_,J,Y⟩,h _ J M λc o q=>ZE _<|ZE _ q⟩
end
structure ER(h:Heap)(e it:Addr)(tp:Bool)(l:Addr)(k:Nat):Prop where
 enu:∃old,IsEnum h e it k old
 one:SJ tp h it l k
def Ite(K:W.Frag)(tp:Bool)(l:Addr):It:=
 ⟨λi H=>∃Z x,Sq K tp H l Z/\Z[i]?=some x,λi H v J=>∃r x,v=.ref r/\H r=none/\J=upd H r (.tup [.int (i:Nat),x])/\∀Z,Sq K tp H l Z->Z[i]?=some x,λi H=>∃Z,Sq K tp H l Z/\Z.length<=i⟩
def OP{P:Program}{w:World}{K:W.Frag}{N:pB}{x1}{C:Pos}{e it l:Addr}{a:Bool}(n1:e≠it)(n2:l≠it):Turn P w K (.Tuple N x1 C) (Ite K a l) [e,it] e (λi h=>ER h e it a l i) where
 mem:=by simp
 obj:=λi h st b Z=>by
  have q:b=e\/b=it:=by simpa using Z
  rcases q with q|q <;> rw[q]
  .obtain ⟨G,M⟩:=st.enu
   exact⟨_,M,λv e=>nomatch e⟩
  .exact st.one.obj
 keep:=λi h h' st k=>⟨let⟨G,M⟩:=st.enu;⟨G,k e (by simp) _ M⟩,st.one.to λo q=>k it (by simp) o q⟩
 item:=by
  intro X u p r hc i J s U H E I L st f;subst u p r;obtain⟨xs,x,R,hx⟩:=f;obtain⟨m,S,B⟩:=I.sq R;obtain⟨D,c,A⟩:=S.get hx;obtain⟨G,T⟩:=st.enu;have O:e<s.heap.objs.size:=ZP T;refine Pg T (st.one.si B) n2 (x:=D) (by simpa using c) n1 λg ho hj ht sz t=>?_;have y:∀b o,b ∉ [e,it]->s.heap.get? b=some o->g.get? b=some o:=λb o Z q=>t b o (λz=>Z<|by simp[z]) (λz=>Z<|by simp[z]) q;have I1:Inv X J U H {s with heap:=g,toks:=s.toks+1}:=I.turnedL (t':=s.toks+1) y L;have d:H s.heap.objs.size=none:=I.hok.fresh<|ZG _;exists _,Y;refine wpAny_letOwnedTupleGo_enum (s:={s with heap:=g,toks:=s.toks+1}) ho λn e2 F=>?_
  have I2:Inv X J U H {s with heap:=n,toks:=s.toks+1}:=I1.turnedL (s:={s with heap:=g,toks:=s.toks+1}) (t':=s.toks+1) (ch:=[e]) (λb o Z q=>F.extBut b o (λz=>Z<|by simp[z]) q) λb Z=>by
   have q:b=e:=by simpa using Z
   rw[q];exact L e<|by simp
  have Q:n.get? s.heap.objs.size=some {cls:=.type "tuple",data:=.seq #[.int i s.toks,D]}:=F.extBut _ _ (jp O) ht;have I3:Inv X J U (upd H s.heap.objs.size<|.tup [.int (i:Nat),x]) {s with heap:=n,toks:=s.toks+1}:=I2.retrack d (I.fpOk (ZG _) d) ⟨sl 2,[.int i s.toks,D],.cons ⟨_,rfl⟩<|.cons A .nil,⟨_,Q,rfl,rfl,_,rfl⟩⟩
  have j:∀b∈ [e,it],b<s.heap.objs.size:=λb Z=>by
   have q:b=e\/b=it:=by simpa using Z
   rcases q with q|q <;> rw[q]
   .exact O
   .obtain ⟨o,q,_⟩:=st.one.obj
    exact ZP q
  refine⟨.ref s.heap.objs.size,_,I3,Y,⟨_,x,Y,d,Y,λzs h=>by rw[I.sq_inj h R];exact hx⟩,?_,λb Z=>?_⟩
  .exact ⟨⟨_,e2⟩,hj.to λo q=>F.extBut _ o (Zs n1) q⟩
  .rw [Yg (Ze<|j b Z)]
   exact(L b Z).1
 done:=by
  intro X u p r hc i J s U H E I L st f;subst u p r;obtain⟨xs,R,J2⟩:=f;obtain⟨m,S,B⟩:=I.sq R;have e1:=S.length;obtain⟨G,T⟩:=st.enu;refine Ar (I.ok.hd hc) T (st.one.si B) (by simp;lia) λg t=>⟨Y,?_⟩
  exact I.turnedL (t':=s.toks) (ch:=[it]) (λb o Z q=>t b o (λz=>Z<|by simp[z]) q) λb Z=>L b (by
   have q:b=it:=by simpa using Z
   rw[q];simp)
 self:=λ_ _ _ _ _ st h=>let⟨_,M⟩:=st.enu;wpAny_pyIter_enum M h
def Do:bootBuiltins "enumerate"=some (.type "enumerate"):=by decide +kernel
def zT(K:W.Frag)(ta:TA):TI:=λU H R=>ta U H λL J=>∃a Z G,L=[.ref a]/\Sq K Z J a G/\R (Ite K Z a) J
def Xz(j:Gl X "enumerate")(P:X.mg "enumerate"=none)(t:PA X [a] ta)(C:starEach [a] X.env=[(false,eval a X.env)]:=by rfl):PI X (.Tuple elts x1 tpos) (.Call (.Name "enumerate" p) [a] [] pos) (zT X.K ta):=by
 intro J s U H R I h;refine Call_ (U2 I j P Do<|ja (thn (t pos J s U H _ I h) λd Z ⟨c,T,L,E,M⟩=>?_) (by rw[C];rfl)<|by rfl);obtain⟨l,f,k,e,M,q⟩:=M;subst e;obtain⟨u,rfl,B⟩:=vals1 E;cases B;obtain⟨S,D,N⟩:=L.sq M;have F:=N.lt;refine QE N λg O Q A=>?_;refine wpAny_pyIter_enum (s:={Z with heap:=g}) O ?_;have m:Inv X J U T {Z with heap:=g}:=L.kept (t':=Z.toks) A;refine⟨_,[Z.heap.objs.size+1,Z.heap.objs.size],_,_,T,Y,m,OP (kI _)<|Ze F,⟨⟨_,O⟩,Q⟩,λb y=>?_,q⟩
 have G:Z.heap.objs.size<=b:=by
  have z:b=Z.heap.objs.size+1\/b=Z.heap.objs.size:=by simpa using y
  rcases z with z|z <;> rw[z] <;> first|exact ZG _|exact je _ _
 exact L.fpOk G<|L.hok.fresh G
end L2
namespace L2
open PySem PySem.Spec PyProof.Rows PySem.W PySem.Calls
end L2
namespace L2
open PySem PySem.Spec PyProof.Rows PySem.MeetsSeq
section
def Dn:UL X (.type "dict") (λL H Q=>∃a Z,L=[.ref a]/\H a=some (.dK Z)/\∀l,H l=none->Q (.ref l) (upd H l<|.dK Z)):=by
 intro N s U H L F Q I r h;obtain⟨a,Z,rfl,D,q⟩:=h;obtain⟨u,rfl,T⟩:=vals1 r;cases T;obtain⟨O,B,E,M,hd⟩:=Eg I.hok D;have J:=M.length;refine kt_call_dict (knd:=VD X.prog X.w) B hd (by rw[<-J];exact O) λA G R=>?_;refine⟨.ref s.heap.objs.size,_,I.laid (a:=s.heap.objs.size) (o:=.dK Z) (λb o e=>?_) (ZG _)<|Wr O (beq_eq_false_iff_ne.mpr<|Zs<|Ze I.big) M G,rfl,q _<|I.hok.fresh<|ZG _⟩;exact(R.2 b<|Ze<|ZP e).trans<|ZE _ e
end
end L2
namespace L2
open PySem PySem.Spec PyProof.Rows
def Its(x:Str):It:=⟨λi _=>i<x.cps.size,λi H v Z=>Z=H/\∃c,x.cps[i]?=some c/\v=.str ⟨#[c]⟩,λi _=>x.cps.size<=i⟩
def SIt(it:Addr)(x:Str)(i:Nat)(h:Heap):Prop:=∃ty t,(ty="str_ascii_iterator" \/ ty="str_iterator")/\h.IsStrIter it ty x t i
def LX(h:Q () s):wpAny M A (letOwnedTupleGo tg it<|.str y t) Q E s:=by
 unfold letOwnedTupleGo;cases tg <;> cases it <;> exact Zm h
def Fz{P:Program}{w:World}{K:W.Frag}{n:Expr}(it:Addr)(x:Str):Turn P w K n (Its x) [it] it (SIt it x) where
 mem:=by simp
 obj:=λi h ⟨ty,t,_,o,g,_,hd⟩ b M=>by
  cases ZQ.mp M;exact⟨o,g,λv z=>by rw[hd]at z;cases z⟩
 keep:=λi h L ⟨ty,t,Z,o,g,r⟩ k=>⟨ty,t,Z,o,k it (by simp) o g,r⟩
 item:=by
  intro X p m d B i N s U H E I A ⟨ty,t,Z,st⟩ F;subst p m d;obtain⟨q,j,_,Q,C,S⟩:=A it (by simp);have D:∀(v:Value)(L:Heap)(O:Nat),SignAt x i v->SIt it x (i+1) L->(∀b o,b ∉ [it]->s.heap.get? b=some o->L.get? b=some o)->
    (∃u,some v=some u/\wpAny (model X.prog X.w) X.A (letOwnedTupleGo n (.ref it) u) (λ_ a=>∃y l,Inv X N U l a/\RelV y u/\(Its x).yld i H y l/\SIt it x (i+1) a.heap/\∀b∈ [it],l b=none) E {s with heap:=L,toks:=O}):=λv L O T J R=>by
   obtain⟨c,u,hx,rfl⟩:=T;exact⟨_,Y,LX ⟨.str ⟨#[c]⟩,H,I.turned (λb o M e=>R b o (by simpa using M) e) q j Q C S,⟨_,Y⟩,⟨Y,c,hx,Y⟩,J,λb M=>(A b M).1⟩⟩
  rcases Z with rfl|rfl
  .exact (Walks.strAscii (I.ok.hd B) it x t).item i s _ _ F st λv L O T J R=>D v L O T ⟨_,t,.inl rfl,J⟩ R
  .exact (Walks.strWide (I.ok.hd B) it x t).item i s _ _ F st λv L O T J R=>D v L O T ⟨_,t,.inr rfl,J⟩ R
 done:=by
  intro X p m d B i N s U H E I A ⟨ty,t,Z,st⟩ F;subst p m d;obtain⟨q,j,_,Q,C,S⟩:=A it<|by simp
  have G:x.cps[i]?=none:=by
   have z:x.cps.size<=i:=F;simp[z]
  rcases Z with rfl|rfl
  .exact wpAny_pyNext_ascii_end (I.ok.hd B) st G λL f=>⟨rfl,I.turned (t':=s.toks) (λb o M e=>f b o M e) q j Q C S⟩
  .exact wpAny_pyNext_wide_end (I.ok.hd B) st G λL f=>⟨rfl,I.turned (t':=s.toks) (λb o M e=>f b o M e) q j Q C S⟩
 self:=λ_ _ _ _ _ ⟨ty,t,Z,st⟩ h=>by
  rcases Z with rfl|rfl
  .exact wpAny_pyIter_striter_ascii st h
  .exact wpAny_pyIter_striter_wide st h
section
def y6(tl:TE):TI:=λU H R=>tl U H λv Z=>∃x,v=.str x/\R (Its x) Z
def S5(O:PE X l tl):PI X tg l (y6 tl):=by
 intro Z s U H R I h;refine thn (O Z s U H _ I h) λv J ⟨y,M,L,N,x,e,q⟩=>?_;subst e;obtain⟨t,rfl⟩:=N
 have B:∀b∈ [J.heap.objs.size],J1 X Z M b:=λb T=>by
  cases ZQ.mp T;exact L.fpOk (ZG _)<|L.hok.fresh<|ZG _
 have go:∀(ty:String),(ty="str_ascii_iterator" \/ ty="str_iterator")->PIE X Z U tg R (.ref J.heap.objs.size) {J with heap:=J.heap.push {cls:=.type ty,data:=.fields #[.str x t,.int 0 0]}}:=λty G=>
  ⟨_,[J.heap.objs.size],_,_,M,rfl,L.kept (t':=J.toks) λb o e=>ZE _ e,Fz _ x,⟨ty,t,G,_,ZY _ rfl,rfl,rfl⟩,B,q⟩
 cases ha:x.cps.all (λc=>c<128)
 .exact wpAny_pyIter_wide ha (go _<|.inr rfl)
 .exact wpAny_pyIter_ascii ha (go _<|.inl rfl)
end
def VS.dk_ex(x:VS P w H h d (.dK Z)):∃u,h.get? d=some u:=let⟨_,_,_,_,o,_,_,e,_⟩:=x;⟨o,e⟩
def epO(o:Obj):Nat:=match o.data with|.dict _ ep=>ep|_=>0
section
def Inv.freeze(I:Inv X G U H s)(hd:H d=some (.dK Z))(O:s.heap.get? d=some o):Inv X G U (upd H d<|.frz o<|.dK Z) s:=by
 have L:∀b u,H b=some u->(∀l,u≠.dK l)->b≠d:=λb u e n z=>by subst z;rw[hd]at e;cases e;exact n Z Y
 have N:∀b,H b=none->b≠d:=λb e z=>by subst z;rw[hd]at e;cases e
 have J:=I.un (H':=upd H d<|.frz o<|.dK Z) (h':=s.heap) (t':=s.toks)
  ⟨λb u q _ _ _=>q,λb u q _ _ _=>⟨u.slots,q⟩,λb u q n _=>by rw[Yg (N b n)];exact n,λb u q _=>⟨u,q⟩,λb M q=>by rw[Yg (L b _ q (λl=>by intro z;cases z))];exact q,
   λb u v q=>by rw[Yg (L b _ q (λl=>by intro z;cases z))];exact q,λb R q=>⟨#[],by rw[Yg (L b _ q (λl=>by intro z;cases z)),q];simp⟩⟩ ?_
 .exact J
 .intro a u e
  by_cases z:a=d
  .subst z
   rw[Yf]at e;cases e;exact⟨O,I.hok a _ hd⟩
  .rw [Yg z]at e
   exact(I.hok a u e).stay (λb v _ q=>q) (λb q=>by rw[Yg (L b _ q (λl=>by intro z;cases z))];exact q) λb M q=>by rw[Yg (L b _ q (λl=>by intro z;cases z))];exact q
end
def Itd(d:Addr)(o:Obj)(kvs:kY):It:=
 ⟨λi H=>H d=some (.frz o<|.dK kvs)/\i<kvs.length,λi H x J=>J=H/\∃Z,kvs[i]?=some Z/\x=kV Z.1,λi H=>H d=some (.frz o<|.dK kvs)/\kvs.length=i⟩
def Pp(h:JC k v=true):RelV (kV k) v:=by
 rcases VQ h with⟨i,t,rfl,rfl⟩|⟨x,t,rfl,rfl⟩
 .exact ⟨t,rfl⟩
 .exact ⟨t,rfl⟩
def Ak(Z:JC k v=true)(h:Q () s):wpAny M A (letOwnedTupleGo tg it v) Q E s:=by
 rcases VQ Z with⟨i,t,rfl,rfl⟩|⟨x,t,rfl,rfl⟩
 .unfold letOwnedTupleGo
  cases tg <;> cases it <;> exact Zm h
 .exact LX h
section
def Inv.dict_at(I:Inv X M U H s)(hd:H d=some (.frz o<|.dK Z)):∃G,s.heap.DictAt (VD X.prog X.w) d G (epO o)/\KV Z G/\(d==sysModules)=false:=by
 obtain⟨N,_,B,G,O,F,D,E,J,T,L,R⟩:=(show VS X.prog X.w H s.heap d (.frz o<|.dK Z)from I.hok d _ hd);rw[N]at J;cases J;have e:epO o=E:=by unfold epO;rw[L]
 exact⟨G,⟨o,D,N,T,by rw[e];exact L,R⟩,O,B⟩
end
def DB{Z:List (κ×V)}{J:List (κ×Value)}(r:KV Z J):Z.length=J.length:=Paired.length r
theorem LG:∀{Z:List (κ×V)}{J:List (κ×Value)}(i:Nat)(k:κ)(u:Value),KV Z J->J[i]?=some (k,u)->∃v,Z[i]?=some (k,v)
 |_,_,i,k,u,.nil,e=>by simp at e
 |_,_,0,k,u,.cons (a:=p) (b:=q) r _,e=>by
  have L:some q=some (k,u):=e;cases L;obtain⟨G,v⟩:=p;have z:G=k:=r.1;subst z;exact⟨v,Y⟩
 |_,_,i+1,k,u,.cons _ t,e=>LG i k u t e
def Ey{P:Program}{w:World}{K:W.Frag}{n:Expr}(it d:Addr)(o:Obj)(Z:kY):Turn P w K n (Itd d o Z) [it] it (λi h=>h.IsKeyIter it d i Z.length<|epO o) where
 mem:=by simp
 obj:=λi h ⟨B,C,_,hd⟩ b G=>by
  cases ZQ.mp G;exact⟨B,C,λv z=>by rw[hd]at z;cases z⟩
 keep:=λi h l ⟨B,C,r⟩ k=>⟨B,k it (by simp) B C,r⟩
 item:=by
  intro X j S y u i O s U H E I F st R;subst j S y;obtain⟨p,g,_,m,t,q⟩:=F it (by simp);obtain⟨M,L,T,_⟩:=I.dict_at R.1;have D:=DB T;rw[D]at st;have f:i<M.length:=by have z:i<Z.length:=R.2;lia
  have c:M[i]?=some (M[i].1,M[i].2):=ZD f;obtain⟨v',Q⟩:=LG i _ _ T c;refine wpAny_pyNext_dict_item st L c λA l J N a=>?_;rw[<-D]at N;exact⟨A,Y,Ak J ⟨_,H,I.turned (t':=s.toks) (λb o G e=>(a.2 b G).trans e) p g m t q,Pp J,⟨Y,_,Q,Y⟩,N,λb G=>(F b G).1⟩⟩
 done:=by
  intro X j S y u i O s U H E I F st R;subst j S y;obtain⟨p,g,_,m,t,q⟩:=F it (by simp);obtain⟨M,L,T,_⟩:=I.dict_at R.1;have D:=DB T;rw[D]at st;have f:Z.length=i:=R.2;exact wpAny_pyNext_dict_end (I.ok.hd u) st L (qg.mpr<|by lia) λl x=>⟨rfl,I.turned (t':=s.toks) (λb o G e=>x b o G e) p g m t q⟩
 self:=λ_ _ _ _ _ st h=>wpAny_pyIter_keyiter st h
section
def zU(tl:TE):TI:=λU H R=>tl U H λv J=>∃d Z,v=.ref d/\J d=some (.dK Z)/\∀o,R (Itd d o Z)<|upd J d<|.frz o<|.dK Z
def O5(E:PE X l tl):PI X tg l (zU tl):=by
 intro Z s U H R I h;refine thn (E Z s U H _ I h) λv L ⟨y,A,N,T,d,G,e,hd,q⟩=>?_;subst e;cases T;obtain⟨o,B⟩:=(show VS X.prog X.w A L.heap d (.dK G)from N.hok d _ hd).dk_ex;have J:=N.freeze hd B;obtain⟨S,M,O,D⟩:=J.dict_at Yf;refine wpAny_pyIter_dict D M ?_;rw[<-DB O];refine⟨_,[L.heap.objs.size],_,_,_,Y,J.kept (t':=L.toks) λb o e=>ZE _ e,Ey _ d o G,⟨_,ZY _ Y,Y,Y⟩,λb F=>?_,q o⟩;cases ZQ.mp F;exact J.fpOk (ZG _)<|J.hok.fresh<|ZG _
def JT{st:Stmt}:PS X st (λ_ _ _=>False):=λ_ _ _ _ _ _ h=>h.elim
end
end L2
namespace L2
open PySem
inductive Bd where
 |tag (t:Str)|name (x:Str)|pair (a b:Bd)|one (e:Bd)|other (e:Bd)
 |choose (e:Bd) (ts:List Str) (bs:List Bd)|ask (f:Str) (as:List Bd)|letb (x k:Str) (e b:Bd)
mutual
def Bd.dat:Bd->Dat
 |.tag t=>.tup [.str "tag",.str t]
 |.name x=>.tup [.str "name",.str x]
 |.pair a b=>.tup [.str "pair",a.dat,b.dat]
 |.one e=>.tup [.str "one",e.dat]
 |.other e=>.tup [.str "other",e.dat]
 |.choose e ts bs=>.tup [.str "choose",e.dat,.tup (Bd.brs bs ts)]
 |.ask f as=>.tup [.str "ask",.str f,.tup (Bd.dats as)]
 |.letb x k e b=>.tup [.str "let",.str x,.str k,e.dat,b.dat]
def Bd.dats:List Bd->List Dat
 |[]=>[]
 |b::bs=>b.dat::Bd.dats bs
def Bd.brs:List Bd->List Str->List Dat
 |[],_=>[]
 |b::bs,t::ts=>.tup [.str t,b.dat]::Bd.brs bs ts
 |_::_,[]=>[]
end
def Bd.parts:Bd->List Bd
 |.tag _=>[]
 |.name _=>[]
 |.pair a b=>[a,b]
 |.one e=>[e]
 |.other e=>[e]
 |.choose e _ bs=>e::bs
 |.ask _ as=>as
 |.letb _ _ e b=>[e,b]
end L2
namespace L2
open PySem PySem.W PyProof.Rows
end L2
namespace L2
open PySem PySem.Spec PyProof.Rows
def Lq:typeLookup (.type "tuple") (Str.ofString "keys")=pure none:=am_miss_of_fast<|by decide +kernel
section
def Lr(B:W8 s.heap a G)(U:A.handled=none)(h:∀L M,(∀b o,s.heap.get? b=some o->L.get? b=some o)->Q none {s with heap:=L,toks:=M}):
  wpAny (model prog w) A (getAttr? (.ref a)<|Str.ofString "keys") Q E s:=by
 obtain⟨⟨c,j,y,sl⟩,N,hd,O,k,hdat⟩:=B;simp only at O hdat hd;subst O hdat hd;obtain⟨C,X,P,M,D⟩:=s;have Z:=F.slot_tuple_getattribute;have S:=Z.lookup;have z:=Z.bind<|.ref a;have I:=am_tuple_getattr_none;have q:=sub_AttributeError;have R:∀n,(Shared.mk C X P n D).TypeIs (.ref a) "tuple":=λn=>⟨_,N,rfl⟩;simp only[getAttr?,getAttrBy?,getAttrBy]
 repeat (any_goals (first|assumption|exact R _|((with_reducible show wpAny _ _ (call (Value.builtin "tuple.__getattribute__") _ _) _ _ _);refine call_meets F.slot_tuple_getattribute (R _) am_entry_tuple_getattribute (F.args_tuple_getattribute_2 _ _) (meets_getattribute_miss_tuple a G k sl (Str.ofString "keys") _ Lq (by decide +kernel)<|by size_fits) ⟨N,U,λL T e J=>?_⟩)|wp_step))
 have there:=J.there;obtain⟨_,_,t⟩:=there;refine(?_:wpAny _ _ (getattributeRaised _ _ _ _ _ _ _) _ _ _);simp only[getattributeRaised]
 repeat any_goals first|assumption|wp_step
 exact h _ _ J.keeps
end
section
def Wu(hc:X.calm=true):UL X (.type "dict") (λxs H Q=>∃(p:Addr)(L:kU)(Z:kY),xs=[.ref p]/\H p=some (.tup<|L.map V.ref)/\OG X.K H L Z/\(Z.map (·.1)).Nodup/\∀l,H l=none->Q (.ref l) (upd H l<|.dK Z)):=by
 intro G3 s U H xs us Q I r h;obtain⟨p,L,Z,rfl,x,C,hn,q⟩:=h;obtain⟨u,rfl,c⟩:=vals1 r;cases c;obtain⟨w,G,r',d⟩:=(show VS X.prog X.w H s.heap p (.tup<|L.map V.ref)from I.hok p _ x);rw[ZA]at w
 have j:G.length=L.length:=by
  have:=r'.length;rw[ZA]at this;exact this.symm
 have G1:∀(i:Nat)(a:Addr),L[i]?=some a->G[i]?=some (Value.ref a):=λi a e=>by
  obtain⟨u,hu,c⟩:=r'.get (show(L.map V.ref)[i]?=some (V.ref a) by rw[ZH,e];rfl);rw[hu,show u=Value.ref a from c]
 obtain⟨vs,M,n⟩:=NJ s.heap L Z C.1 λi a k y e1 e2=>by
  obtain⟨M2,r2,p2,_⟩:=I.tuple<|C.2 i a k y e1 e2
  cases r2 with
  |cons r1 t1=>
   cases t1 with
   |cons r3 t3=>
    cases t3;exact⟨_,_,p2,r1,r3⟩
 have J2:vs.length=G.toArray.size:=by rw[ZO,j,C.1,<-M.length]
 have B:vs.map (·.1)=Z.map (·.1):=by
  have G2:∀{l:kY}{m:List (Key×Value)},KV l m->m.map (·.1)=l.map (·.1):=by
   intro l m q
   induction q with
   |nil=>rfl
   |cons x t ih=>rw[ZV,ZV,ih,x.1]
  exact G2 M
 have S:p<s.heap.objs.size:=by
  obtain⟨o,e,_⟩:=d;exact ZP e
 refine callType_codes (Q₁:=λob t=>ob=.ref s.heap.objs.size/\t={s with heap:=s.heap.push {cls:=.type "dict",data:=.dict #[]}}) F.kt_called_dict (F.kt_typeCall_dict_1 _) F.entry_dict_init (kt_code_dict_new _ ⟨Y,Y⟩) λob t g=>?_;obtain⟨rfl,rfl⟩:=g;have J:(s.heap.push {cls:=.type "dict",data:=.dict #[]}).DictOf (VD X.prog X.w) s.heap.objs.size []:=Heap.DictOf.new s.heap;have k0:∀b o,s.heap.get? b=some o->(s.heap.push {cls:=.type "dict",data:=.dict #[]}).get? b=some o:=λb o e=>ZE _ e;refine And.intro J.typeIs<|And.intro (F.args_dict_init_2 _ _) ?_;delta Builtin.«dict.__init__» Builtin.Dict.selfAndRest;refine Zl<|Zl<|wpAny_notOrdered_dict J.typeIs<|Zm (?_:wpAny _ _ (Builtin.Dict.updateFrom "dict.__init__" s.heap.objs.size (.ref p) [] .none) _ _ _);delta Builtin.Dict.updateFrom;have R:=d.keeps k0;refine Zl<|qN (T:="tuple") (show Shared.TypeIs _ _ _ from let⟨o,O,_,h2,_⟩:=R;⟨o,O,h2⟩) ?_;rw[Zp (by decide)];refine Zl<|Lr R (I.ok.hd hc) λO O1 N=>?_;simp only[Option.isNone_none,if_true];refine Zl<|jY ?_;refine Zl<|wpAny_pyIter_tuple (show Heap.IsTuple _ _ _ from(R.keeps N).is) ?_
 have z:s.heap.objs.size<O.objs.size:=by
  obtain⟨o,es,ep,ho,_⟩:=J;exact ZP<|N _ _ ho
 have f:∀b o,s.heap.get? b=some o->(O.push {cls:=.type "tuple_iterator",data:=.fields #[.ref p,.int 0 0]}).get? b=some o:=λb o e=>ZE _<|N b o<|k0 b o e;refine Zm ⟨plainId_quiet Jv _,P9 (Walks.tuple (A:=X.A.in1.in1) (I.ok.hd hc) O.objs.size p (Ze<|kq S z) G.toArray) (h₀:=s.heap) (vs:=vs) J2 (by rw[<-M.length,<-C.1];exact w) (by rw[B];exact hn) ?_ s.heap.objs.size ?_ ?_ .none _ 0 _ 0 0 rfl (Zc _) ?_ ?_ f ?_⟩
 .intro i v hv
  have hi:i<G.length:=by
   have:=(Array.getElem?_eq_some_iff.mp hv).1
   rwa [ZO]at this
  have g:i<L.length:=by lia
  obtain⟨k,ku,vu,e1,e2,e3⟩:=n i L[i]<|ZD g;refine⟨L[i],k,ku,vu,?_,e1,e2,XX e3⟩;have:=G1 i L[i]<|ZD g;have E:G[i]?=some v:=by simpa using hv
  rw[this]at E;exact(ZT E).symm
 .intro P
  have two:s.heap.objs.size=O.objs.size\/s.heap.objs.size=p:=by simpa using P
  rcases two with e|e
  .exact Zr e (Ze z)
  .exact Zr e (jp S)
 .intro b o e
  have D:=ZP e;refine⟨λP=>?_,Ze D⟩;have e':b=O.objs.size:=by simpa using P
  rw[e']at D;exact Zr z<|Nat.not_lt_of_lt D
 .exact ⟨⟨_,ZY _ rfl,rfl,rfl⟩,(show Heap.IsTuple _ _ _ from(d.keeps f).is)⟩
 .obtain ⟨o,es,ep,ho,rest⟩:=J
  exact⟨o,es,ep,ZE _<|N _ _ ho,rest⟩
 .intro h' tk hd' hk'
  refine⟨Y,.ref s.heap.objs.size,_,I.laid (a:=s.heap.objs.size) (o:=.dK Z) (λb o e=>?_) (ZG _)<|Wr (by rw[<-C.1];exact w) (beq_eq_false_iff_ne.mpr<|Zs<|Ze I.big) M hd',rfl,q _<|I.hok.fresh<|ZG _⟩;have D:=ZP e;refine hk' b o (λP=>?_) (Ze D)<|f b o e;have e':b=O.objs.size:=by simpa using P
  rw[e']at D;exact Zr z<|Nat.not_lt_of_lt D
end
end L2
namespace L2
open PySem
def Yu(h:Has H v (.tup J)):∃p Z,v=.ref p/\H p=some (.tup Z)/\HasL H Z J:=by unfold Has at h;exact h
def Yv(h:H p=some (.tup xs))(t:HasL H xs Z):Has H (.ref p) (.tup Z):=by unfold Has;exact⟨p,xs,Y,h,t⟩
def has_str(h:Has H v (.str x)):v=.str x:=by unfold Has at h;exact h
def Y5:Has H (.str x) (.str x):=by unfold Has;rfl
def Yc(h:HasL H Z (d::J)):∃x r,Z=x::r/\Has H x d/\HasL H r J:=by
 match Z,h with
 |[],h=>unfold HasL at h;exact h.elim
 |x::r,h=>unfold HasL at h;exact⟨x,r,Y,h.1,h.2⟩
def VC(h:HasL H Z []):Z=[]:=by
 match Z,h with
 |[],_=>rfl
 |_::_,h=>unfold HasL at h;exact h.elim
theorem Bd.dats_map:∀Z:List Bd,Bd.dats Z=Z.map Bd.dat
 |[]=>by unfold Bd.dats;rfl
 |b::Z=>by unfold Bd.dats;rw[Bd.dats_map Z];rfl
abbrev Z9:=@Bd.dats_map
theorem Bd.brs_len:∀{bs:List Bd}{ts:kQ},bs.length=ts.length->(Bd.brs bs ts).length=ts.length
 |[],[],_=>by unfold Bd.brs;rfl
 |[],_::_,e=>by simp at e
 |_::_,[],e=>by simp at e
 |b::bs,t::ts,e=>by
  unfold Bd.brs;rw[Zf,Bd.brs_len<|by simpa using e,Zf]
theorem Bd.brs_get:∀{bs:List Bd}{ts:kQ}{j:Nat}{d:Dat},(Bd.brs bs ts)[j]?=some d->∃b t,bs[j]?=some b/\ts[j]?=some t/\d=.tup [.str t,b.dat]
 |[],ts,j,d,e=>by unfold Bd.brs at e;simp at e
 |_::_,[],j,d,e=>by unfold Bd.brs at e;simp at e
 |b::bs,t::ts,0,d,e=>by
  unfold Bd.brs at e;have Z:some _=some d:=e;cases Z;exact⟨b,t,Y,Y,Y⟩
 |b::bs,t::ts,j+1,d,e=>by
  unfold Bd.brs at e;exact Bd.brs_get (bs:=bs) (ts:=ts) (j:=j) e
mutual
def Bd.ok:Bd->Prop
 |.tag _=>True
 |.name _=>True
 |.pair a b=>a.ok/\b.ok
 |.one e=>e.ok
 |.other e=>e.ok
 |.choose e ts bs=>e.ok/\bs.length=ts.length/\(1<=ts.length/\ts.length<=7)/\Bd.oks bs
 |.ask _ as=>as.length<=6/\Bd.oks as
 |.letb _ _ e b=>e.ok/\b.ok
def Bd.oks:List Bd->Prop
 |[]=>True
 |b::bs=>b.ok/\Bd.oks bs
end
theorem Bd.oks_mem:∀{Z:List Bd}{b:Bd},Bd.oks Z->b∈Z->b.ok
 |[],_,_,h=>nomatch h
 |c::Z,b,w,h=>by
  unfold Bd.oks at w;rcases Zd.mp h with rfl|h
  .exact w.1
  .exact Bd.oks_mem w.2 h
def Bd.ok_parts{b:Bd}(h:b.ok):∀c∈b.parts,c.ok:=by
 intro c Z
 cases b with
 |tag t=>cases Z
 |name x=>cases Z
 |pair a e=>
  unfold Bd.ok at h;simp only[Bd.parts,Zd,kJ,or_false]at Z;rcases Z with rfl|rfl
  .exact h.1
  .exact h.2
 |one e=>unfold Bd.ok at h;simp only[Bd.parts,ZQ]at Z;rw[Z];exact h
 |other e=>unfold Bd.ok at h;simp only[Bd.parts,ZQ]at Z;rw[Z];exact h
 |choose e J G=>
  unfold Bd.ok at h;simp only[Bd.parts,Zd]at Z;rcases Z with rfl|Z
  .exact h.1
  .exact Bd.oks_mem h.2.2.2 Z
 |ask f L=>unfold Bd.ok at h;exact Bd.oks_mem h.2 Z
 |letb x k e g=>
  unfold Bd.ok at h;simp only[Bd.parts,Zd,kJ,or_false]at Z;rcases Z with rfl|rfl
  .exact h.1
  .exact h.2
def Bd.few{b:Bd}(h:b.ok):b.parts.length<=8:=by
 cases b <;> (try (simp[Bd.parts];done)) <;> (unfold Bd.ok at h;simp only[Bd.parts,Zf,qy];lia)
end L2
namespace K4
open PySem L2
def EA:Yh ["body","word"] ["body"] (Yd BR):=Y2
def Qc:List.Nodup [("tag":Str),"branch"]:=by decide +kernel
section
def Xs:Sp:=λJ H Q _=>∃(v:V)(b:Bd),J=[v]/\Has H v b.dat/\b.ok/\∀u Z,Same H Z->Has Z u (.tup<|Bd.dats b.parts)->Q u Z
def ok_parts(B:Blt mg)(F:Fun K "parts" "parts" BR f fd):Ye P w K mg base CX0 (n+1) f fd ["body"] Xs:=by
 refine F.oq EA λR7 A G2 s H I Q E hr h=>?_;obtain⟨v,b,rfl,O,ok,q⟩:=h;refine⟨_,YY (Yz 1 EA.nd<|Yk Yq (pv 0) Ya)
  (YY (Y3 (Yp XI (pv 1) (Yj<|pa2 Yr Yr)<|by rfl) (YZ<|Yi<|Yj Vq) Yo)
  (YY (Y3 (Yp VX (pv 1) Yr<|Yx _) (YZ (Yi (VB MT (Yj<|pa1<|Yk Yq (pv 0) Ya) (VT Vy rfl B.tuple Vm (pa1 (JF ["tag","branch"] [] (J9<|Yk Yq (pv 0) Ya) TZ (λcl C fp s H=>Ve (n:=2) rfl (Yn (Ym 0 Qc rfl (Or.inl rfl) (Or.inr rfl))<|Yn (Ym 1 Qc rfl (Or.inl rfl) (Or.inr rfl)) VM))
     (λcl C fp s H=>pv 1))))))) Yo)
  (YY (Y3 (Yp VX (pv 1) Yr<|Yx _) (YZ<|Yi<|Yk Yq (pv 0) Ya) Yo)
  (YY (Y3 (Yp VX (pv 1) Yr<|Yx _) (YZ<|Yi<|V0 IY (pv 0) (JE Ya) JV) Yo)
  (YZ<|Yi<|V0 IY (pv 0) (JE Ya) JV))))),?_⟩
 show let a:=_;let b:=_;let c:=Yl (VF _ b _) a;let d:=_;let e:=Yl (VF _ d _) c;let f:=_;let g:=Yl (VF _ f _) e;let h:=_;let i:=Yl (VF _ h _) g;Yl _ i _ _ _
 intros
 cases b with
 |tag t=>
  unfold Bd.dat at O;obtain⟨p,xs,rfl,M,T⟩:=Yu O;obtain⟨r,m,rfl,D,G⟩:=Yc T;obtain rfl:=has_str D;exists _,_,Z2 M,VE (j:=0) Y;refine⟨sl 2,λN J=>?_⟩;refine⟨N,_,Y,.inr<|Z2 Yf,rfl,rfl,_,rfl,VG (by decide +kernel) ?_⟩;exact⟨sl 0,λu Z=>q _ _ ((Ys J _).trans<|Ys Z _)<|Yv Yf (by simp only[Bd.parts,Bd.dats];exact Z6)⟩
 |name x=>
  unfold Bd.dat at O;obtain⟨p,xs,rfl,M,T⟩:=Yu O;obtain⟨r,m,rfl,D,G⟩:=Yc T;obtain rfl:=has_str D;exists _,_,Z2 M,VE (j:=0) Y;refine⟨sl 2,λN J=>?_⟩;refine⟨N,_,Y,.inr<|Z2 Yf,rfl,rfl,_,rfl,VG (by decide +kernel) ?_⟩;exact⟨sl 0,λu Z=>q _ _ ((Ys J _).trans<|Ys Z _)<|Yv Yf (by simp only[Bd.parts,Bd.dats];exact Z6)⟩
 |pair a e=>
  unfold Bd.dat at O;obtain⟨p,xs,rfl,M,T⟩:=Yu O;obtain⟨r,m,rfl,D,G⟩:=Yc T;obtain rfl:=has_str D;exists _,_,Z2 M,VE (j:=0) Y;refine⟨sl 2,λN J=>?_⟩;have L:=Ys J<|.tup [V.str "tag",V.str "name"];refine⟨N,_,Y,.inr<|Z2 Yf,rfl,rfl,_,rfl,Y0 (by decide +kernel) ?_⟩;refine⟨Y,_,Y,Y0 (by decide +kernel) ?_⟩;refine⟨Y,_,Y,Y0 (by decide +kernel) ?_⟩;refine⟨Y,_,Y,Y0 (by decide +kernel) ?_⟩;refine⟨1,Y,p,_,Y,Z2<|L _ _ M,by simp[HT.sIx],λu Z=>q _ _ (L.trans<|Ys Z _)<|Yv (xs:=m) (by rw[Yf];simp[Ug,HT.sIx]) ?_⟩;exact(G.mono L).mono<|Ys Z _
 |one e=>
  unfold Bd.dat at O;obtain⟨p,xs,rfl,M,T⟩:=Yu O;obtain⟨r,m,rfl,D,G⟩:=Yc T;obtain rfl:=has_str D;exists _,_,Z2 M,VE (j:=0) Y;refine⟨sl 2,λN J=>?_⟩;have L:=Ys J<|.tup [V.str "tag",V.str "name"];refine⟨N,_,Y,.inr<|Z2 Yf,rfl,rfl,_,rfl,Y0 (by decide +kernel) ?_⟩;refine⟨Y,_,Y,Y0 (by decide +kernel) ?_⟩;refine⟨Y,_,Y,Y0 (by decide +kernel) ?_⟩;refine⟨Y,_,Y,Y0 (by decide +kernel) ?_⟩;refine⟨1,Y,p,_,Y,Z2<|L _ _ M,by simp[HT.sIx],λu Z=>q _ _ (L.trans<|Ys Z _)<|Yv (xs:=m) (by rw[Yf];simp[Ug,HT.sIx]) ?_⟩;exact(G.mono L).mono<|Ys Z _
 |other e=>
  unfold Bd.dat at O;obtain⟨p,xs,rfl,M,T⟩:=Yu O;obtain⟨r,m,rfl,D,G⟩:=Yc T;obtain rfl:=has_str D;exists _,_,Z2 M,VE (j:=0) Y;refine⟨sl 2,λN J=>?_⟩;have L:=Ys J<|.tup [V.str "tag",V.str "name"];refine⟨N,_,Y,.inr<|Z2 Yf,rfl,rfl,_,rfl,Y0 (by decide +kernel) ?_⟩;refine⟨Y,_,Y,Y0 (by decide +kernel) ?_⟩;refine⟨Y,_,Y,Y0 (by decide +kernel) ?_⟩;refine⟨Y,_,Y,Y0 (by decide +kernel) ?_⟩;refine⟨1,Y,p,_,Y,Z2<|L _ _ M,by simp[HT.sIx],λu Z=>q _ _ (L.trans<|Ys Z _)<|Yv (xs:=m) (by rw[Yf];simp[Ug,HT.sIx]) ?_⟩;exact(G.mono L).mono<|Ys Z _
 |choose e ts bs=>
  unfold Bd.dat at O;obtain⟨p,xs,rfl,M,T⟩:=Yu O;obtain⟨r,m,rfl,D,G⟩:=Yc T;obtain rfl:=has_str D;obtain⟨o,r2,rfl,h2,X⟩:=Yc G;obtain⟨x3,r3,rfl,h3,U⟩:=Yc X;obtain rfl:=VC U;obtain⟨pz,zs,rfl,G1,J2⟩:=Yu h3;unfold Bd.ok at ok;obtain⟨o1,o2,o3,o4⟩:=ok;have lz:=J2.length;rw[Bd.brs_len o2]at lz;exists _,_,Z2 M,VE (j:=0) Y;refine⟨sl 2,λN J=>?_⟩;have L:=Ys J<|.tup [V.str "tag",V.str "name"];refine⟨N,_,Y,.inr<|Z2 Yf,rfl,rfl,_,rfl,Y0 (by decide +kernel) ?_⟩;refine⟨Y,_,Y,VG (by decide +kernel) ?_⟩;refine⟨_,_,Z2<|L _ _ M,rfl,sl 1,λu Z=>?_⟩;have s2:=Ys Z<|.tup [o];have sA:=L.trans s2;exists _,_,Z2<|sA _ _ M,rfl,⟨_,Z2<|sA _ _ G1⟩;have S:=sA _ _ G1;refine Vd zs.length (Y1<|by lia) (λj I H'=>H'=upd (upd H N<|.tup [V.str "tag",V.str "name"]) u (.tup [o])/\I.length=j/\HasL H I ((bs.map Bd.dat).take j)) ⟨rfl,rfl,Z6⟩ (λj I H' z=>z.2.1) ?_ ?_ ?_ ?_
  .rintro j I H' hj ⟨rfl,_⟩
   exact⟨zs,zs[j],Z2 S,by simp[hj]⟩
  .rintro I H' ⟨rfl,_⟩
   exact⟨zs,Z2 S,ZG _⟩
  .rintro j I H' x H3 R hj ⟨rfl,z2,z3⟩ yl hR
   obtain⟨rfl,y⟩:=yl;obtain⟨d,hd,R0⟩:=J2.get<|y zs<|Z2 S;obtain⟨b,t0,R5,R6,rfl⟩:=Bd.brs_get hd;obtain⟨pp,ys,rfl,R1,G3⟩:=Yu R0;obtain⟨y1,r4,rfl,h4,O1⟩:=Yc G3;obtain⟨y2,r5,rfl,h5,M2⟩:=Yc O1;obtain rfl:=VC M2;exists _,Z2<|sA _ _ R1,rfl;refine hR _ _ ⟨Y,by rw[ZL,z2];rfl,?_⟩;rw[List.take_add_one,ZH,R5];exact Z7 z3<|Z5 h5
  .rintro I H' l ⟨rfl,z2,z3⟩ hl3
   have s3:=Ys hl3<|.lst I;refine⟨l,_,Y,.inl ⟨Z3 Yf,λl4 R4=>?_⟩⟩;have s4:=Ys R4<|.tup I;have sB:=(sA.trans s3).trans s4;rw[Zg (by rw[ZA];lia)]at z3;have e1:Bd.dats (Bd.choose e ts bs).parts=e.dat::bs.map Bd.dat:=by rw[Z9];rfl
   refine⟨u,l4,[o],I,Y,Y,Z2<|s4 _ _<|s3 _ _ Yf,Z2 Yf,by simp,Zh (Y1 (by simp only[vc];lia)),λe0=>?_,λ_ p5 R3=>?_⟩
   .refine q _ _ sB ?_
    rw[e1];subst e0
    have hb:bs=[]:=by
     have:=z3.length;simpa using this.symm
    rw[hb];exact Yv (s4 _ _<|s3 _ _ Yf)<|Z5<|h2.mono sB
   .have s5:=Ys R3<|.tup<|[o]++ I
    refine q _ _ (sB.trans s5) ?_;rw[e1];exact Yv Yf<|Z4 (h2.mono<|sB.trans s5)<|z3.mono<|sB.trans s5
 |ask g as=>
  unfold Bd.dat at O;obtain⟨p,xs,rfl,M,T⟩:=Yu O;obtain⟨r,m,rfl,D,G⟩:=Yc T;obtain rfl:=has_str D;obtain⟨o,r2,rfl,h2,X⟩:=Yc G;obtain⟨x3,r3,rfl,h3,U⟩:=Yc X;exists _,_,Z2 M,VE (j:=0) Y;refine⟨sl 2,λN J=>?_⟩;have L:=Ys J<|.tup [V.str "tag",V.str "name"];refine⟨N,_,Y,.inr<|Z2 Yf,rfl,rfl,_,rfl,Y0 (by decide +kernel) ?_⟩;refine⟨Y,_,Y,Y0 (by decide +kernel) ?_⟩;refine⟨Y,_,Y,VG (by decide +kernel) ?_⟩;exact⟨_,_,Z2<|L _ _ M,VE (j:=2) rfl,q _ _ L<|h3.mono L⟩
 |letb x k e g=>
  unfold Bd.dat at O;obtain⟨p,xs,rfl,M,T⟩:=Yu O;obtain⟨r,m,rfl,D,G⟩:=Yc T;obtain rfl:=has_str D;obtain⟨o,r2,rfl,h2,X⟩:=Yc G;obtain⟨x3,r3,rfl,h3,U⟩:=Yc X;have lr:=U.length;exists _,_,Z2 M,VE (j:=0) Y;refine⟨sl 2,λN J=>?_⟩;have L:=Ys J<|.tup [V.str "tag",V.str "name"];refine⟨N,_,Y,.inr<|Z2 Yf,rfl,rfl,_,rfl,Y0 (by decide +kernel) ?_⟩;refine⟨Y,_,Y,Y0 (by decide +kernel) ?_⟩;refine⟨Y,_,Y,Y0 (by decide +kernel) ?_⟩;refine⟨Y,_,Y,VG (by decide +kernel) ?_⟩;refine⟨3,Y,p,_,Y,Z2<|L _ _ M,by simp[HT.sIx],λu Z=>q _ _ (L.trans<|Ys Z _)<|Yv (xs:=r3) (by rw[Yf];simp[Ug,HT.sIx]) ?_⟩;exact(U.mono L).mono<|Ys Z _
end
end K4
namespace L2
open PySem
def Bd.at:Bd->List Int->Option Bd
 |b,[]=>some b
 |b,i::r=>if 0<=i then(match b.parts[i.toNat]? with|some c=>Bd.at c r|none=>none)else none
end L2
namespace K4
open PySem L2
end K4
namespace L2
open PySem PySem.Spec PyProof.Rows
mutual
def Bd.size:Bd->Nat
 |.tag _=>1
 |.name _=>1
 |.pair a b=>1+(a.size+b.size)
 |.one e=>1+e.size
 |.other e=>1+e.size
 |.choose e _ bs=>1+(e.size+Bd.sizes bs)
 |.ask _ as=>1+Bd.sizes as
 |.letb _ _ e b=>1+(e.size+b.size)
def Bd.sizes:List Bd->Nat
 |[]=>0
 |b::bs=>b.size+Bd.sizes bs
end
mutual
def Bd.dep:Bd->Nat
 |.tag _=>0
 |.name _=>0
 |.pair a b=>1+max a.dep b.dep
 |.one e=>1+e.dep
 |.other e=>1+e.dep
 |.choose e _ bs=>1+max e.dep (Bd.deps bs)
 |.ask _ as=>1+Bd.deps as
 |.letb _ _ e b=>1+max e.dep b.dep
def Bd.deps:List Bd->Nat
 |[]=>0
 |b::bs=>max b.dep<|Bd.deps bs
end
def Bd.size_eq(b:Bd):b.size=1+Bd.sizes b.parts:=by
 cases b <;> simp[Bd.size,Bd.sizes,Bd.parts]
theorem Bd.deps_mem:∀{Z:List Bd}{b:Bd},b∈Z->b.dep<=Bd.deps Z
 |[],_,h=>nomatch h
 |c::Z,b,h=>by
  unfold Bd.deps;rcases Zd.mp h with rfl|h
  .exact jB _ _
  .exact Zb (Bd.deps_mem h) (jx _ _)
def Bd.dep_mem{b c:Bd}(h:c∈b.parts):c.dep<b.dep:=by
 have hd:=Bd.deps_mem h;cases b <;> simp only[Bd.parts,Bd.deps,Bd.dep,kJ]at * <;> first|exact h.elim|omega
end L2
namespace K4
open PySem L2
end K4
namespace L2
open PySem
abbrev Hds:=Str->Option (List (Str×Str)×Str)
inductive Kd(ks:List (Str×Shp))(hd:Hds):List (Key×V)->Str->Bd->Prop
 |tag {g:List (Key×V)}{y t:Str}{ts:List Str}:Vh ks y=some (.tags ts)->t∈ts->Kd ks hd g y (.tag t)
 |name {g:List (Key×V)}{y x:Str}:VH g (Sum.inr x)=some (.str y)->Kd ks hd g y (.name x)
 |pair {g:List (Key×V)}{y a b:Str}{A B:Bd}:Vh ks y=some (.pair a b)->Kd ks hd g a A->Kd ks hd g b B->Kd ks hd g y (.pair A B)
 |one {g:List (Key×V)}{y z b:Str}{e:Bd}:Vh ks z=some (.pair y b)->Kd ks hd g z e->Kd ks hd g y (.one e)
 |other {g:List (Key×V)}{y z a:Str}{e:Bd}:Vh ks z=some (.pair a y)->Kd ks hd g z e->Kd ks hd g y (.other e)
 |choose {g:List (Key×V)}{y z:Str}{ts:List Str}{e:Bd}{bs:List Bd}:Vh ks z=some (.tags ts)->Kd ks hd g z e->bs.length=ts.length->(∀b∈bs,Kd ks hd g y b)->Kd ks hd g y (.choose e ts bs)
 |ask {g:List (Key×V)}{y f:Str}{ps:List (Str×Str)}{as:List Bd}:hd f=some (ps,y)->as.length=ps.length->(∀(i:Nat)(a:Bd)(p:Str×Str),as[i]?=some a->ps[i]?=some p->Kd ks hd g p.2 a)->Kd ks hd g y (.ask f as)
 |letb {g:List (Key×V)}{y x z:Str}{e b:Bd}:VH g (Sum.inr x)=none->z∈ks.map (·.1)->Kd ks hd (putK g (Sum.inr x) (.str z)) z e->Kd ks hd (putK g (Sum.inr x) (.str z)) y b->Kd ks hd g y (.letb x z e b)
def hdD(ps:List (Str×Str))(k:Str):Dat:=.tup [.tup (ps.map λp=>.tup [.str p.1,.str p.2]),.str k]
def Ai(Z:List (Str×Str))(k:Str):(hdD Z k).st=true:=by
 have:∀Z:List (Str×Str),Dat.sts (Z.map λp=>Dat.tup [.str p.1,.str p.2])=true:=by
  intro Z
  induction Z with
  |nil=>unfold List.map Dat.sts;rfl
  |cons p Z ih=>rw[ZV];unfold Dat.sts;rw[ih];simp[Dat.st,Dat.sts]
 simp[hdD,Dat.st,Dat.sts,this]
theorem Er:∀{Z:List Bd}{J:kQ},Dat.sts (Bd.dats Z)=true->Dat.sts (Bd.brs Z J)=true
 |[],_,_=>by unfold Bd.brs Dat.sts;rfl
 |b::Z,[],_=>by unfold Bd.brs Dat.sts;rfl
 |b::Z,t::J,h=>by
  unfold Bd.dats Dat.sts at h;rw[ZZ]at h;unfold Bd.brs Dat.sts;rw[Er h.2];simp[Dat.st,Dat.sts,h.1]
mutual
theorem Bd.st:∀b:Bd,b.dat.st=true
 |.tag t=>by simp[Bd.dat,Dat.st,Dat.sts]
 |.name t=>by simp[Bd.dat,Dat.st,Dat.sts]
 |.pair a b=>by simp[Bd.dat,Dat.st,Dat.sts,Bd.st a,Bd.st b]
 |.one a=>by simp[Bd.dat,Dat.st,Dat.sts,Bd.st a]
 |.other a=>by simp[Bd.dat,Dat.st,Dat.sts,Bd.st a]
 |.choose e G Z=>by simp[Bd.dat,Dat.st,Dat.sts,Bd.st e,Er (Bd.sts Z)]
 |.ask f J=>by simp[Bd.dat,Dat.st,Dat.sts,Bd.sts J]
 |.letb x k e b=>by simp[Bd.dat,Dat.st,Dat.sts,Bd.st e,Bd.st b]
theorem Bd.sts:∀Z:List Bd,Dat.sts (Bd.dats Z)=true
 |[]=>by unfold Bd.dats Dat.sts;rfl
 |b::Z=>by unfold Bd.dats Dat.sts;rw[Bd.st b,Bd.sts Z];rfl
end
def Fw{Z:kY}(h:VH Z k=some v):∃J∈Z,J.1=k/\J.2=v:=by
 unfold VH at h
 cases e:Z.find? (λJ=>decide<|J.1=k)with
 |none=>rw[e]at h;cases h
 |some J=>
  rw[e]at h;exact⟨J,vt e,by simpa using List.find?_some e,ZT h⟩
theorem XB:∀Z:kQ,HasL H (Z.map V.str)<|Z.map Dat.str
 |[]=>Z6
 |n::Z=>Z4 Y5<|XB Z
def zJ{Z:kQ}(h:H a=some (.lst<|Z.map V.str)):Has H (.ref a) (.lst<|Z.map Dat.str):=Pm h<|XB Z
def M9(Z:kQ):(Dat.lst<|Z.map Dat.str).dep<=1:=by
 have:∀Z:kQ,Dat.deps (Z.map Dat.str)=0:=by
  intro Z
  induction Z with
  |nil=>unfold List.map Dat.deps;rfl
  |cons n Z ih=>rw[ZV];unfold Dat.deps;rw[ih];unfold Dat.dep;rfl
 unfold Dat.dep;rw[this];decide
def S3(Z:ph):(Dat.lst Z).pq (.lst [])=Z.isEmpty:=by
 unfold Dat.pq
 cases Z with
 |nil=>unfold Dat.pqs;rfl
 |cons d Z=>unfold Dat.pqs;rfl
def D1(h:H r=some (.tup [.str a,.str b])):Has H (.ref r) (.tup [.str a,.str b]):=Yv h<|Z4 Y5<|Z4 Y5 Z6
def JU.sm(s:JU H p)(e:Same H Z):JU Z p:=let⟨a,b,c,d,h⟩:=s;⟨a,b,c,d,e _ _ h⟩
end L2
namespace K4
open PySem L2
section
variable{P:Program}{w:World}{K:W.Frag}{mg:Str->Option Value}{base:Heap}
def Df(P:Program)(w:World)(K:W.Frag)(mg:Str->Option Value)(base:Heap)(n:Nat)(x:Str)(ps:kQ)(sp:Sp):Prop:=
 ∃(g:Addr)(Z:FuncData),mg x=some (.ref g)/\W.keepIn K (.ref g)=true/\Binds K Z ps []/\Ye P w K mg base CX0 n g Z ps sp
def VW{X:Cx}(D:Df X.prog X.w X.K X.mg X.base k x B M)(N:Vu k X.A)(T:PA X (e::Z) t)(O:Gl X x:=by exact Y)(L:(x==("__debug__":Str))=false:=by decide)(R:starEach (e::Z) X.env=(false,eval e X.env)::starEach Z X.env:=by rfl)(J:(backTo pos<|starEach Z X.env).any (·.1)=false:=by rfl):
  PE X (.Call (.Name x p) (e::Z) [] pos) (M8 M [] E0 t):=let⟨_,_,m,k,b,G⟩:=D;JY G N O m k b .nil Y4 T L R J
def Df.up(d:Df P w K mg base n x J Z)(h:n<=m):Df P w K mg base m x J Z:=
 let⟨g,O,N,M,L,G⟩:=d;⟨g,O,N,M,L,G.mono h⟩
end
end K4
namespace L2
open PySem
end L2
namespace K4
open PySem L2
end K4
namespace L2
open PySem
def X7(h:Has H v (.tup [.str a,.str b])):∃t,v=.ref t/\H t=some (.tup [.str a,.str b]):=by
 obtain⟨t,O,rfl,G,L⟩:=Yu h;obtain⟨T,D,rfl,N,J⟩:=Yc L;obtain⟨R,B,rfl,M,Z⟩:=Yc J;obtain rfl:=VC Z;obtain rfl:=has_str N;obtain rfl:=has_str M;exact⟨t,Y,G⟩
end L2
namespace K4
open PySem L2
end K4
namespace L2
open PySem
def Same.putN(s:Same H0 H)(h:H0 p=none):Same H0 (upd H p o):=λb u e=>by
 rw[Yg (Yb e h)];exact s b u e
end L2
namespace K4
open PySem L2
end K4
namespace L2
open PySem PySem.Spec PyProof.Rows
section
def Dm:UL X (.type "dict") (λL H Q=>∃a Z,L=[.ref a]/\Rd H a (.dK Z)/\∀l,H l=none->Q (.ref l) (upd H l<|.dK Z)):=by
 intro N s U H L F Q I r h;obtain⟨a,Z,rfl,D,q⟩:=h;obtain⟨u,rfl,T⟩:=vals1 r;cases T;obtain⟨O,B,E,M,hd⟩:=W4 I.hok D;have J:=M.length;refine kt_call_dict (knd:=VD X.prog X.w) B hd (by rw[<-J];exact O) λA G R=>?_;refine⟨.ref s.heap.objs.size,_,I.laid (a:=s.heap.objs.size) (o:=.dK Z) (λb o e=>?_) (ZG _)<|Wr O (beq_eq_false_iff_ne.mpr<|Zs<|Ze I.big) M G,rfl,q _<|I.hok.fresh<|ZG _⟩;exact(R.2 b<|Ze<|ZP e).trans<|ZE _ e
end
end L2
namespace L2
open PySem
def KB{Z:kY}(h:J∈putK Z k v):J∈Z\/J=(k,v):=by
 unfold putK at h
 split at h
 .obtain ⟨q,hq,e⟩:=ZW.mp h
  by_cases z:q.1=k
  .rw [Zp z]at e;exact .inr<|by rw[<-e,z]
  .rw [Zq z]at e;exact .inl (by rw[<-e];exact hq)
 .rcases ZX.mp h with h|h
  .exact .inl h
  .exact .inr (ZQ.mp h)
def NH(Z:kY)(k:Key)(v:V):(putK Z k v).length<=Z.length+1:=by
 unfold putK
 split
 .rw [ZA];lia
 .rw [ZL];exact ZG _
end L2
namespace K4
open PySem L2
end K4
namespace L2
open PySem
abbrev Hd:=Str×List (Str×Str)×Str
def WdS(y:Str):Prop:=1<=y.length/\y.length<=8/\∀c∈y.cps.toList,97<=c/\c<97+26
def JD(c:pj)(ps:List (Str×Str)):Nat:=ps.foldl (λr p=>r*c p.2) 1
def G6(c:pj)(Z:List (Str×Str))(p:Str×Str):JD c (Z++[p])=JD c Z*c p.2:=by unfold JD;rw[qi];rfl
structure QK(ns:List Str)(c:Str->Nat)(top:Nat)(h:Hd):Prop where
 len:h.2.1.length<=3
 kin:∀p∈h.2.1,p.2∈ns
 own:h.2.2∈ns
 nd:(h.2.1.map (·.1)).Nodup
 spl:∀p∈h.2.1,WdS p.1
 rows:JD c h.2.1<=top
def Rg{Z:kY}(h:k∉Z.map (·.1)):VH Z k=none:=by
 unfold VH
 rw[qe.mpr (λJ G=>by
  intro z;exact h<|ZW.mpr ⟨J,G,Zt z⟩)]
 rfl
def RE{Z:kQ}(J:Z.Nodup)(h:Z[i]?=some y):y∉Z.take i:=by
 have e:=take_snoc h;have s:(Z.take i++[y]).Nodup:=by rw[<-e];exact J.sublist<|jq _ _
 exact λz=>(vX.mp s).2.2 y z y (ZQ.mpr Y) Y
def Wds.wdS(w:Wds 97 Z)(h:y∈Z):WdS y:=⟨(w.len y h).1,(w.len y h).2,w.abc y h⟩
def JU.at(s:JU H p):∃Z,H p=some (.lst Z):=let⟨_,_,_,_,h⟩:=s;⟨_,h⟩
end L2
namespace K4
open PySem L2
end K4
namespace L2
open PySem
theorem KF:∀{G:List (Str×Str)}{Z:kZ},HasL H Z (G.map λp=>.tup [.str p.1,.str p.2])->∃(J:kU),Z=J.map V.ref/\OG K H J (G.map λp=>((Sum.inr p.1:Key),V.str p.2))
 |[],Z,h=>by
  obtain rfl:=VC h;exact⟨[],Y,Y,λi a k y e=>by simp at e⟩
 |q::G,Z,h=>by
  rw[ZV]at h;obtain⟨x,r,rfl,E,D⟩:=Yc h;obtain⟨t,rfl,B⟩:=X7 E;obtain⟨J,rfl,T,R⟩:=KF (K:=K) D;refine⟨t::J,Y,by simp[T],λi b k y O N=>?_⟩
  cases i with
  |zero=>
   have M:some t=some b:=O;have L:some ((Sum.inr q.1:Key),V.str q.2)=some (k,y):=N;cases M;cases L;exact Z2 B
  |succ i=>exact R i b k y O N
abbrev Dd:=Hd×Bd
def FZ(x:Dd):Dat:=.tup [.str x.1.1,.tup<|x.1.2.1.map λp=>.tup [.str p.1,.str p.2],.str x.1.2.2,x.2.dat]
def kvP(ps:List (Str×Str)):kY:=ps.map λp=>((Sum.inr p.1:Key),V.str p.2)
def V4(hs:List Hd):Hds:=λf=>(hs.find? λh=>decide<|h.1=f).map (·.2)
def EE(J:List (Str×Str)):Dat.sts (J.map λp=>Dat.tup [.str p.1,.str p.2])=true:=by
 have:=Ai J "";unfold hdD Dat.st Dat.sts at this;rw[ZZ]at this;have Z:=this.1;unfold Dat.st at Z;exact Z
def LO(J:(Z.map (·.1)).Nodup)(m:h∈Z):V4 Z h.1=some h.2:=by
 induction Z with
 |nil=>exact nomatch m
 |cons g Z ih=>
  rw[ZV,jL]at J;unfold V4;rw[vU];rcases Zd.mp m with e|e
  .subst e;simp
  .have ne:¬g.1=h.1:=λq=>J.1 (by rw[q];exact ZW.mpr ⟨_,e,Y⟩)
   rw[Zy ne];exact ih J.2 e
theorem Dz:∀{Z:kY},(Z.map (·.1)).Nodup->∀{J:Key×V},J∈Z->VH Z J.1=some J.2
 |[],_,J,m=>nomatch m
 |g::Z,nd,J,m=>by
  rw[ZV,jL]at nd;unfold VH;rw[vU];rcases Zd.mp m with e|e
  .subst e;simp
  .have ne:¬g.1=J.1:=λq=>nd.1 (by rw[q];exact ZW.mpr ⟨_,e,Y⟩)
   rw[Zy ne];exact Dz nd.2 e
def JU.tkB(s:JU H p)(b:SameB p H Z):TK H Z:=λc J h=>b c _ (M3 s h) h
end L2
namespace K4
open PySem L2
end K4
namespace L2
open PySem
def Kr(ks:pi)(hd:Hds)(kv:kY)(y:Str):Bd->List Str->Prop
 |.tag t,zs=>zs=[]/\∃ts,Vh ks y=some (.tags ts)/\t∈ts
 |.name x,zs=>zs=[]/\VH kv (Sum.inr x)=some (.str y)
 |.pair _ _,zs=>∃a b,zs=[a,b]/\Vh ks y=some (.pair a b)
 |.one _,zs=>∃z b,zs=[z]/\Vh ks z=some (.pair y b)
 |.other _,zs=>∃z a,zs=[z]/\Vh ks z=some (.pair a y)
 |.choose _ ts bs,zs=>∃z,zs=z::List.replicate bs.length y/\Vh ks z=some (.tags ts)/\bs.length=ts.length
 |.ask f _,zs=>∃ps:List (Str×Str),hd f=some (ps,y)/\zs=ps.map (·.2)
 |.letb x z _ _,zs=>zs=[z,y]/\VH kv (Sum.inr x)=none/\z∈ks.map (·.1)
def wth(kv:kY):Bd->List (Key×V)
 |.letb x z _ _=>putK kv (Sum.inr x)<|.str z
 |_=>kv
def Kd.inv(h:Kd T hd R y b):
  ∃N,Kr T hd R y b N/\N.length=b.parts.length/\∀(i:Nat)(p:Bd)(z:Str),b.parts[i]?=some p->N[i]?=some z->Kd T hd (wth R b) z p:=by
 cases h with
 |tag G L=>exact⟨[],⟨Y,_,G,L⟩,Y,λi p z e=>nomatch e⟩
 |name G=>exact⟨[],⟨Y,G⟩,Y,λi p z e=>nomatch e⟩
 |pair G L M=>
  refine⟨_,⟨_,_,Y,G⟩,Y,λi p z J Z=>?_⟩;rcases i with _|_|i
  .cases J;cases Z;exact L
  .cases J;cases Z;exact M
  .exact nomatch J
 |one G L=>
  refine⟨_,⟨_,_,Y,G⟩,Y,λi p z J Z=>?_⟩;rcases i with _|i
  .cases J;cases Z;exact L
  .exact nomatch J
 |other G L=>
  refine⟨_,⟨_,_,Y,G⟩,Y,λi p z J Z=>?_⟩;rcases i with _|i
  .cases J;cases Z;exact L
  .exact nomatch J
 | @choose _ _ A I e B G L M O=>
  refine⟨_,⟨_,Y,G,M⟩,by simp[Bd.parts],λi p z J Z=>?_⟩;rcases i with _|i
  .cases J;cases Z;exact L
  .have m:=ZJ (show B[i]?=some p from J)
   have F:(List.replicate B.length y)[i]?=some z:=Z;have E:=ZJ F;cases List.eq_of_mem_replicate E;exact O p m
 | @ask _ _ f D S G L M=>
  refine⟨_,⟨_,G,Y⟩,by rw[ZA];exact L.symm,λi p z J Z=>?_⟩;rw[ZH]at Z
  cases ep:D[i]? with
  |none=>rw[ep]at Z;cases Z
  |some q=>
   rw[ep]at Z;cases Z;exact M i p q J ep
 |letb G L M O=>
  refine⟨_,⟨Y,G,L⟩,Y,λi p z J Z=>?_⟩;rcases i with _|_|i
  .cases J;cases Z;exact M
  .cases J;cases Z;exact O
  .exact nomatch J
end L2
namespace L2
open PySem
end L2
namespace K4
open PySem L2
section
def GE:Sp:=λJ H Q _=>∃(x:Str)(o:Nat),J=[.str x,.str (alpha o)]/\(o=97\/o=65)/\1<=x.length/\x.length<=8/\(∀c∈x.cps.toList,o<=c/\c<o+26)/\∀Z,Same H Z->Q (.bl true) Z
def Ob:Yh ["text","letters"] ["text","letters"] (Yd BP):=Y2
def C8:List.Nodup [("sign":Str),"letters"]:=by decide +kernel
def Kh(B:Blt M)(F:Fun K "is_spelt" "is_spelt" BP f y)(X:M "LONGEST"=some u)(N:RelV (.int 8) u):Ye P w K M base CX0 (n+1) f y ["text","letters"] GE:=by
 refine F.oq Ob λk A G s H Z Q E b h=>?_;obtain⟨x,o,rfl,I,l,r,U,q⟩:=h;refine⟨_,YY (Y3 (JZ<|Vz<|We rfl B.isi rfl B.str Wv (pv 0)) (YZ<|Yi X0) Yo)
  (YZ (Yi (Xg (KS XT XT Ya (Y9 Mt rfl B.len Zu (pa1<|pv 0))<|JW rfl X N)
   (Ux (Y9 (Nq rfl) rfl B.all RT (pa1 (JF ["sign"] [1] (S5<|pv 0) (Vc (i:=0)<|by decide)
    (λg C j s H=>Ym 0 C8 rfl (Or.inl rfl) (Or.inr rfl)) (λg C j s H=>V6 FC (pv 0) (pv 1) rfl)))))))),?_⟩
 exists _,_,_,_,Y,.str x,TR K "str",_,Y;refine Y0 (by simp) ?_;have T:x.length<=sizeLine:=Zh (Y1<|by lia);exists x,Y,T,_,Y;refine VG (by simp;lia) ?_;exists _,Y;refine VG (by simp;lia) ?_;exists x,Y;have d:x.cps.size=x.length:=rfl;refine Vd x.length (Y1<|by lia) (λi Z J=>Same H J/\Z=List.replicate i (V.bl true)) ⟨Z8 _,rfl⟩ (λi Z J z=>by rw[z.2];simp) ?_ ?_ ?_ ?_
 .intro i Z J hi z
  exact hi
 .intro Z J z
  exact ZG _
 .intro i Z J v H'' R hi z yl hR
  obtain⟨rfl,c,L,rfl⟩:=yl;exists _,_,Y,Y
  have S:c∈x.cps.toList:=by
   have:=Array.mem_of_getElem? L;exact Array.mem_toList_iff.mpr this
  obtain⟨D,O,m⟩:=K1 I<|U c S;have t:Builtin.Str.occurrences (alpha o) ⟨#[c]⟩ 0 (alpha o).length 1=D::O:=m;rw[t];exact hR _ _ ⟨z.1,by rw[z.2,List.replicate_succ'];rfl⟩
 .intro Z J p z hp
  refine⟨p,List.replicate x.length true,Y,Z3 (by rw[Yf,z.2,List.map_replicate]),?_⟩;rw[show(List.replicate x.length true).all id=true by simp];exact q _<|z.1.trans<|Ys hp _
def Uv(o:Nat):Sp:=λJ H Q _=>∃(x:Str),J=[.str x]/\1<=x.length/\x.length<=8/\(∀c∈x.cps.toList,o<=c/\c<o+26)/\∀Z,Same H Z->Q (.bl true) Z
def Ie:Yh ["text"] ["text"] (Yd MJ):=Y2
def FG(F:Fun K "is_name" "is_name" MJ f S)(G:Ye P w K J base CX0 n g I ["text","letters"] GE)(C:Binds K I ["text","letters"] [])(R:W.keepIn K (.ref g)=true)(M:J "is_spelt"=some (.ref g))(D:J "SMALL"=some u)(L:RelV (.str<|Str.ofString "abcdefghijklmnopqrstuvwxyz") u):Ye P w K J base CX0 (n+1) f S ["text"] (Uv 97):=by
 refine F.oq Ie λU A Z s H X Q E T h=>?_;obtain⟨x,rfl,O,N,B,q⟩:=h;exists _,YZ<|Yi<|JY G T rfl M R C .nil Y4 (pa2 (pv 0)<|JW rfl D L);refine⟨x,97,?_,.inl Y,O,N,B,q⟩;rw[<-RC];rfl
def Ol:Yh ["text"] ["text"] (Yd Ba):=Y2
def Ks(F:Fun K "is_tag" "is_tag" Ba f S)(G:Ye P w K J base CX0 n g I ["text","letters"] GE)(C:Binds K I ["text","letters"] [])(R:W.keepIn K (.ref g)=true)(M:J "is_spelt"=some (.ref g))(D:J "GREAT"=some u)(L:RelV (.str<|Str.ofString "ABCDEFGHIJKLMNOPQRSTUVWXYZ") u):Ye P w K J base CX0 (n+1) f S ["text"] (Uv 65):=by
 refine F.oq Ol λU A Z s H X Q E T h=>?_;obtain⟨x,rfl,O,N,B,q⟩:=h;exists _,YZ<|Yi<|JY G T rfl M R C .nil Y4 (pa2 (pv 0)<|JW rfl D L);refine⟨x,65,?_,.inr Y,O,N,B,q⟩;rw[<-RL];rfl
end
end K4
namespace L2
open PySem
def W7(ks:pi):Nat->Str->Nat
 |0,_=>0
 |n+1,y=>match Vh ks y with
  |none=>0
  |some (.tags _)=>1
  |some (.pair a b)=>1+W7 ks n a+W7 ks n b
def JS(t:Str):Shp->Bool
 |.tags ts=>decide<|t∈ts
 |.pair _ _=>false
def JR(a b:Str):Shp->Bool
 |.tags _=>false
 |.pair c e=>decide (c=a) && decide (e=b)
def JK(ks:pi)(t:Str):Option Str:=(ks.find? λk=>JS t k.2).map (·.1)
def V1(ks:pi)(a b:Str):Option Str:=(ks.find? λk=>JR a b k.2).map (·.1)
def XQ{α:Type}(p:α->Bool)(l:List α)(x:α):(l++[x]).find? p=(l.find? p).or (if p x=true then some x else none):=by
 rw[List.find?_append]
 congr 1
 rw[vU];cases p x <;> simp
def WX(h:z∈Z.map (·.1)):Vh (Z++[x]) z=Vh Z z:=by
 obtain⟨s,J⟩:=Jq h;unfold Vh at J |-;rw[XQ]
 cases e:Z.find? λk=>decide (k.1=z)with
 |none=>rw[e]at J;cases J
 |some k=>rfl
def E1(h:z∉Z.map (·.1)):Vh Z z=none:=by
 cases e:Vh Z z with
 |none=>rfl
 |some s=>exact Zr (ZW.mpr ⟨_,Xt e,Y⟩) h
def Gv(h:z∉Z.map (·.1)):Vh (Z++[(z,s)]) z=some s:=by
 have q:=E1 h;unfold Vh at q |-;rw[XQ]
 cases e:Z.find? λk=>decide (k.1=z)with
 |none=>simp
 |some k=>rw[e]at q;cases q
theorem Jr(h:KK top c d Z)(x:Str×Shp):∀(n:Nat)(z:Str),z∈Z.map (·.1)->VA (Z++[x]) n z=VA Z n z
 |0,_,_=>rfl
 |n+1,z,hz=>by
  obtain⟨s,J⟩:=Jq hz;rw[WR J,WR ((WX hz).trans J)]
  cases s with
  |tags M=>rfl
  |pair a b=>
   obtain⟨L,G,_⟩:=h.at J;show(W.non::_)=(W.non::_);rw[Jr h x n a L,Jr h x n b G]
def hOf(ks:pi)(n:Nat):Shp->Nat
 |.tags _=>1
 |.pair a b=>1+W7 ks n a+W7 ks n b
def X5(h:Vh Z y=some s):W7 Z (n+1) y=hOf Z n s:=by
 conv=>lhs;unfold W7
 rw[h];cases s <;> rfl
theorem UV(h:KK top c d Z)(x:Str×Shp):∀(n:Nat)(z:Str),z∈Z.map (·.1)->W7 (Z++[x]) n z=W7 Z n z
 |0,_,_=>rfl
 |n+1,z,hz=>by
  obtain⟨s,J⟩:=Jq hz;rw[X5 J,X5 ((WX hz).trans J)]
  cases s with
  |tags M=>rfl
  |pair a b=>
   obtain⟨L,G,_⟩:=h.at J;show 1+_+_=1+_+_;rw[UV h x n a L,UV h x n b G]
theorem XN(h:KK top c d Z):∀(n m:Nat)(y:Str),y∈Z.map (·.1)->d y<n->d y<m->W7 Z n y=W7 Z m y
 |0,_,_,_,h1,_=>Zr h1<|Zw _
 |_+1,0,_,_,_,h2=>Zr h2<|Zw _
 |n+1,m+1,y,hy,h1,h2=>by
  obtain⟨s,J⟩:=Jq hy;have M:=h.at J;rw[X5 J,X5 J]
  cases s with
  |tags N=>rfl
  |pair a b=>
   obtain⟨L,G,B,T,R,O⟩:=M;have E:=jB (d a)<|d b;have D:=jx (d a)<|d b;show 1+_+_=1+_+_;rw[XN h n m a L (by lia) (by lia),XN h n m b G (by lia) (by lia)]
structure KA6 where
 t:Addr
 dx:Addr
 sh:Addr
 wo:Addr
 he:Addr
 pd:Addr
 tk:Addr
 pk:Addr
structure KC where
 sh:List (Key×V)
 wo:List (Key×V)
 he:List (Key×V)
 pd:List (Key×V)
 tk:List (Key×V)
 pk:List (List Key×V)
def Tf(A:KA6):List (Str×V):=[("shapes",.ref A.sh),("worths",.ref A.wo),("heights",.ref A.he),("pairs_deep",.ref A.pd),("tag_kinds",.ref A.tk),("pair_kinds",.ref A.pk)]
def KA6.ds(A:KA6):kU:=[A.sh,A.wo,A.he,A.pd,A.tk,A.pk]
structure KD(H:Hp)(C:Addr)(A:KA6)(S:KC):Prop where
 ins:H A.t=some (.ins C A.dx (Tf A))
 sh:H A.sh=some (.dK S.sh)
 wo:H A.wo=some (.dK S.wo)
 he:H A.he=some (.dK S.he)
 pd:H A.pd=some (.dK S.pd)
 tk:H A.tk=some (.dK S.tk)
 pk:H A.pk=some (.dT S.pk)
 nd:A.ds.Nodup
structure KR(H:Hp)(S:KC)(ks:List (Str×Shp))(d:Str->Nat):Prop where
 ke:S.sh.map (·.1)=ks.map (λk=>Sum.inr k.1)
 sh:∀y s,Vh ks y=some s->∃v,VH S.sh (Sum.inr y)=some v/\Has H v s.dat
 wo:∀y∈ks.map (·.1),∃l xs,VH S.wo (Sum.inr y)=some (.ref l)/\H l=some (.lst xs)/\HasL H xs ((VA ks 3 y).map W.dat)
 he:∀y∈ks.map (·.1),VH S.he (Sum.inr y)=some (.int (W7 ks 3 y:Nat))
 pd:∀y∈ks.map (·.1),VH S.pd (Sum.inr y)=some (.int (d y:Nat))
 tk:∀x:Str,VH S.tk (Sum.inr x)=(JK ks x).map V.str
 pk:∀a b:Str,VH S.pk [Sum.inr a,Sum.inr b]=(V1 ks a b).map V.str
 ln:S.sh.length<=4*ks.length/\S.wo.length<=4*ks.length/\S.he.length<=4*ks.length/\S.pd.length<=4*ks.length/\S.tk.length<=4*ks.length/\S.pk.length<=4*ks.length
def KI(H:Hp)(C t:Addr)(ks:pi)(d:pj):Prop:=∃A S,A.t=t/\KD H C A S/\KR H S ks d
def KD.mono(k:KD H C A S)(e:Same H Z):KD Z C A S:=⟨e _ _ k.ins,e _ _ k.sh,e _ _ k.wo,e _ _ k.he,e _ _ k.pd,e _ _ k.tk,e _ _ k.pk,k.nd⟩
def TL(H H':Hp):Prop:=(∀b Z,H b=some (.tup Z)->H' b=some (.tup Z))/\∀b Z,H b=some (.lst Z)->H' b=some (.lst Z)
def Same.tl(e:Same H J):TL H J:=⟨λb Z h=>e _ _ h,λb Z h=>e _ _ h⟩
def TL.trans(a:TL H G)(b:TL G J):TL H J:=⟨λc Z h=>b.1 _ _<|a.1 _ _ h,λc Z h=>b.2 _ _<|a.2 _ _ h⟩
mutual
theorem Has.tl{H M:Hp}(e:TL H M):∀(d:Dat){v:V},Has H v d->Has M v d
 |.non,_,h=>by unfold Has at h |-;exact h
 |.bl _,_,h=>by unfold Has at h |-;exact h
 |.int _,_,h=>by unfold Has at h |-;exact h
 |.str _,_,h=>by unfold Has at h |-;exact h
 |.tup ds,_,h=>by
  unfold Has at h |-;obtain⟨a,Z,L,G,J⟩:=h;exact⟨a,Z,L,e.1 _ _ G,HasL.tl e ds J⟩
 |.lst ds,_,h=>by
  unfold Has at h |-;obtain⟨a,Z,L,G,J⟩:=h;exact⟨a,Z,L,e.2 _ _ G,HasL.tl e ds J⟩
theorem HasL.tl{H G:Hp}(e:TL H G):∀(Z:ph){J:kZ},HasL H J Z->HasL G J Z
 |[],[],h=>by unfold HasL;trivial
 |[],_::_,h=>by unfold HasL at h;exact h.elim
 |_::_,[],h=>by unfold HasL at h;exact h.elim
 |d::Z,x::J,h=>by
  unfold HasL at h |-;exact⟨Has.tl e d h.1,HasL.tl e Z h.2⟩
end
def KR.tl(k:KR H S L d)(e:TL H N):KR N S L d:=
 ⟨k.ke,λy s h=>let⟨v,J,Z⟩:=k.sh y s h;⟨v,J,Has.tl e _ Z⟩,λy h=>let⟨l,G,J,Z,M⟩:=k.wo y h;⟨l,G,J,e.2 _ _ Z,HasL.tl e _ M⟩,k.he,k.pd,k.tk,k.pk,k.ln⟩
def KI.mono(k:KI H C t Z d)(e:Same H M):KI M C t Z d:=by
 obtain⟨A,S,L,G,J⟩:=k;exact⟨A,S,L,G.mono e,J.tl e.tl⟩
def UU(x:Str)(Z:kQ):inV (.str x) (Z.map V.str)=decide (x∈Z):=by
 induction Z with
 |nil=>rfl
 |cons t Z ih=>
  have e:inV (.str x) ((t::Z).map V.str)=((t==x) || inV (.str x) (Z.map V.str)):=rfl;rw[e,ih]
  by_cases h:t=x
  .subst h;simp
  .have h':¬x=t:=λq=>h q.symm
   simp[h,h']
def J5(Z:kQ):(Z.map V.str).all U4=true:=by
 induction Z with
 |nil=>rfl
 |cons t Z ih=>simp only[ZV,qR,ih];rfl
structure KCl(K:W.Frag)(C:Addr):Prop where
 cl:Cls K C
 sh:VI K C "shapes"
 wo:VI K C "worths"
 he:VI K C "heights"
 pd:VI K C "pairs_deep"
 tk:VI K C "tag_kinds"
 pk:VI K C "pair_kinds"
def FX(A:KA6):(Tf A).lookup ("shapes":Str)=some (V.ref A.sh):=rfl
def za(A:KA6):(Tf A).lookup ("worths":Str)=some (V.ref A.wo):=rfl
def vN(A:KA6):(Tf A).lookup ("heights":Str)=some (V.ref A.he):=rfl
def vM(A:KA6):(Tf A).lookup ("pairs_deep":Str)=some (V.ref A.pd):=rfl
def Ao(A:KA6):(Tf A).lookup ("tag_kinds":Str)=some (V.ref A.tk):=rfl
def vL(A:KA6):(Tf A).lookup ("pair_kinds":Str)=some (V.ref A.pk):=rfl
def WW(k:KD H C A S)(r:KR H S Z d)(h:Vh Z y=some s):∃v,JG H A.sh (.str y) (some v)/\Has H v s.dat:=by
 obtain⟨v,G,J⟩:=r.sh y s h;exact⟨v,by rw[<-G];exact JG.k (k:=Sum.inr y) k.sh,J⟩
end L2
namespace K4
open PySem L2
section
variable{f g C:Addr}
def XD(C:Addr):Sp:=λG H Q _=>∃(t:Addr)(J:pi)(d:pj),G=[.ref t]/\KI H C t J d/\∀l Z,Same H Z->H l=none->Z l=some (.lst<|J.map λk=>V.str k.1)->Q (.ref l) Z
def Oe:Yh ["self"] ["self"] (Yd BS):=Y2
def Kj(B:Blt L)(T:KCl K C)(F:Fun K "names" "Kinds.names" BS f O):Ye P w K L base CX0 (n+1) f O ["self"] (XD C):=by
 refine F.oq Oe λR A Z s H D Q E U h=>?_;obtain⟨t,I,d,rfl,⟨X,S,rfl,J,N⟩,q⟩:=h;exists _,YZ<|Yi<|VT (U6 rfl) rfl B.list Jo (pa1<|Yt (pv 0) rfl);refine⟨C,_,_,_,J.ins,T.cl,T.sh,FX _,_,_,Y,J.sh,λl G=>?_⟩;refine q l _ (Ys G _) G ?_;rw[Yf];have e:(S.sh.map λM=>kV M.1)=(S.sh.map (·.1)).map kV:=by rw[vi];rfl
 rw[e,N.ke,vi]
 rfl
def XC(C:Addr):Sp:=λJ H Q _=>∃(t:Addr)(Z:pi)(d:pj)(y:Str)(s:Shp),J=[.ref t,.str y]/\KI H C t Z d/\Vh Z y=some s/\∀v,Has H v s.dat->Q v H
def E3:Yh ["self","kind"] ["self","kind"] (Yd Gw):=Y2
def By(T:KCl K C)(F:Fun K "shape_of" "Kinds.shape_of" Gw f B):Ye P w K U base CX0 (n+1) f B ["self","kind"] (XC C):=by
 refine F.oq E3 λD A Z s H I Q E N h=>?_;obtain⟨t,X,d,y,s,rfl,⟨j,S,rfl,J,G⟩,M,q⟩:=h;have L:=JQ N;obtain⟨v,R,O⟩:=WW J G M;exists _,YZ<|Yi<|JX L (Yt (pv 0) rfl) (pv 1) λ_ _=>rfl;exact⟨C,_,_,_,J.ins,T.cl,T.sh,FX _,v,R,q v O⟩
def Gn(C:Addr):Sp:=λJ H Q _=>∃(t:Addr)(Z:pi)(d:pj)(x:Str),J=[.ref t,.str x]/\KI H C t Z d/\Q (((JK Z x).map V.str).getD .non) H
def Id:Yh ["self","tag"] ["self","tag"] (Yd MI):=Y2
def FF(T:KCl K C)(F:Fun K "kind_of_tag" "Kinds.kind_of_tag" MI f N):Ye P w K B base CX0 (n+1) f N ["self","tag"] (Gn C):=by
 refine F.oq Id λO A Z s H R Q E M h=>?_;obtain⟨t,D,d,x,rfl,⟨I,S,rfl,J,G⟩,q⟩:=h;have L:=JQ M;exists _,YZ<|Yi<|TF L (Yt (pv 0) rfl) (pv 1) ⟨rfl,rfl,rfl,rfl⟩;exact⟨C,_,_,_,J.ins,T.cl,T.tk,Ao _,.inl ⟨_,.inl J.tk⟩,_,by rw[<-G.tk x];exact JG.k (k:=Sum.inr x) J.tk,q⟩
def WU(C:Addr):Sp:=λG H Q _=>∃(t:Addr)(Z:pi)(d:pj)(a b:Str),G=[.ref t,.str a,.str b]/\KI H C t Z d/\∀J,Same H J->Q (((V1 Z a b).map V.str).getD .non) J
def E4:Yh ["self","one","other"] ["self","one","other"] (Yd Gy):=Y2
def B1(T:KCl K C)(F:Fun K "kind_of_pair" "Kinds.kind_of_pair" Gy f R):Ye P w K I base CX0 (n+1) f R ["self","one","other"] (WU C):=by
 refine F.oq E4 λB A Z s H D Q E N h=>?_;obtain⟨t,U,d,a,b,rfl,⟨X,S,rfl,J,L⟩,q⟩:=h;have M:=JQ N;exists _,YZ<|Yi<|TF M (Yt (pv 0) rfl) (Yj<|pa2 (pv 1)<|pv 2) ⟨rfl,rfl,rfl,rfl⟩;refine⟨C,_,_,_,J.ins,T.cl,T.pk,vL _,.inr ⟨_,.inl J.pk⟩,sl 2,λp O=>?_⟩;have G:=Ys O<|.tup [.str a,.str b];exact⟨_,by rw[<-L.pk a b];exact JG.t (k:=[Sum.inr a,Sum.inr b]) (G _ _ J.pk) Yf,q _ G⟩
def J6(C:Addr):Sp:=λL H Q _=>∃(t:Addr)(J:pi)(d:pj)(y:Str),L=[.ref t,.str y]/\KI H C t J d/\y∈J.map (·.1)/\
 ∀l G Z,Same H Z->H l=none->Z l=some (.lst G)->HasL Z G ((VA J 3 y).map W.dat)->Q (.ref l) Z
def BK:Yh ["self","kind"] ["self","kind"] (Yd WZ):=Y2
def NN(B:Blt N)(T:KCl K C)(F:Fun K "worths_of" "Kinds.worths_of" WZ f z):Ye P w K N base CX0 (n+1) f z ["self","kind"] (J6 C):=by
 refine F.oq BK λm A G s H p Q E I h=>?_;obtain⟨t,c,d,y,rfl,⟨u,S,rfl,M,O⟩,R,q⟩:=h;have D:=JQ I;obtain⟨l,J,j,X,U⟩:=O.wo y R;exists _,YZ<|Yi<|VT Ui rfl B.list Jo (pa1<|JX D (Yt (pv 0) rfl) (pv 1) λ_ _=>rfl);refine⟨C,_,_,_,M.ins,T.cl,T.wo,za _,_,by rw[<-j];exact JG.k (k:=Sum.inr y) M.wo,l,J,Y,.inl<|Z3 X,λr Z=>?_⟩;have L:=Ys Z<|.lst J;exact q r J _ L Z Yf<|U.mono L
end
end K4
namespace L2
open PySem
def KFr(A:KA6)(H H':Hp):Prop:=∀b o,b∉A.ds->H b=some o->H' b=some o
def KFr.refl(A:KA6)(H:Hp):KFr A H H:=λ_ _ _ h=>h
def KFr.trans(a:KFr A H G)(b:KFr A G J):KFr A H J:=λc o Z h=>b c o Z<|a c o Z h
def Same.kfr(e:Same H Z):KFr A H Z:=λb o _ h=>e b o h
def KFr.put(a:KFr A H L)(G:x∈A.ds)(o:HO):KFr A H (upd L x o):=λb u Z h=>by
 have J:b≠x:=λz=>by rw[z]at Z;exact Z G
 rw[Yg J];exact a b u Z h
def KFr.tl(a:KFr A H O)(k:KD H C A S):TL H O:=by
 have G:∀b u,H b=some u->(∀l,u≠.dK l)->(∀l,u≠.dT l)->b∉A.ds:=λb u Z J N L=>by
  simp only[KA6.ds,Zd,jH,or_false]at L;rcases L with z|z|z|z|z|z
  .rw [z,k.sh]at Z;exact J _ (ZT Z).symm
  .rw [z,k.wo]at Z;exact J _ (ZT Z).symm
  .rw [z,k.he]at Z;exact J _ (ZT Z).symm
  .rw [z,k.pd]at Z;exact J _ (ZT Z).symm
  .rw [z,k.tk]at Z;exact J _ (ZT Z).symm
  .rw [z,k.pk]at Z;exact N _ (ZT Z).symm
 exact⟨λb M h=>a b _ (G b _ h (λl=>by intro z;cases z) (λl=>by intro z;cases z)) h,λb M h=>a b _ (G b _ h (λl=>by intro z;cases z) (λl=>by intro z;cases z)) h⟩
def KA6.apart{A:KA6}(n:A.ds.Nodup):(A.sh≠A.wo/\A.sh≠A.he/\A.sh≠A.pd/\A.sh≠A.tk/\A.sh≠A.pk)/\(A.wo≠A.he/\A.wo≠A.pd/\A.wo≠A.tk/\A.wo≠A.pk)/\(A.he≠A.pd/\A.he≠A.tk/\A.he≠A.pk)/\(A.pd≠A.tk/\A.pd≠A.pk)/\A.tk≠A.pk:=by
 simpa[KA6.ds]using n
section
def KD.put_sh(k:KD H C A S)(l:kY):KD (upd H A.sh<|.dK l) C A {S with sh:=l}:=by
 obtain⟨⟨M,L,G,J,Z⟩,_⟩:=KA6.apart k.nd;exact⟨(Yg<|Jh k.ins k.sh (by intro z;cases z)).trans k.ins,Yf,(Yg M.symm).trans k.wo,(Yg L.symm).trans k.he,(Yg G.symm).trans k.pd,(Yg J.symm).trans k.tk,(Yg Z.symm).trans k.pk,k.nd⟩
def KD.put_wo(k:KD H C A S)(l:kY):KD (upd H A.wo<|.dK l) C A {S with wo:=l}:=by
 obtain⟨⟨M,_⟩,⟨L,G,J,Z⟩,_⟩:=KA6.apart k.nd;exact⟨(Yg<|Jh k.ins k.wo (by intro z;cases z)).trans k.ins,(Yg M).trans k.sh,Yf,(Yg L.symm).trans k.he,(Yg G.symm).trans k.pd,(Yg J.symm).trans k.tk,(Yg Z.symm).trans k.pk,k.nd⟩
def KD.put_he(k:KD H C A S)(l:kY):KD (upd H A.he<|.dK l) C A {S with he:=l}:=by
 obtain⟨⟨_,M,_⟩,⟨L,_⟩,⟨G,J,Z⟩,_⟩:=KA6.apart k.nd;exact⟨(Yg<|Jh k.ins k.he (by intro z;cases z)).trans k.ins,(Yg M).trans k.sh,(Yg L).trans k.wo,Yf,(Yg G.symm).trans k.pd,(Yg J.symm).trans k.tk,(Yg Z.symm).trans k.pk,k.nd⟩
def KD.put_pd(k:KD H C A S)(l:kY):KD (upd H A.pd<|.dK l) C A {S with pd:=l}:=by
 obtain⟨⟨_,_,M,_⟩,⟨_,L,_⟩,⟨G,_⟩,⟨J,Z⟩,_⟩:=KA6.apart k.nd;exact⟨(Yg<|Jh k.ins k.pd (by intro z;cases z)).trans k.ins,(Yg M).trans k.sh,(Yg L).trans k.wo,(Yg G).trans k.he,Yf,(Yg J.symm).trans k.tk,(Yg Z.symm).trans k.pk,k.nd⟩
def KD.put_tk(k:KD H C A S)(l:kY):KD (upd H A.tk<|.dK l) C A {S with tk:=l}:=by
 obtain⟨⟨_,_,_,M,_⟩,⟨_,_,L,_⟩,⟨_,G,_⟩,⟨J,_⟩,Z⟩:=KA6.apart k.nd;exact⟨(Yg<|Jh k.ins k.tk (by intro z;cases z)).trans k.ins,(Yg M).trans k.sh,(Yg L).trans k.wo,(Yg G).trans k.he,(Yg J).trans k.pd,Yf,(Yg Z.symm).trans k.pk,k.nd⟩
end
def UN{α:Type}{l:List α}{x a:α}(h:l[i]?=some a):x∈l.take (i+1)↔x∈l.take i\/x=a:=by
 rw[take_snoc h,ZX,ZQ]
end L2
namespace K4
open PySem L2
section
variable{f g C:Addr}
def BC(C:Addr):Sp:=λL H Q _=>∃(A:KA6)(S:KC)(y:Str)(l:Addr)(Z:kQ),L=[.ref A.t,.str y,.ref l]/\KD H C A S/\H l=some (.tup<|Z.map V.str)/\1<=Z.length/\Z.length<=4/\Wds 65 Z/\(∀x∈Z,VH S.tk (Sum.inr x)=none)/\
 S.tk.length<=100/\S.wo.length<=100/\S.he.length<=100/\S.pd.length<=100/\
 ∀G J r,KFr A H G->KD G C A ⟨S.sh,putK S.wo (Sum.inr y)<|.ref r,putK S.he (Sum.inr y)<|.int 1,putK S.pd (Sum.inr y)<|.int 0,J,S.pk⟩->
  (∀x:Str,VH J (Sum.inr x)=if x∈Z then some (.str y)else VH S.tk (Sum.inr x))->J.length<=S.tk.length+4->G r=some (.lst (.non::Z.map V.str))->Q .non G
def Ia:Yh ["self","name","tags","tag"] ["self","name","tags"] (Yd Ik):=Y2
def PQ(B:Blt mg)(T:KCl K C)(F:Fun K "take_tags" "Kinds.take_tags" Ik f fd)(hM:mg "MOST_TAGS"=some u)(rM:RelV (.int 4) u)(G:Ye P w K mg base CX0 n g gd ["text"] (Uv 65))(bG:Binds K gd ["text"] [])(kG:W.keepIn K (.ref g)=true)(mG:mg "is_tag"=some (.ref g)):Ye P w K mg base CX0 (n+1) f fd ["self","name","tags"] (BC C):=by
 refine F.oq Ia λO1 A J2 s H vs Q E hr h=>?_;obtain⟨D,S,y,l,J,rfl,kd,hl,l1,l4,wt,tn,b1,b2,b3,b4,q⟩:=h;have t:=JQ hr;refine⟨_,YY (Y3 (JZ<|Xx XT XT Ya (Y9 Yw rfl B.len Zu (pa1<|pv 2))<|JW rfl hM rM) (YZ JT) Yo)
  (YY (Ja Zv rfl (J9<|pv 2) (Ym 3 Ia.nd)
   (YY (Y3 (JZ<|Vz<|JY G hr rfl mG kG bG .nil Y4 (pa1<|pv 3)) (YZ JT) Yo)
   (YY (Y3 (Ub<|Xh t (pv 3)<|Yt (pv 0) rfl) (YZ JT) Yo)
   (YZ<|V5 t (Yt (pv 0) rfl) (pv 3) (pv 1) rfl))))
  (YY (V5 t (Yt (pv 0) rfl) (pv 1) (VB Kb (JJ<|pa1 Vx)<|VT Ui rfl B.list Jo (pa1<|pv 2)) rfl)
  (YY (V5 t (Yt (pv 0) rfl) (pv 1) Ya rfl)
  (YZ<|V5 t (Yt (pv 0) rfl) (pv 1) Ya rfl)))),?_⟩
 show let a:=_;let b:=Yl _ a;let c:=Yl _ b;let d:=_;let e:=_;let f:=Yl (VF _ e _) d;let g:=_;let h:=Yl (VF _ g _) f;let i:=Yl (XS _ _ h) c;let j:=_;Yl (VF _ j _) i _ _ _
 intros
 have lt:(J.map V.str).length=J.length:=ZA _;exists l,_,Y,.inr<|Z2 hl,_,rfl;refine VG (by simp;lia) ?_;exists _,Y;refine Y0 (by simp;lia) ?_;exists ⟨_,Z2 hl⟩
 let I:pc:=λi U R=>KFr D H R/\∃L z,KD R C D {S with tk:=L}/\(∀x:Str,VH L (Sum.inr x)=if x∈J.take i then some (.str y)else VH S.tk (Sum.inr x))/\L.length<=S.tk.length+i/\R l=some (.tup<|J.map V.str)/\
  U=[some (.ref D.t),some<|.str y,some<|.ref l,z]
 refine Th (xs:=J.map V.str) I ⟨KFr.refl _ _,S.tk,_,kd,λx=>by simp,ZG _,hl,Y⟩ ?_ ?_ ?_
 .rintro i U R _ ⟨_,L,z,_,_,_,hl',_⟩
  exact Z2 hl'
 .rintro BB RR i v U R hv ⟨fr,L,z,kd',tv,tl,hl',rfl⟩
  rw[ZH]at hv
  cases hx:J[i]? with
  |none=>rw[hx]at hv;cases hv
  |some x=>
   rw[hx]at hv;cases hv;have mx:x∈J:=ZJ hx
   have nx:x∉J.take i:=λhm=>by
    have q':(J.take i++[x]).Nodup:=by rw[<-take_snoc hx];exact wt.nd.sublist<|jq _ _
    exact(vX.mp q').2.2 x hm x (by simp) rfl
   have M2:=(ZF.mp hx).1;obtain⟨w1,w8⟩:=wt.len x mx;refine⟨x,Y,w1,w8,wt.abc x mx,λH2 s2=>⟨_,Y,?_⟩⟩;refine Y0 (by simp) ?_;have Z:=kd'.mono s2
   have gx:JG H2 D.tk (.str x) none:=by
    have e:=tv x;rw[Zq nx,tn x mx]at e;rw[<-e];exact JG.k (k:=Sum.inr x) Z.tk
   exists C,_,_,_,Z.ins,T.cl,T.tk,Ao _,_,gx,_,Y;refine Y0 (by simp) ?_;refine⟨C,_,_,_,Z.ins,T.cl,T.tk,Ao _,_,Uq.k (k:=Sum.inr x) Z.tk<|Y1 (by show L.length<=1000;lia),?_⟩;have o:=s2 _ _ hl';refine⟨(fr.trans s2.kfr).put (by simp[KA6.ds]) _,putK L (Sum.inr x)<|.str y,_,Z.put_tk _,λX=>?_,?_,?_,rfl⟩
   .rw [JA]
    by_cases e:X=x
    .subst e
     rw[Zp rfl,Zp ((UN hx).mpr<|.inr rfl)]
    .rw [Zq (λz=>e<|Sum.inr.inj z),tv X]
     have:(X∈J.take (i+1))↔X∈J.take i:=⟨λz=>((UN hx).mp z).resolve_right e,λz=>(UN hx).mpr<|.inl z⟩
     by_cases m:X∈J.take i
     .rw [Zp m,Zp (this.mpr m)]
     .rw [Zq m,Zq (λz=>m<|this.mp z)]
   .have:=Vj L (Sum.inr x)<|.str y;lia
   .rw [Yg (Jh o Z.tk (by intro z;cases z))];exact o
 .rintro U R ⟨fr,L,z,kd',tv,tl,hl',rfl⟩
  rw[lt]at tl;rw[Zg (by lia)]at tv;refine⟨sl 1,λp1 r=>⟨l,_,Y,.inr<|Z2<|(Ys r _) _ _ hl',λp2 p=>?_⟩⟩;refine⟨p1,p2,_,_,Y,Y,(Yg<|Yb Yf p).trans Yf,Yf,Zh (Y1 (by simp;lia)),λM G2=>?_⟩;have sx:Same R _:=((Ys r<|.lst [V.non]).trans<|Ys p<|.lst<|J.map V.str).trans<|Ys G2<|.lst<|[V.non]++ J.map V.str;have hp:upd (upd (upd R p1<|.lst [V.non]) p2<|.lst<|J.map V.str) M (.lst<|[V.non]++ J.map V.str) M=some (.lst (.non::J.map V.str)):=Yf;generalize upd (upd (upd R p1<|.lst [V.non]) p2<|.lst<|J.map V.str) M (.lst<|[V.non]++ J.map V.str)=H2 at sx hp |-;have Z:=kd'.mono sx;refine⟨C,_,_,_,Z.ins,T.cl,T.wo,za _,_,Uq.k (k:=Sum.inr y) Z.wo<|Y1 (by show S.wo.length<=1000;lia),?_⟩;have O:=Z.put_wo<|putK S.wo (Sum.inr y)<|.ref M;have G3:upd H2 D.wo (.dK<|putK S.wo (Sum.inr y)<|.ref M) M=some (.lst (.non::J.map V.str)):=by rw[Yg (Jh hp Z.wo (by intro z;cases z))];exact hp
  refine⟨C,_,_,_,O.ins,T.cl,T.he,vN _,_,Uq.k (k:=Sum.inr y) O.he<|Y1 (by show S.he.length<=1000;lia),?_⟩;have N:=O.put_he<|putK S.he (Sum.inr y)<|.int 1;refine⟨C,_,_,_,N.ins,T.cl,T.pd,vM _,_,Uq.k (k:=Sum.inr y) N.pd<|Y1 (by show S.pd.length<=1000;lia),?_⟩;have G1:=N.put_pd<|putK S.pd (Sum.inr y)<|.int 0;refine q _ L M ?_ G1 tv (by lia) ?_
  .exact ((((fr.trans sx.kfr).put (by simp[KA6.ds]) _).put (by simp[KA6.ds]) _).put (by simp[KA6.ds]) _)
  .have h3:=G3
   have h4:upd (upd H2 D.wo<|.dK<|putK S.wo (Sum.inr y)<|.ref M) D.he (.dK<|putK S.he (Sum.inr y)<|.int 1) M=some (.lst (.non::J.map V.str)):=by rw[Yg (Jh h3 O.he (by intro z;cases z))];exact h3
   rw[Yg (Jh h4 N.pd (by intro z;cases z))];exact h4
end
end K4
namespace L2
open PySem
end L2
namespace K4
open PySem L2
end K4
namespace L2
open PySem
def Mz{L:pi}(e:Z.map (·.1)=L.map (λk=>(Sum.inr k.1:Key)))(h:y∉L.map (·.1)):VH Z (Sum.inr y)=none:=by
 unfold VH
 cases q:Z.find? λJ=>decide (J.1=Sum.inr y)with
 |none=>rfl
 |some J=>
  have m:=vt q;have M:=List.find?_some q;have z:J.1=Sum.inr y:=Zt M;have G:(Sum.inr y:Key)∈Z.map (·.1):=ZW.mpr ⟨J,m,z⟩;rw[e]at G;obtain⟨k,N,O⟩:=ZW.mp G;exact Zr (ZW.mpr ⟨k,N,Sum.inr.inj O⟩) h
def UH{Z:pi}{s:Shp}(h:z∈(Z++[(y,s)]).map (·.1))(n:z≠y):z∈Z.map (·.1):=by
 rw[ZK,ZX]at h;rcases h with h|h
 .exact h
 .exact Zr (ZQ.mp h) n
def KR.snoc(k:KR H S Z d)(t:TL H A)(L:KK 30 c d Z)(P:KK1 30 c d (Z.map (·.1)) y s)(E:y∉Z.map (·.1))(M:S'.sh=putK S.sh (Sum.inr y) v)(hv:Has A v s.dat)(R:S'.wo=putK S.wo (Sum.inr y) (.ref r))(hr:∃D,A r=some (.lst D)/\HasL A D ((wOf Z 3 s).map W.dat))(B:S'.he=putK S.he (Sum.inr y) (.int (hOf Z 3 s:Nat)))(T:S'.pd=putK S.pd (Sum.inr y) (.int (d y:Nat)))(C:∀x:Str,VH S'.tk (Sum.inr x)=if JS x s=true then some (.str y)else VH S.tk (Sum.inr x))(i:S'.tk.length<=S.tk.length+4)(I:∀x,JS x s=true->JK Z x=none)(X:∀a b:Str,VH S'.pk [Sum.inr a,Sum.inr b]=if JR a b s=true then some (.str y)else VH S.pk [Sum.inr a,Sum.inr b])(h:S'.pk.length<=S.pk.length+4)(U:∀a b,JR a b s=true->V1 Z a b=none):
  KR A S' (Z++[(y,s)]) d:=by
 have Q:=k.tl t;have j:=Mz k.ke E
 have hw:VA (Z++[(y,s)]) 3 y=wOf Z 3 s:=by
  rw[WR (Gv E)]
  cases s with
  |tags m=>rfl
  |pair a b=>
   obtain⟨O,N,w,u,f,p⟩:=P;have o:=jB (d a)<|d b;have l:=jx (d a)<|d b;show(W.non::_)=(W.non::_);rw[Jr L _ 2 a O,Jr L _ 2 b N,UB L 2 3 a O (by lia)<|by lia,UB L 2 3 b N (by lia) (by lia)]
 have hh:W7 (Z++[(y,s)]) 3 y=hOf Z 3 s:=by
  rw[X5 (Gv E)]
  cases s with
  |tags m=>rfl
  |pair a b=>
   obtain⟨O,N,w,u,f,p⟩:=P;have o:=jB (d a)<|d b;have l:=jx (d a)<|d b;show 1+_+_=1+_+_;rw[UV L _ 2 a O,UV L _ 2 b N,XN L 2 3 a O (by lia)<|by lia,XN L 2 3 b N (by lia) (by lia)]
 have F:∀{z:Str},z≠y->¬(Sum.inr z:Key)=Sum.inr y:=λn q=>n<|Sum.inr.inj q;obtain⟨b1,b2,b3,b4,b5,b6⟩:=k.ln;exists ?_,λz g G=>?_,λz G=>?_,λz G=>?_,λz G=>?_,λx=>?_,λa b=>?_
 .rw [M,Jf v j,ZK,ZK,k.ke];rfl
 .rw [M,JA]
  by_cases e:z=y
  .subst e
   rw[Gv E]at G;cases G;rw[Zp rfl];exact⟨v,Y,hv⟩
  .rw [Zq (F e)]
   have J:=UH (ZW.mpr ⟨_,Xt G,rfl⟩) e;rw[WX J]at G;exact Q.sh z g G
 .rw [R,JA]
  by_cases e:z=y
  .subst e
   rw[Zp rfl,hw];obtain⟨D,g1,g2⟩:=hr;exact⟨r,D,Y,g1,g2⟩
  .rw [Zq (F e)]
   have J:=UH G e;rw[Jr L _ 3 z J];exact Q.wo z J
 .rw [B,JA]
  by_cases e:z=y
  .subst e
   rw[Zp rfl,hh]
  .rw [Zq (F e)]
   have J:=UH G e;rw[UV L _ 3 z J];exact k.he z J
 .rw [T,JA]
  by_cases e:z=y
  .subst e
   rw[Zp rfl]
  .rw [Zq (F e)]
   exact k.pd z<|UH G e
 .rw [C x]
  have e:JK (Z++[(y,s)]) x=(JK Z x).or (if JS x s=true then some y else none):=by
   unfold JK;rw[XQ]
   cases Z.find? λk=>JS x k.2 with
   |some k=>rfl
   |none=>
    show Option.map _ (if JS x s=true then some (y,s)else none)=_;cases JS x s <;> rfl
  rw[e]
  cases hx:JS x s with
  |true=>rw[I x hx];rfl
  |false=>
   rw[k.tk x];cases JK Z x <;> rfl
 .rw [X a b]
  have e:V1 (Z++[(y,s)]) a b=(V1 Z a b).or (if JR a b s=true then some y else none):=by
   unfold V1;rw[XQ]
   cases Z.find? λk=>JR a b k.2 with
   |some k=>rfl
   |none=>
    show Option.map _ (if JR a b s=true then some (y,s)else none)=_;cases JR a b s <;> rfl
  rw[e]
  cases hx:JR a b s with
  |true=>rw[U a b hx];rfl
  |false=>
   rw[k.pk a b];cases V1 Z a b <;> rfl
 .rw [ZL,vc,M,R,B,T]
  have:=Vj S.sh (Sum.inr y) v;have:=Vj S.wo (Sum.inr y)<|.ref r;have:=Vj S.he (Sum.inr y)<|.int (hOf Z 3 s:Nat);have:=Vj S.pd (Sum.inr y)<|.int (d y:Nat);exact⟨by lia,by lia,by lia,by lia,by lia,by lia⟩
end L2
namespace K4
open PySem L2
section
variable{f g C gt gp gn:Addr}
def Rt(C:Addr):Sp:=λM H Q _=>∃(A:KA6)(S:KC)(y:Str)(v:V)(s:Shp)(Z:pi)(c d:pj),M=[.ref A.t,.str y,v]/\KD H C A S/\KR H S Z d/\KK 30 c d Z/\KK1 30 c d (Z.map (·.1)) y s/\y∉Z.map (·.1)/\
 (1<=y.length/\y.length<=8/\∀c∈y.cps.toList,97<=c/\c<97+26)/\(∃G,s=.tags G/\Wds 65 G)/\(∀x,JS x s=true->JK Z x=none)/\(∀a b,JR a b s=true->V1 Z a b=none)/\Has H v s.dat/\Z.length<=6/\
 ∀J L,KFr A H J->KD J C A L->KR J L (Z++[(y,s)]) d->Q .non J
def vK(A:KA6):(Tf A).lookup ("take_tags":Str)=none:=rfl
def Oh:Yh ["self","name","shape"] ["self","name","shape"] (Yd BW):=Y2
def Kl(B:Blt D)(T:KCl K C)(F:Fun K "take" "Kinds.take" BW f fd)(GN:Ye P w K D base CX0 n gn nd' ["text"] (Uv 97))(bN:Binds K nd' ["text"] [])(kN:W.keepIn K (.ref gn)=true)(mN:D "is_name"=some (.ref gn))(GT:Ye P w K D base CX0 n gt td ["self","name","tags"] (BC C))(bT:Binds K td ["self","name","tags"] [])(mT:VJ K C "take_tags" gt):
  Ye P w K D base CX0 (n+1) f fd ["self","name","shape"] (Rt C):=by
 refine F.oq Oh λG1 A X s H vs Q E e h=>?_;obtain⟨G,S,y,v,s,ks,c,d,rfl,kd,I,kk,k1,ny,⟨y1,y8,yc⟩,⟨L,rfl,wt⟩,N,j,hv,k6,q⟩:=h;have hu:=JQ e;refine⟨_,YY (Y3 (JZ<|Vz<|JY GN e rfl mN kN bN .nil Y4 (pa1<|pv 1)) (YZ JT) Yo)
  (YY (Y3 (Ub<|Xh hu (pv 1)<|Yt (pv 0) rfl) (YZ JT) Yo)
  (YY (Y3 (PW.pt<|MN (Yp VX (Y9 Yw rfl B.len Zu (pa1<|pv 2)) Ya<|Yx _)<|GO<|Yp VX (Yk Yq (pv 2) Ya) Yr<|Yx _)
   (YZ<|VZ<|Y6 (pv 0) T.cl mT GT e bT .nil Y4<|pa2 (pv 1)<|Yk Yq (pv 2) Ya)
   (YZ JT))
  (YZ<|V5 hu (Yt (pv 0) rfl) (pv 1) (pv 2) rfl))),?_⟩
 show let a:=_;let b:=_;let f:=Yl (VF _ b _) a;let g:=_;let h:=Yl (VF _ g _) f;let i:=_;Yl (VF _ i _) h _ _ _
 intros
 refine⟨y,Y,y1,y8,yc,λH1 R=>⟨_,Y,?_⟩⟩;refine Y0 (by simp) ?_;have J:=kd.mono R;have z:=I.tl R.tl;have O:=hv.mono R;have gn:JG H1 G.sh (.str y) none:=by rw[<-Mz I.ke ny];exact JG.k (k:=Sum.inr y) J.sh
 exists C,_,_,_,J.ins,T.cl,T.sh,FX _,_,gn,_,Y;refine Y0 (by simp) ?_;obtain⟨b1,b2,b3,b4,b5,b6⟩:=I.ln;obtain⟨p,l,rfl,o,hl⟩:=X9 O;have l2:([V.str "tags",V.ref l]:kZ).length=2:=rfl;exists p,_,Y,.inr<|Z2 o,rfl,_,rfl;refine VG (by simp) ?_;exists _,_,Z2 o,Y,Y,_,Y;refine VG (by simp) ?_;obtain⟨t1,t4,_,t0,_⟩:=k1;refine⟨_,_,J.ins,vK _,_,_,Z2 o,Y,G,S,y,l,L,Y,J,hl,t1,t4,wt,λx hx=>?_,by lia,by lia,by lia,by lia,λH2 J2 r f2 Z tv tl u=>?_⟩
 .rw [I.tk x,N x (by unfold JS;exact decide_eq_true hx)];rfl
 .have tl2:=f2.tl J
  refine⟨C,_,_,_,Z.ins,T.cl,T.sh,FX _,_,Uq.k (k:=Sum.inr y) Z.sh<|Y1 (by show S.sh.length<=1000;lia),?_⟩;have t:=Z.put_sh<|putK S.sh (Sum.inr y)<|.ref p;have f3:=f2.put (x:=G.sh) (by simp[KA6.ds])<|.dK<|putK S.sh (Sum.inr y)<|.ref p;have M:=tl2.trans<|(KFr.put (KFr.refl G H2) (x:=G.sh) (by simp[KA6.ds])<|.dK<|putK S.sh (Sum.inr y)<|.ref p).tl Z;have U:=(KFr.put (KFr.refl G H2) (x:=G.sh) (by simp[KA6.ds])<|.dK<|putK S.sh (Sum.inr y)<|.ref p).tl Z;refine q _ _ (R.kfr.trans f3) t<|KR.snoc (v:=.ref p) (r:=r) z M kk ⟨t1,t4,by assumption,t0,by assumption⟩ ny rfl (Has.tl M _ O) rfl ⟨_,U.2 _ _ u,?_⟩ rfl (by rw[t0];rfl) (λx=>?_) tl N (λa b=>rfl) (je _ _) j
  .show HasL _ (V.non::L.map V.str) ((W.non::L.map W.tag).map W.dat)
   exact Z4 Mi<|M7 L
  .rw [tv x]
   unfold JS
   by_cases m:x∈L
   .rw [Zp m,Zp (decide_eq_true m)]
   .rw [Zq m,Zq (by simp[m])]
end
end K4
namespace L2
open PySem
def Jm(L:H x=some (.ins C Z fs))(G:H p=none):
  upd (upd H p o) x (.ins C Z<|VU f (.ref p) fs) x=some (.ins C Z<|VU f (.ref p) fs)/\upd (upd H p o) x (.ins C Z<|VU f (.ref p) fs) p=some o/\p≠x/\∀b u,b≠x->H b=some u->upd (upd H p o) x (.ins C Z<|VU f (.ref p) fs) b=some u:=by
 have J:p≠x:=(Yb L G).symm;exact⟨Yf,(Yg J).trans Yf,J,λb u M h=>by rw[Yg M,Yg (Yb h G)];exact h⟩
def KK.take(h:KK top c d J)(i:Nat):KK top c d (J.take i):=λj y s e=>by
 have Z:j<i:=by
  have:=(ZF.mp e).1;rw[ZN]at this;lia
 rw[qW,Zp Z]at e;have q:=h j y s e;rw[List.take_take,ji (Zh Z)];exact q
def P0{i j a b:Nat}(h:4*i+a=4*j+b)(J:a<4)(Z:b<4):i=j:=by lia
def KG.apart(g:KG M){i j:Nat}(E:M[i]?=some (y,.tags G))(D:M[j]?=some (z,.tags J))(A:x∈G)(F:x∈J):i=j:=by
 obtain⟨Z,wd,q⟩:=g.tg;obtain⟨r,X,rfl⟩:=q i y G E;obtain⟨C,B,rfl⟩:=q j z J D;obtain⟨a,O,T⟩:=vZ.mp A;obtain⟨b,N,R⟩:=vZ.mp F;rw[ZN,j0]at O N;obtain⟨Q,U⟩:=Nat.lt_min.mp O;obtain⟨P,S⟩:=Nat.lt_min.mp N;rw[List.getElem_take,List.getElem_drop]at T R;have e:Z[4*i+a]'(Nat.add_lt_of_lt_sub' U)=Z[4*j+b]'(Nat.add_lt_of_lt_sub' S):=T.trans R.symm;have L:=jc.mp wd.nd
 have I:4*i+a=4*j+b:=by
  rcases kD (4*i+a) (4*j+b)with h|h|h
  .exact Zr e (L _ _ _ _ h)
  .exact h
  .exact Zr e.symm (L _ _ _ _ h)
 exact P0 I (by lia)<|by lia
def KG.ntk(g:KG Z)(T:Z[i]?=some (y,s))(x:Str)(h:JS x s=true):JK (Z.take i) x=none:=by
 cases s with
 |pair a b=>cases h
 |tags N=>
  have R:x∈N:=Zt h;unfold JK
  cases e:(Z.take i).find? λk=>JS x k.2 with
  |none=>rfl
  |some k=>
   have m:=vt e;have q:=List.find?_some e;obtain⟨z,O⟩:=k
   cases O with
   |pair a b=>cases q
   |tags L=>
    have J:x∈L:=Zt q;obtain⟨j,M,B⟩:=vZ.mp m;have G:j<i:=by rw[ZN]at M;lia
    have D:Z[j]?=some (z,.tags L):=by
     have:=ZD M;rw[B,qW,Zp G]at this;exact this
    have:=g.apart T D R J;lia
def KG.npk(g:KG J)(N:J[i]?=some (y,s))(a b:Str)(h:JR a b s=true):V1 (J.take i) a b=none:=by
 have L:∀{Z:Shp},JR a b Z=true->Z=.pair a b:=λ{Z} h=>by
  cases Z with
  |tags D=>cases h
  |pair c e=>
   unfold JR at h;rw[ZZ]at h;rw[Zt h.1,Zt h.2]
 unfold V1
 cases e:(J.take i).find? λk=>JR a b k.2 with
 |none=>rfl
 |some k=>
  have m:=vt e;have q:=List.find?_some e;obtain⟨z,Z⟩:=k;have B:=L h;have R:Z=.pair a b:=L q;subst B R;obtain⟨j,M,O⟩:=vZ.mp m;have G:j<i:=by rw[ZN]at M;lia
  have T:J[j]?=some (z,.pair a b):=by
   have:=ZD M;rw[O,qW,Zp G]at this;exact this
  have:=g.pr i j y z a b N T;lia
end L2
namespace K4
open PySem L2
section
variable{f g C gt:Addr}
def BE(C:Addr):Sp:=λL H Q _=>∃(x N l:Addr)(G:kZ)(Z:pi)(c d:pj),L=[.ref x,.ref l]/\H x=some (.ins C N [])/\H l=some (.lst G)/\HasL H G (Z.map NZ)/\KK 30 c d Z/\(Z.map (·.1)).Nodup/\KG Z/\(∀k∈Z,∃M,k.2=.tags M)/\0<Z.length/\Z.length<=6/\
 ∀J,(∀b o,b≠x->H b=some o->J b=some o)->KI J C x Z d->Q .non J
def ze(A:KA6):(Tf A).lookup ("take":Str)=none:=rfl
def BM:Yh ["self","told","name","shape"] ["self","told"] (Yd Iq):=Y2
def PZ(B:Blt mg)(T:KCl K C)(F:Fun K "__init__" "Kinds.__init__" Iq f fd)(hM:mg "MOST_KINDS"=some u)(rM:RelV (.int 6) u)(GT:Ye P w K mg base CX0 n gt td ["self","name","shape"] (Rt C))(bT:Binds K td ["self","name","shape"] [])(mT:VJ K C "take" gt):
  Ye P w K mg base CX0 (n+1) f fd ["self","told"] (BE C):=by
 refine F.oq BM λS1 A T2 s H vs Q E hr h=>?_;obtain⟨x,M,l,xs,ks,c,d,rfl,hx,hl,G3,kk,nd,kg,tg,k0,k6,q⟩:=h;refine⟨_,YY (Y3 (JZ<|Xx XT XT Ya (Y9 Yw rfl B.len Zu (pa1<|pv 1))<|JW rfl hM rM) (YZ JT) Yo)
  (YY (Va (pv 0) JB rfl) (YY (Va (pv 0) JB rfl) (YY (Va (pv 0) JB rfl) (YY (Va (pv 0) JB rfl) (YY (Va (pv 0) JB rfl) (YY (Va (pv 0) KN rfl)
  (YZ (Ja Zv rfl (Jz<|pv 1) (Ve (n:=2) rfl (Yn (Ym 2 BM.nd)<|Yn (Ym 3 BM.nd) VM))
   (YZ<|VZ<|Y6 (pv 0) T.cl mT GT hr bT .nil Y4<|pa2 (pv 2)<|pv 3))))))))),?_⟩
 show let a:=_;let b:=XS _ _ a;let c:=Yl _ b;let d:=Yl _ c;let e:=Yl _ d;let f:=Yl _ e;let g:=Yl _ f;let h:=Yl _ g;let i:=_;Yl (VF _ i _) h _ _ _
 intros
 have lx:=G3.length;rw[ZA]at lx;exists l,_,Y,.inl<|Z3 hl,_,rfl;refine VG (by simp;lia) ?_;exists _,Y;refine Y0 (by simp;lia) ?_;intro X J2;refine⟨x,C,M,_,Y,by rw[Yg (Yb hx J2)];exact hx,T.cl,T.sh,by decide,?_⟩;obtain⟨x1,a1,n1,r⟩:=Jm (f:="shapes") (o:=.dK []) hx J2;generalize upd (upd H X<|.dK []) x (.ins C M<|VU "shapes" (.ref X) [])=H1 at x1 a1 r |-;intro p2 N;refine⟨x,C,M,_,Y,by rw[Yg (Yb x1 N)];exact x1,T.cl,T.wo,(by show 1<1000;decide),?_⟩;obtain⟨x2,a2,n2,p⟩:=Jm (f:="worths") (o:=.dK []) x1 N;generalize upd (upd H1 p2<|.dK []) x (.ins C M<|VU "worths" (.ref p2)<|VU "shapes" (.ref X) [])=H2 at x2 a2 p |-;intro p3 L;refine⟨x,C,M,_,Y,by rw[Yg (Yb x2 L)];exact x2,T.cl,T.he,(by show 2<1000;decide),?_⟩;obtain⟨x3,a3,n3,k⟩:=Jm (f:="heights") (o:=.dK []) x2 L;generalize upd (upd H2 p3<|.dK []) x (.ins C M<|VU "heights" (.ref p3)<|VU "worths" (.ref p2)<|VU "shapes" (.ref X) [])=H3 at x3 a3 k |-;intro p4 G;refine⟨x,C,M,_,Y,by rw[Yg (Yb x3 G)];exact x3,T.cl,T.pd,(by show 3<1000;decide),?_⟩;obtain⟨x4,a4,n4,m⟩:=Jm (f:="pairs_deep") (o:=.dK []) x3 G;generalize upd (upd H3 p4<|.dK []) x (.ins C M<|VU "pairs_deep" (.ref p4)<|VU "heights" (.ref p3)<|VU "worths" (.ref p2)<|VU "shapes" (.ref X) [])=H4 at x4 a4 m |-;intro p5 J;refine⟨x,C,M,_,Y,by rw[Yg (Yb x4 J)];exact x4,T.cl,T.tk,(by show 4<1000;decide),?_⟩;obtain⟨x5,a5,n5,t⟩:=Jm (f:="tag_kinds") (o:=.dK []) x4 J;generalize upd (upd H4 p5<|.dK []) x (.ins C M<|VU "tag_kinds" (.ref p5)<|VU "pairs_deep" (.ref p4)<|VU "heights" (.ref p3)<|VU "worths" (.ref p2)<|VU "shapes" (.ref X) [])=H5 at x5 a5 t |-;intro p6 Z;refine⟨x,C,M,_,Y,by rw[Yg (Yb x5 Z)];exact x5,T.cl,T.pk,(by show 5<1000;decide),?_⟩;obtain⟨x6,a6,n6,j⟩:=Jm (f:="pair_kinds") (o:=.dT []) x5 Z;generalize upd (upd H5 p6<|.dT []) x (.ins C M<|VU "pair_kinds" (.ref p6)<|VU "tag_kinds" (.ref p5)<|VU "pairs_deep" (.ref p4)<|VU "heights" (.ref p3)<|VU "worths" (.ref p2)<|VU "shapes" (.ref X) [])=H6 at x6 a6 j |-
 let D:KA6:=⟨x,M,X,p2,p3,p4,p5,p6⟩
 have frame:∀b o,b≠x->H b=some o->H6 b=some o:=λb o R h=>j b o R<|t b o R<|m b o R<|k b o R<|p b o R<|r b o R h;have T0:=p _ _ n1 a1;have R8:=k _ _ n1 T0;have R7:=m _ _ n1 R8;have R6:=t _ _ n1 R7;have I8:=j _ _ n1 R6;have R5:=k _ _ n2 a2;have R4:=m _ _ n2 R5;have R3:=t _ _ n2 R4;have I7:=j _ _ n2 R3;have R1:=m _ _ n3 a3;have R0:=t _ _ n3 R1;have I6:=j _ _ n3 R0;have O1:=t _ _ n4 a4;have I5:=j _ _ n4 O1;have I4:=j _ _ n5 a5
 have T3:D.ds.Nodup:=by
  have I3:=Yb a1 N;have I2:=Yb T0 L;have I1:=Yb R8 G;have F9:=Yb R7 J;have F8:=Yb R6 Z;have F7:=Yb a2 L;have F6:=Yb R5 G;have F5:=Yb R4 J;have F4:=Yb R3 Z;have F3:=Yb a3 G;have F2:=Yb R1 J;have F1:=Yb R0 Z;have D3:=Yb a4 J;have D0:=Yb O1 Z;have T9:=Yb a5 Z;simp[KA6.ds,D,I3,I2,I1,F9,F8,F7,F6,F5,F4,F3,F2,F1,D3,D0,T9]
 have kd:KD H6 C D ⟨[],[],[],[],[],[]⟩:=⟨x6,I8,I7,I6,I5,I4,a6,T3⟩
 have new:∀b,b∈D.ds->H b=none:=λb R=>by
  cases e:H b with
  |none=>rfl
  |some o=>
   simp only[KA6.ds,D,Zd,jH,or_false]at R;rcases R with z|z|z|z|z|z
   .subst z;rw[J2]at e;cases e
   .subst z;rw[r _ _ n2 e]at N;cases N
   .subst z;rw[p _ _ n3 (r _ _ n3 e)]at L;cases L
   .subst z;rw[k _ _ n4 (p _ _ n4<|r _ _ n4 e)]at G;cases G
   .subst z;rw[m _ _ n5 (k _ _ n5<|p _ _ n5<|r _ _ n5 e)]at J;cases J
   .subst z;rw[t _ _ n6 (m _ _ n6<|k _ _ n6<|p _ _ n6<|r _ _ n6 e)]at Z;cases Z
 have T4:l≠x:=Jh hl hx (by intro z;cases z);have M2:=frame _ _ T4 hl;have G1:TL H H6:=⟨λb ys h=>frame _ _ (Jh h hx (by intro z;cases z)) h,λb ys h=>frame _ _ (Jh h hx (by intro z;cases z)) h⟩;have T6:=HasL.tl G1 _ G3;exists ⟨_,Z3 M2⟩
 let I:pc:=λi U H'=>∃S z1 z2,KFr D H6 H'/\KD H' C D S/\KR H' S (ks.take i) d/\U=[some (.ref x),some<|.ref l,z1,z2]
 refine P3 (xs:=xs) I ⟨_,_,_,KFr.refl _ _,kd,?_,Y⟩ ?_ ?_ ?_
 .rw [qH]
  exact⟨Y,λy s e=>by simp[Vh]at e,λy hy=>by simp at hy,λy hy=>by simp at hy,λy hy=>by simp at hy,λy=>Y,λa b=>Y,by decide⟩
 .rintro i U H' _ ⟨S,z1,z2,fr,kd',kr',rfl⟩
  exact Z3<|(fr.tl kd).2 _ _ M2
 .rintro BB RR i v U H' hv ⟨S,z1,z2,fr,kd',kr',rfl⟩
  have I9:=(ZF.mp hv).1;obtain⟨dv,O,T8⟩:=T6.get hv;rw[ZH]at O
  cases hk:ks[i]? with
  |none=>rw[hk]at O;cases O
  |some ys=>
   rw[hk]at O;cases O;obtain⟨y,sh⟩:=ys;have T1:=fr.tl kd;obtain⟨a,v2,rfl,ha,T7⟩:=LV<|Has.tl T1 _ T8;have my:y∈ks.map (·.1):=ZW.mpr ⟨_,ZJ hk,rfl⟩
   have ny:y∉(ks.take i).map (·.1):=λhm=>by
    have q':((ks.take i++[(y,sh)]).map (·.1)).Nodup:=by rw[<-take_snoc hk];exact nd.sublist<|(jq _ _).map _
    rw[ZK]at q';exact(vX.mp q').2.2 y hm y (by simp) rfl
   exists _,Z2 ha,Y;refine⟨_,_,kd'.ins,ze D,D,S,y,v2,sh,ks.take i,c,d,Y,kd',kr',kk.take i,kk i y sh hk,ny,⟨(kg.nm.len y my).1,(kg.nm.len y my).2,kg.nm.abc y my⟩,?_,kg.ntk hk,kg.npk hk,T7,by rw[ZN];lia,λH2 S2 f2 T5 G2=>?_⟩
   .obtain ⟨ts,e⟩:=tg _<|ZJ hk
    have e':sh=.tags ts:=e;subst e';exact⟨ts,Y,kg.tags<|ZJ hk⟩
   .rw [<-take_snoc hk]at G2
    exact⟨S2,_,_,fr.trans f2,T5,G2,Y⟩
 .rintro U H' ⟨S,z1,z2,fr,kd',kr',rfl⟩
  rw[Zg (by lia)]at kr';refine q H' (λb o R h=>fr b o (λhm=>?_)<|frame b o R h) ⟨D,S,rfl,kd',kr'⟩;rw[new b hm]at h;cases h
end
end K4
namespace L2
open PySem
def Tj{α:Type}{p:α->Bool}{l:List α}{x:α}(h:(l.take i).find? p=none)(e:l[i]?=some x)(Z:p x=true):l.find? p=some x:=by
 have J:=(ZF.mp e).1;have G:l.drop i=x::l.drop (i+1):=by rw[List.drop_eq_getElem_cons J,(ZF.mp e).2]
 rw[<-qB i l,List.find?_append,h,G,vU,Z]
 rfl
def QV(h:Vh Z y=some s):∃i:Nat,Z[i]?=some (y,s):=vp.mp<|Xt h
def N5(g:KG Z)(h:Vh Z y=some (.tags J))(m:t∈J):JK Z t=some y:=by
 obtain⟨i,L⟩:=QV h;have G:JS t (.tags J)=true:=by unfold JS;exact decide_eq_true m
 have n:=g.ntk L t G;unfold JK at n |-
 rw[Tj (by cases e:(Z.take i).find? λk=>JS t k.2 with
  |none=>rfl
  |some k=>rw[e]at n;cases n) L G]
 rfl
def NL(g:KG Z)(h:Vh Z y=some (.pair a b)):V1 Z a b=some y:=by
 obtain⟨i,G⟩:=QV h;have J:JR a b (.pair a b)=true:=by unfold JR;simp
 have n:=g.npk G a b J;unfold V1 at n |-
 rw[Tj (by cases e:(Z.take i).find? λk=>JR a b k.2 with
  |none=>rfl
  |some k=>rw[e]at n;cases n) G J]
 rfl
def LT(h:Has H v (.tup [.str b,d])):∃a u,v=.ref a/\H a=some (.tup [.str b,u])/\Has H u d:=by
 obtain⟨t,R,rfl,L,M⟩:=Yu h;obtain⟨T,D,rfl,O,J⟩:=Yc M;obtain⟨G,B,rfl,N,Z⟩:=Yc J;obtain rfl:=VC Z;obtain rfl:=has_str O;exact⟨t,G,Y,L,N⟩
def Fj:List (Option Str)->Option (kQ)
 |[]=>some []
 |none::_=>none
 |some x::r=>(Fj r).map (x:: ·)
theorem Nx:∀Z:kQ,Fj (Z.map some)=some Z
 |[]=>rfl
 |z::Z=>by show(Fj<|Z.map some).map (z:: ·)=_;rw[Nx Z];rfl
theorem RZ:∀{l:List (Option Str)},none∈l->Fj l=none
 |none::l,_=>rfl
 |some y::l,h=>by
  show(Fj l).map (y:: ·)=none;rw[RZ ((Zd.mp h).resolve_left λe=>nomatch e)];rfl
theorem Et:∀{l:List (Option Str)},none∉l->∃Z,l=List.map some Z
 |[],_=>⟨[],rfl⟩
 |none::_,h=>Zr Za h
 |some y::l,h=>let⟨Z,e⟩:=Et (l:=l) λm=>h<|ZM _ m;⟨y::Z,by rw[e];rfl⟩
def OU:V->Option Str
 |.str y=>some y
 |_=>none
open Classical in
noncomputable def own (ks:pi) (hd:Hds) (kv:kY):Bd->List Str->Option Str
 |.tag t,_=>JK ks t
 |.name x,_=>(VH kv<|Sum.inr x).bind OU
 |.pair _ _,zs=>match zs with|[a,b]=>V1 ks a b|_=>none
 |.one _,zs=>match zs with|[z]=>(match Vh ks z with|some (.pair a _)=>some a|_=>none)|_=>none
 |.other _,zs=>match zs with|[z]=>(match Vh ks z with|some (.pair _ b)=>some b|_=>none)|_=>none
 |.choose _ ts _,zs=>match zs with|z::y::r=>if Vh ks z=some (.tags ts)/\∀u∈r,u=y then some y else none|_=>none
 |.ask f _,zs=>match hd f with|some (ps,k)=>if ps.map (·.2)=zs then some k else none|none=>none
 |.letb _ z _ _,zs=>match zs with|[a,y]=>if a=z then some y else none|_=>none
def Jy(ks:pi)(kv:kY):Bd->Prop
 |.letb x z _ _=>(VH kv<|Sum.inr x).isSome=true\/z∉ks.map (·.1)
 |_=>False
open Classical in
noncomputable def kdn (ks:pi) (hd:Hds):Nat->List (Key×V)->Bd->Option Str
 |0,_,_=>none
 |n+1,kv,b=>if Jy ks kv b then none else(Fj<|b.parts.map<|kdn ks hd n<|wth kv b).bind (own ks hd kv b)
def GU(h:Jy J Z b):kdn J hd (n+1) Z b=none:=by unfold kdn;exact Zp h
def TU(h:none∈b.parts.map (kdn J hd n<|wth Z b)):kdn J hd (n+1) Z b=none:=by
 unfold kdn;split
 .rfl
 .rw [RZ h];rfl
def Md(h:¬Jy J Z b)(e:b.parts.map (kdn J hd n<|wth Z b)=G.map some):kdn J hd (n+1) Z b=own J hd Z b G:=by unfold kdn;rw[Zq h,e,Nx];rfl
def NK(ns:kQ)(kv:kY):Prop:=∀q∈kv,∃(x k:Str),q=(Sum.inr x,V.str k)/\k∈ns
def HK(ns:kQ)(hd:Hds):Prop:=∀f Z k,hd f=some (Z,k)->k∈ns
def NK.wth(h:NK (J.map (·.1)) Z)(G:¬Jy J Z b):NK (J.map (·.1)) (wth Z b):=by
 cases b with
 |letb x z e g=>
  intro q L;rcases KB L with m|rfl
  .exact h q m
  .exact ⟨x,z,rfl,Classical.not_not.mp λm=>G<|.inr m⟩
 |_=>exact h
def Ng{Z:pi}{p:Str×Shp->Bool}(h:(Z.find? p).map (·.1)=some y):y∈Z.map (·.1):=by
 obtain⟨k,J,rfl⟩:=Zj.mp h;exact ZW.mpr ⟨k,vt J,Y⟩
def NK.at(h:NK Z J)(e:VH J (Sum.inr x)=some v):∃k,v=.str k/\k∈Z:=by
 obtain⟨q,m,_,rfl⟩:=Fw e;obtain⟨_,k,rfl,G⟩:=h q m;exact⟨k,Y,G⟩
def PH(G:KK 30 c d Z)(N:NK (Z.map (·.1)) J)(R:HK (Z.map (·.1)) hd)(L:∀z∈M,z∈Z.map (·.1))(h:own Z hd J b M=some y):y∈Z.map (·.1):=by
 cases b with
 |tag t=>exact Ng h
 |name x=>
  obtain⟨v,O,e⟩:=Option.bind_eq_some_iff.mp (show(VH J<|Sum.inr x).bind OU=some y from h);obtain⟨k,rfl,m⟩:=N.at O;cases e;exact m
 |pair a b=>
  unfold own at h;dsimp only at h;split at h
  .exact Ng h
  .cases h
 |one e=>
  unfold own at h;dsimp only at h;split at h
  .split at h
   .rename_i hs;cases h;exact(G.at hs).1
   .cases h
  .cases h
 |other e=>
  unfold own at h;dsimp only at h;split at h
  .split at h
   .rename_i hs;cases h;exact(G.at hs).2.1
   .cases h
  .cases h
 |choose e T B=>
  unfold own at h;dsimp only at h;split at h
  .split at h
   .cases h;exact L _<|by simp
   .cases h
  .cases h
 |ask f D=>
  unfold own at h;dsimp only at h;split at h
  .split at h
   .rename_i hf _;cases h;exact R _ _ _ hf
   .cases h
  .cases h
 |letb x z e g=>
  unfold own at h;dsimp only at h;split at h
  .split at h
   .cases h;exact L _<|by simp
   .cases h
  .cases h
theorem ES(G:KK 30 c d Z)(L:HK (Z.map (·.1)) hd):∀(n:Nat)(J:kY)(b:Bd)(y:Str),NK (Z.map (·.1)) J->kdn Z hd n J b=some y->y∈Z.map (·.1)
 |0,_,_,_,_,h=>nomatch h
 |n+1,J,b,y,nk,h=>by
  by_cases nb:Jy Z J b
  .rw [GU nb]at h;cases h
  by_cases hn:none∈b.parts.map (kdn Z hd n<|wth J b)
  .rw [TU hn]at h;cases h
  obtain⟨O,M⟩:=Et hn;rw[Md nb M]at h;refine PH G nk L (λz N=>?_) h;have m:some z∈b.parts.map (kdn Z hd n<|wth J b):=by rw[M];exact ZW.mpr ⟨z,N,Y⟩
  obtain⟨p,_,e⟩:=ZW.mp m;exact ES G L n _ p z (nk.wth nb) e
def S8(N:KG L)(E:∀e G J,b=.choose e G J->1<=J.length)(h:Kr L hd M y b R):own L hd M b R=some y:=by
 cases b with
 |tag t=>obtain⟨_,G,Z,T⟩:=h;exact N5 N Z T
 |name x=>obtain⟨_,Z⟩:=h;show(VH M<|Sum.inr x).bind OU=_;rw[Z];rfl
 |pair a b=>obtain⟨S,O,rfl,Z⟩:=h;exact NL N Z
 |one e=>obtain⟨z,O,rfl,Z⟩:=h;show(match Vh L z with|some (.pair a _)=>some a|_=>none)=_;rw[Z]
 |other e=>obtain⟨z,O,rfl,Z⟩:=h;show(match Vh L z with|some (.pair _ b)=>some b|_=>none)=_;rw[Z]
 |choose e G J=>
  obtain⟨z,rfl,Z,A⟩:=h;have:=E e G J rfl;obtain⟨m,D⟩:∃m,J.length=m+1:=⟨J.length-1,by lia⟩;rw[D,List.replicate_succ];exact Zp ⟨Z,λu B=>List.eq_of_mem_replicate B⟩
 |ask f I=>
  obtain⟨F,Z,rfl⟩:=h;unfold own;dsimp only;rw[Z];exact Zp Y
 |letb x z e g=>obtain⟨rfl,_,_⟩:=h;exact Zp Y
theorem Kd.kdn(T:KG G)(O:∀z L,Vh G z=some (.tags L)->1<=L.length):∀(n:Nat)(J:kY)(b:Bd)(y:Str),Kd G hd J y b->b.dep<n->L2.kdn G hd n J b=some y
 |0,_,_,_,_,h=>nomatch h
 |n+1,J,b,y,h,hn=>by
  obtain⟨Z,M,R,F⟩:=h.inv
  have D:¬Jy G J b:=by
   cases b with
   |letb x z e g=>obtain⟨_,N,A⟩:=M;exact λm=>m.elim (λm=>by rw[N]at m;cases m) λm=>m A
   |_=>exact id
  have e:b.parts.map (L2.kdn G hd n<|L2.wth J b)=Z.map some:=by
   refine kE λi=>?_;rw[ZH,ZH]
   cases hp:b.parts[i]? with
   |none=>
    have:Z[i]?=none:=qg.mpr (by rw[R];exact qg.mp hp);rw[this];rfl
   |some p=>
    have I:i<Z.length:=by rw[R];exact(ZF.mp hp).1
    have B:Z[i]?=some Z[i]:=ZD I;have:=Bd.dep_mem<|ZJ hp;rw[B];exact congrArg some<|Kd.kdn T O n _ p _ (F i p _ hp B)<|by lia
  rw[Md D e];refine S8 T (λU L C S=>?_) M;subst S;obtain⟨z,_,N,E⟩:=M;rw[E];exact O _ _ N
def wrs(f:Bd->List (kT)):Nat->List Bd->List (kT)
 |_,[]=>[]
 |k,c::cs=>(f c).map (((k:Nat):Int):: ·)++ wrs f (k+1) cs
open Classical in
noncomputable def wr (ks:pi) (hd:Hds):Nat->List (Key×V)->Bd->List (kT)
 |0,_,_=>[]
 |n+1,kv,b=>if Jy ks kv b then[[]]else if none∈b.parts.map (kdn ks hd n<|wth kv b)then wrs (wr ks hd n<|wth kv b) 0 b.parts else if kdn ks hd (n+1) kv b=none then[[]]else[]
theorem Rc{f:Bd->List (kT)}:∀(k:Nat)(Z J:List Bd),wrs f k (Z++ J)=wrs f k Z++ wrs f (k+Z.length) J
 |k,[],J=>by simp[wrs]
 |k,x::Z,J=>by
  have e:k+1+Z.length=k+(Z.length+1):=by lia
  simp[wrs,Rc (k+1) Z J,e]
def Fl{f:Bd->List (kT)}{Z:List Bd}(h:Z[i]?=some c):wrs f 0 (Z.take<|i+1)=wrs f 0 (Z.take i)++ (f c).map (((i:Nat):Int):: ·):=by
 have J:=(ZF.mp h).1;rw[take_snoc h,Rc];simp[wrs,ZN,ji (Zh J)]
theorem Rb{f:Bd->List (kT)}:∀(k:Nat)(Z:List Bd),wrs f k Z=[]↔∀c∈Z,f c=[]
 |k,[]=>by simp[wrs]
 |k,x::Z=>by simp[wrs,Rb (k+1) Z]
theorem Re:∀(n:Nat)(Z:kY)(b:Bd),b.dep<n->(wr J hd n Z b=[]↔kdn J hd n Z b≠none)
 |0,_,_,h=>Zr h<|Zw _
 |n+1,Z,b,h=>by
  unfold wr
  by_cases c1:Jy J Z b
  .rw [Zp c1,GU c1];simp
  .rw [Zq c1]
   by_cases c2:none∈b.parts.map (kdn J hd n<|wth Z b)
   .rw [Zp c2,TU c2]
    refine⟨λe=>?_,λe=>Zr Y e⟩;obtain⟨c,G,L⟩:=ZW.mp c2;have M:=Bd.dep_mem G;exact Zr L<|(Re n (wth Z b) c<|by lia).mp<|(Rb 0 _).mp e c G
   .rw [Zq c2]
    by_cases c3:kdn J hd (n+1) Z b=none
    .rw [Zp c3];simp[c3]
    .rw [Zq c3];simp[c3]
def OL(h:¬Jy J Z b)(e:none∈b.parts.map (kdn J hd n<|wth Z b)):wr J hd (n+1) Z b=wrs (wr J hd n<|wth Z b) 0 b.parts:=by
 unfold wr;rw[Zq h,Zp e]
def Fn(h:Jy J Z b):[[]]=wr J hd (n+1) Z b:=by unfold wr;rw[Zp h]
def Q1(h:¬Jy J Z b)(e:none∉b.parts.map (kdn J hd n<|wth Z b))(k:kdn J hd (n+1) Z b=none):[[]]=wr J hd (n+1) Z b:=by unfold wr;rw[Zq h,Zq e,Zp k]
def Fm{G:List Bd}(h:∀c∈G,c.dep<n):wrs (wr L hd n J) k G=[]↔none∉G.map (kdn L hd n J):=by
 rw[Rb]
 constructor
 .intro z m
  obtain⟨c,Z,e⟩:=ZW.mp m;exact(Re n J c<|h c Z).mp (z c Z) e
 .intro z c Z
  exact(Re n J c<|h c Z).mpr λe=>z<|ZW.mpr ⟨c,Z,e⟩
def Ew{f:Bd->List (kT)}{Z:List Bd}(h:Z[i]?=some c)(e:wrs f 0 (Z.take i)=[])(J:f c=w::r):∃t,wrs f 0 Z=(((i:Nat):Int)::w)::t:=by
 exists r.map (((i:Nat):Int):: ·)++ wrs f (0+(Z.take<|i+1).length) (Z.drop<|i+1)
 conv=>lhs;rw[<-qB (i+1) Z]
 rw[Rc,Fl h,e,J];simp
end L2
namespace L2
open PySem PySem.Spec PyProof.Rows
section
variable{X:Cx}{CX:CXT}{k:Nat}{E:XK}{ta ti:TE}{t:TA}
def SM(X:Cx)(CX:CXT)(k:Nat)(E:XK)(ta:TE)(t:TA):TE:=λU H Q=>ta U H λv L=>∃(f:Addr)(G:FuncData)(J:kQ)(Z:Sp),v=.ref f/\Ye X.prog X.w X.K X.mg X.base CX k f G J Z/\W.keepIn X.K (.ref f)=true/\Binds X.K G J []/\M8 Z [] E t U L Q
def KU(S:PE X (.Name x p) ta)(D:Vu k X.A)(B:Up CX X E)(j:PA X (e::J) t)(C:starEach (e::J) X.env=(false,eval e X.env)::starEach J X.env:=by rfl)(G:(backTo pos<|starEach J X.env).any (·.1)=false:=by rfl):
  PE X (.Call (.Name x p) (e::J) [] pos) (SM X CX k E ta t):=by
 intro Z s U H Q I h;refine jW<|thn (S Z s U H _ I h) λu N ⟨v,z,M,R,f,r,w,c,y,F,A,P,q⟩=>?_;subst y;obtain rfl:u=Value.ref f:=R;refine qM (h₀:=X.base) M.ok.mod.kin A (thn (j pos Z N U z _ M q) λg d ⟨m,l,L,O,T⟩=>⟨L.kIn,?_⟩) C G;exact G4 F D P .nil B L O T
def CL(a:Addr)(m:Key->Option Value)(ti:TE):TE:=λU H Q=>ti U H λv Z=>∃(q:Key)(u:Value)(y:V),v=kV q/\m q=some u/\RelV y u/\Q y Z
def O7(A:Gl X x)(D:X.mg x=some (.ref a))(S:X.base.MapOf (VD X.prog X.w) a m)(f:X.A.units+1<cLine)(F:PE X i ti)(B:QJ i)(G:(x==("__debug__":Str))=false:=by decide):
  PE X (.Subscript (.Name x p) i pos) (CL a m ti):=by
 intro Z s U H Q I h;refine Rn PySem.F.slot_dict_getitem.lookup B<|GQ I A D ?_ G;refine thn (F Z s U H _ I h) λd L ⟨v,c,N,O,q,u,y,P,T,J,R⟩=>?_;subst P;have M:L.heap.MapOf (VD X.prog X.w) a m:=let⟨o,j,z,C,r⟩:=S;⟨o,j,z,N.bk _ _ C,r⟩
 have g:L.TypeIs (.ref a) "dict":=M.typeIs;exists g;exact wpAny_getItem_of (XX O) M T ⟨y,c,N.tok _,J,R⟩
end
end L2
namespace L2
open PySem
structure BA where
 t:Addr
 dx:Addr
 so:Addr
 td:Addr
 rd:Addr
 tn:Addr
def UK(A:BA):List (Str×V):=[("sorts",.ref A.so),("told",.ref A.td),("rows",.ref A.rd),("turns",.ref A.tn)]
def psD(ps:List (Str×Str)):Dat:=.tup<|ps.map λp=>.tup [.str p.1,.str p.2]
def Uu(x:Dd):Dat:=.tup [psD x.1.2.1,.str x.1.2.2,x.2.dat]
structure BD(H:Hp)(C CK:Addr)(A:BA)(kv:List (Key×V))(ks:List (Str×Shp))(d:Str->Nat)(ds:List Dd):Prop where
 ins:H A.t=some (.ins C A.dx (UK A))
 so:KI H CK A.so ks d
 td:H A.td=some (.dK kv)
 ke:kv.map (·.1)=ds.map (λx=>(Sum.inr x.1.1:Key))
 va:HasL H (kv.map (·.2)) (ds.map Uu)
 nd:(ds.map λx=>x.1.1).Nodup
def BI(H:Hp)(C CK t:Addr)(ks:pi)(d:pj)(ds:List Dd):Prop:=∃A Z,A.t=t/\BD H C CK A Z ks d ds
def BI.mono(b:BI H C M t J d G)(e:Same H L):BI L C M t J d G:=by
 obtain⟨A,Z,h,k⟩:=b;exact⟨A,Z,h,e _ _ k.ins,k.so.mono e,e _ _ k.td,k.ke,k.va.mono e,k.nd⟩
structure BCl(K:W.Frag)(C:Addr):Prop where
 cl:Cls K C
 so:VI K C "sorts"
 td:VI K C "told"
 rd:VI K C "rows"
 tn:VI K C "turns"
def Ld(A:BA):(UK A).lookup ("sorts":Str)=some (V.ref A.so):=rfl
def FU(A:BA):(UK A).lookup ("told":Str)=some (V.ref A.td):=rfl
def Am(A:BA):(UK A).lookup ("told_of":Str)=none:=rfl
def BD.at(b:BD H C I A J E d O)(h:x∈O):∃v,JG H A.td (.str x.1.1) (some v)/\Has H v (Uu x):=by
 obtain⟨i,M⟩:=vp.mp h;have Z:(J.map (·.1))[i]?=(O.map λx=>(Sum.inr x.1.1:Key))[i]?:=by rw[b.ke]
 rw[ZH,ZH,M]at Z
 cases ek:J[i]? with
 |none=>rw[ek]at Z;cases Z
 |some q=>
  rw[ek]at Z;have B:q.1=Sum.inr x.1.1:=ZT Z
  have T:(J.map (·.1)).Nodup:=by
   rw[b.ke];have G:=b.nd;unfold List.Nodup at G |-;rw[kz]at G |-;exact G.imp λL z=>L<|Sum.inr.inj z
  obtain⟨F,R,D⟩:=b.va.get (show(J.map (·.2))[i]?=some q.2 by rw[ZH,ek];rfl);rw[ZH,M]at R;cases R;refine⟨q.2,?_,D⟩;have N:=Dz T<|ZJ ek;rw[B]at N;rw[<-N];exact JG.k (k:=Sum.inr x.1.1) b.td
def X8(h:Has H v (Uu x)):∃a u w,v=.ref a/\H a=some (.tup [u,.str x.1.2.2,w])/\Has H u (psD x.1.2.1)/\Has H w x.2.dat:=by
 unfold Uu at h;obtain⟨t,D,rfl,N,O⟩:=Yu h;obtain⟨M,I,rfl,B,G⟩:=Yc O;obtain⟨E,A,rfl,T,J⟩:=Yc G;obtain⟨L,F,rfl,R,Z⟩:=Yc J;obtain rfl:=VC Z;obtain rfl:=has_str T;exact⟨t,M,L,Y,N,B,R⟩
end L2
namespace K4
open PySem L2
section
variable{f g C CK:Addr}
def Je(C CK:Addr):Sp:=λG H Q _=>∃(t:Addr)(J:pi)(d:pj)(L:List Dd),G=[.ref t]/\BI H C CK t J d L/\∀Z,KI H CK Z J d->Q (.ref Z) H
def Ih:Yh ["self"] ["self"] (Yd ML):=Y2
def FI(T:BCl K C)(F:Fun K "kinds" "Book.kinds" ML f J):Ye P w K M base CX0 (n+1) f J ["self"] (Je C CK):=by
 refine F.oq Ih λG A Z s H L Q E R h=>?_;obtain⟨t,O,d,B,rfl,⟨D,N,rfl,b⟩,q⟩:=h;exists _,YZ<|Yi<|Yt (pv 0) rfl;exact⟨C,_,_,_,b.ins,T.cl,T.so,Ld _,q _ b.so⟩
def Uw(C CK:Addr):Sp:=λG H Q _=>∃(t:Addr)(L:pi)(d:pj)(J:List Dd),G=[.ref t]/\BI H C CK t L d J/\∀l Z,Same H Z->H l=none->Z l=some (.lst<|J.map λx=>V.str x.1.1)->Q (.ref l) Z
def Ig:Yh ["self"] ["self"] (Yd MK):=Y2
def FH(B:Blt L)(T:BCl K C)(F:Fun K "names" "Book.names" MK f M):Ye P w K L base CX0 (n+1) f M ["self"] (Uw C CK):=by
 refine F.oq Ig λN A Z s H O Q E D h=>?_;obtain⟨t,R,d,I,rfl,⟨S,J,rfl,b⟩,q⟩:=h;exists _,YZ<|Yi<|VT (U6 rfl) rfl B.list Jo (pa1<|Yt (pv 0) rfl);refine⟨C,_,_,_,b.ins,T.cl,T.td,FU _,_,_,Y,b.td,λl G=>?_⟩;refine q l _ (Ys G _) G ?_;rw[Yf];have e:(J.map λq=>kV q.1)=(J.map (·.1)).map kV:=by rw[vi];rfl
 rw[e,b.ke,vi]
 rfl
def Gi(C CK:Addr):Sp:=λJ H Q _=>∃(t:Addr)(G:pi)(d:pj)(Z:List Dd)(x:Dd),J=[.ref t,.str x.1.1]/\BI H C CK t G d Z/\x∈Z/\∀v,Has H v (Uu x)->Q v H
def Oq:Yh ["self","F"] ["self","F"] (Yd Bb):=Y2
def PN(B:Blt L)(T:BCl K C)(F:Fun K "told_of" "Book.told_of" Bb f R):Ye P w K L base CX0 (n+1) f R ["self","F"] (Gi C CK):=by
 refine F.oq Oq λD A Z s H I Q E N h=>?_;obtain⟨t,U,d,X,x,rfl,⟨j,S,rfl,b⟩,M,q⟩:=h;have J:=JQ N;obtain⟨v,G,O⟩:=b.at M;refine⟨_,YY (Y3 (PW.pt<|UD (JZ<|Vz<|We rfl B.isi rfl B.str Wv (pv 1))<|Jn<|Ub<|FB J (pv 1)<|Yt (pv 0) rfl) (YZ JT) Yo)
  (YZ<|Yi<|JX J (Yt (pv 0) rfl) (pv 1) λ_ _=>rfl),?_⟩
 show let a:=_;let b:=_;Yl (VF _ b _) a _ _ _
 intros
 refine⟨_,_,_,_,Y,.str _,TR K "str",_,Y,Y0 (by simp) ?_⟩;refine⟨C,_,_,_,b.ins,T.cl,T.td,FU _,_,G,_,Y,Y0 (by simp) ?_⟩;exact⟨C,_,_,_,b.ins,T.cl,T.td,FU _,v,G,q v O⟩
end
end K4
namespace L2
open PySem
def Wg(o:Option Str):V:=(o.map V.str).getD .non
def zN{α:Type}{Z:List α}(h:Z.length=1):∃a,Z=[a]:=match Z,h with|[a],_=>⟨a,rfl⟩
def zM{α:Type}{Z:List α}(h:Z.length=2):∃a b,Z=[a,b]:=match Z,h with|[a,b],_=>⟨a,b,rfl⟩
def Bd.word:Bd->Str
 |.tag _=>"tag"
 |.name _=>"name"
 |.pair _ _=>"pair"
 |.one _=>"one"
 |.other _=>"other"
 |.choose _ _ _=>"choose"
 |.ask _ _=>"ask"
 |.letb _ _ _ _=>"let"
def LW{b:Bd}(h:Has H v b.dat):∃a Z,v=.ref a/\H a=some (.tup (.str b.word::Z)):=by
 obtain⟨J,e⟩:∃J,b.dat=.tup (.str b.word::J):=by cases b <;> exact⟨_,by unfold Bd.dat;rfl⟩
 rw[e]at h;obtain⟨t,Z,rfl,L,M⟩:=Yu h;obtain⟨O,G,rfl,N,_⟩:=Yc M;obtain rfl:=has_str N;exact⟨t,G,Y,L⟩
def Ea(h:Has H v (Bd.letb x k e b).dat):∃a T R,v=.ref a/\H a=some (.tup [.str "let",.str x,.str k,T,R]):=by
 unfold Bd.dat at h;obtain⟨t,I,rfl,B,D⟩:=Yu h;obtain⟨C,y,rfl,A,M⟩:=Yc D;obtain⟨U,j,rfl,F,L⟩:=Yc M;obtain⟨S,Q,rfl,E,G⟩:=Yc L;obtain⟨O,P,rfl,q,J⟩:=Yc G;obtain⟨N,X,rfl,z,Z⟩:=Yc J;obtain rfl:=VC Z;obtain rfl:=has_str A;obtain rfl:=has_str F;obtain rfl:=has_str E;exact⟨t,O,N,Y,B⟩
end L2
namespace K4
open PySem L2
section
variable{f g C CK:Addr}
def Gk(C CK:Addr):Sp:=λJ H Q _=>∃(t:Addr)(G:pi)(d:pj)(Z:List Dd)(x:Dd),J=[.ref t,.str x.1.1]/\BI H C CK t G d Z/\x∈Z/\∀v,Has H v (psD x.1.2.1)->Q v H
def Rq(C CK:Addr):Sp:=λJ H Q _=>∃(t:Addr)(G:pi)(d:pj)(Z:List Dd)(x:Dd),J=[.ref t,.str x.1.1]/\BI H C CK t G d Z/\x∈Z/\Q (.str x.1.2.2) H
def Sf:Yh ["self","F"] ["self","F"] (Yd Be):=Y2
def Og:Yh ["self","F"] ["self","F"] (Yd Bf):=Y2
def PR(T:BCl K C)(F:Fun K "parameters" "Book.parameters" Be f I)(m:VJ K C "told_of" g)(G:Ye P w K J base CX0 n g D ["self","F"] (Gi C CK))(X:Binds K D ["self","F"] []):Ye P w K J base CX0 (n+1) f I ["self","F"] (Gk C CK):=by
 refine F.oq Sf λU A Z s H k Q E R h=>?_;obtain⟨t,L,d,S,x,rfl,b,M,q⟩:=h;obtain⟨y,p,rfl,j⟩:=id b;exists _,YZ<|Yi<|Yk Yq (Y6 (pv 0) T.cl m G R X .nil Y4<|pa1<|pv 1) Ya;refine⟨_,_,j.ins,Am _,y.t,L,d,S,x,Y,b,M,λv N=>?_⟩;obtain⟨a,u,z,rfl,B,O,_⟩:=X8 N;exact⟨_,_,Z2 B,Y,q u O⟩
def Kq(T:BCl K C)(F:Fun K "kind_of" "Book.kind_of" Bf f D)(m:VJ K C "told_of" g)(G:Ye P w K J base CX0 n g B ["self","F"] (Gi C CK))(U:Binds K B ["self","F"] []):Ye P w K J base CX0 (n+1) f D ["self","F"] (Rq C CK):=by
 refine F.oq Og λS A Z s H z Q E O h=>?_;obtain⟨t,L,d,I,x,rfl,b,M,q⟩:=h;obtain⟨j,k,rfl,X⟩:=id b;exists _,YZ<|Yi<|Yk Yq (Y6 (pv 0) T.cl m G O U .nil Y4<|pa1<|pv 1) Ya;refine⟨_,_,X.ins,Am _,j.t,L,d,I,x,Y,b,M,λv N=>?_⟩;obtain⟨a,u,y,rfl,R,p,_⟩:=X8 N;exact⟨_,_,Z2 R,Y,q⟩
def Xr(C CK:Addr)(p:Bd->Prop):Sp:=λO H Q _=>∃(t a M:Addr)(v:V)(Z:pi)(c d:pj)(L:List Dd)(G:kY)(b:Bd)(J:kQ),
 O=[.ref t,.ref a,v,.ref M]/\BI H C CK t Z d L/\KK 30 c d Z/\NK (Z.map (·.1)) G/\(∀x∈L,x.1.2.1.length<=3)/\Rd H a (.dK G)/\Has H v b.dat/\b.ok/\p b/\H M=some (.lst<|J.map V.str)/\J.length=b.parts.length/\(∀z∈J,z∈Z.map (·.1))/\∀N,Same H N->Q (Wg<|own Z (V4<|L.map (·.1)) G b J) N
abbrev rps:kQ:=["book","around","body","found"]
def Sh:Yh ["book","around","body","found"] ["book","around","body","found"] (Yd Il):=Y2
def Oj:Yh ["book","around","body","found"] ["book","around","body","found"] (Yd BZ):=Y2
def Oi:Yh ["book","around","body","found"] ["book","around","body","found"] (Yd BY):=Y2
def Sj:Yh ["book","around","body","found"] ["book","around","body","found"] (Yd Io):=Y2
def PU(u:BCl K C)(TK:KCl K CK)(F:Fun K "kind_of_tag_body" "kind_of_tag_body" Il f U)(B:VJ K C "kinds" g1)(l:Ye P w K J base CX0 n g1 y ["self"] (Je C CK))(k:Binds K y ["self"] [])(T:VJ K CK "kind_of_tag" S)(r:Ye P w K J base CX0 n S j ["self","tag"] (Gn CK))(m:Binds K j ["self","tag"] []):Ye P w K J base CX0 (n+1) f U rps (Xr C CK λb=>∃t,b=.tag t):=by
 refine F.oq Sh λz A Z s H x Q E N h=>?_;obtain⟨t,a,fl,v,G,c,d,X,kv,b,i,rfl,O,kk,nk,pl,ha,M,ok,⟨R,rfl⟩,hf,lz,hz,q⟩:=h;obtain⟨o,kt,rfl,p⟩:=id O;exists _,YZ<|Yi<|Y6 (Vp (pv 0) u.cl B l N k .nil Y4) TK.cl T r N m .nil Y4<|pa1<|Yk Yq (pv 2) Ya;unfold Bd.dat at M;obtain⟨bt,rfl,I⟩:=X7 M;refine⟨_,_,p.ins,Y,o.t,G,d,X,Y,O,λso L=>?_⟩;obtain⟨e,SK,rfl,D,kr⟩:=id L;exact⟨_,_,D.ins,Y,_,_,Z2 I,Y,e.t,G,d,R,Y,L,q H<|Z8 _⟩
def Kp(F:Fun K "kind_of_name_body" "kind_of_name_body" BZ f B):Ye P w K j base CX0 (n+1) f B rps (Xr C CK λb=>∃x,b=.name x):=by
 refine F.oq Oj λD A G s H S Q E R h=>?_;obtain⟨t,a,r,v,z,c,d,l,J,b,I,rfl,i,m,N,U,M,L,X,⟨x,rfl⟩,u,y,p,q⟩:=h;have O:=JQ R;exists _,YZ<|Yi<|TF O (pv 1) (Yk Yq (pv 2) Ya) ⟨rfl,rfl,rfl,rfl⟩;unfold Bd.dat at L;obtain⟨o,rfl,T⟩:=X7 L;exists .inl ⟨J,M⟩,_,_,Z2 T,Y,_,.inl ⟨J,Sum.inr x,M,Y,Y⟩;have Z:Q (Wg<|(VH J<|Sum.inr x).bind OU) H:=q H<|Z8 _
 cases e:VH J (Sum.inr x)with
 |none=>rw[e]at Z;exact Z
 |some v=>
  obtain⟨k,rfl,_⟩:=N.at e;rw[e]at Z;exact Z
def Ko(r:BCl K C)(TK:KCl K CK)(F:Fun K "kind_of_pair_body" "kind_of_pair_body" BY f X)(D:VJ K C "kinds" g1)(o:Ye P w K J base CX0 n g1 z ["self"] (Je C CK))(p:Binds K z ["self"] [])(B:VJ K CK "kind_of_pair" U)(l:Ye P w K J base CX0 n U y ["self","one","other"] (WU CK))(k:Binds K y ["self","one","other"] []):Ye P w K J base CX0 (n+1) f X rps (Xr C CK λb=>∃e g,b=.pair e g):=by
 refine F.oq Oi λm A Z s H vs Q E M h=>?_;obtain⟨t,a,fl,v,G,c,d,j,kv,b,zs,rfl,O,kk,nk,pl,ha,hv,ok,⟨e,g,rfl⟩,N,I,hz,q⟩:=h;obtain⟨T,R,rfl⟩:=zM I;obtain⟨x,kt,rfl,u⟩:=id O;exists _,YZ<|Yi<|Y6 (Vp (pv 0) r.cl D o M p .nil Y4) TK.cl B l M k .nil Y4<|pa2 (Yk Y8 (pv 3) Ya)<|Yk Y8 (pv 3) Ya;refine⟨_,_,u.ins,Y,x.t,G,d,j,Y,O,λso L=>?_⟩;obtain⟨i,SK,rfl,S,kr⟩:=id L;exact⟨_,_,S.ins,Y,_,_,Z3 N,Y,_,_,Z3 N,Y,i.t,G,d,T,R,Y,L,q⟩
def PX(F:Fun K "kind_of_let_body" "kind_of_let_body" Io f T):Ye P w K z base CX0 (n+1) f T rps (Xr C CK λb=>∃x k e g,b=.letb x k e g):=by
 refine F.oq Sj λB A J s H I Q E l h=>?_;obtain⟨t,a,i,v,p,c,d,ds,m,b,D,rfl,bi,u,y,X,o,O,j,⟨x,k,e,g,rfl⟩,L,N,r,q⟩:=h;obtain⟨G,M,rfl⟩:=zM N;refine⟨_,YY (Y3 (Yp UF (Yk Y8 (pv 3) Ya) (Yk Yq (pv 2) Ya)<|Yx _) (YZ<|Yi Vx) Yo)
  (YZ<|Yi<|Yk Y8 (pv 3) Ya),?_⟩
 obtain⟨bt,U,S,rfl,R⟩:=Ea O;have Z:Q (Wg<|if G=k then some M else none) H:=q H<|Z8 _;exists _,_,Z3 L,Y,_,_,Z2 R,Y,Y,_,Y
 by_cases c1:G=k
 .rw [Zp c1]at Z
  exact Y0 (by simp[c1]) ⟨_,_,Z3 L,Y,Z⟩
 .rw [Zq c1]at Z
  exact VG (by simpa using c1) Z
def GJ(C CK:Addr):Sp:=λJ H Q _=>∃(t:Addr)(Z:pi)(d:pj)(L:List Dd)(z:Str)(s:Shp)(i:Nat),J=[.ref t,.str z,.int i]/\BI H C CK t Z d L/\Vh Z z=some s/\(∀G,s=.tags G->Q .non H)/\∀a b,s=.pair a b->(i=1/\Q (.str a) H\/i=2/\Q (.str b) H)
def EB:Yh ["book","kind","at","shape"] ["book","kind","at"] (Yd BX):=Y2
def Km(TB:BCl K C)(TK:KCl K CK)(F:Fun K "kind_of_part" "kind_of_part" BX f k)(X:VJ K C "kinds" g1)(G1:Ye P w K G base CX0 n g1 u ["self"] (Je C CK))(o:Binds K u ["self"] [])(U:VJ K CK "shape_of" m)(G2:Ye P w K G base CX0 n m c ["self","kind"] (XC CK))(e:Binds K c ["self","kind"] []):Ye P w K G base CX0 (n+1) f k ["book","kind","at"] (GJ C CK):=by
 refine F.oq EB λr A J s H vs Q E O h=>?_;obtain⟨t,L,d,p,z,B,i,rfl,R,y,D,I⟩:=h;obtain⟨A',kt,rfl,x⟩:=id R;refine⟨_,YY (Yz 3 EB.nd<|Y6 (Vp (pv 0) TB.cl X G1 O o .nil Y4) TK.cl U G2 O e .nil Y4<|pa1<|pv 1)
  (YY (Y3 (Yp UF (Yk Yq (pv 3) Ya) Yr<|Yx _) (YZ<|Yi Vx) Yo)
  (YZ<|Yi<|Yk Yq (pv 3) (pv 2) λ_ _=>rfl)),?_⟩
 refine⟨_,_,x.ins,Y,A'.t,L,d,p,Y,R,λso M=>?_⟩;obtain⟨AK,SK,rfl,j,kr⟩:=id M;refine⟨_,_,j.ins,Y,AK.t,L,d,z,_,Y,M,y,λv N=>?_⟩
 cases B with
 |tags T=>
  obtain⟨S,l,rfl,Z,hl⟩:=X9 N;exact⟨_,_,Z2 Z,Y,Y,_,Y,VG (by decide +kernel)<|D T rfl⟩
 |pair a b=>
  obtain⟨S,rfl,Z⟩:=Xk N;refine⟨_,_,Z2 Z,Y,Y,_,Y,Y0 (by decide +kernel) ?_⟩;rcases I a b rfl with⟨rfl,q⟩|⟨rfl,q⟩
  .exact ⟨_,_,Z2 Z,rfl,q⟩
  .exact ⟨_,_,Z2 Z,rfl,q⟩
def Si:Yh ["book","around","body","found"] ["book","around","body","found"] (Yd Im):=Y2
def Ic:Yh ["book","around","body","found"] ["book","around","body","found"] (Yd MH):=Y2
def PV(F:Fun K "kind_of_one_body" "kind_of_one_body" Im f D)(X:Df P w K N base n "kind_of_part" ["book","kind","at"] (GJ C CK)):Ye P w K N base CX0 (n+1) f D rps (Xr C CK λb=>∃e,b=.one e):=by
 refine F.oq Si λS A J s H y Q E T h=>?_;obtain⟨t,a,x,v,G,c,d,I,r,b,j,rfl,U,l,u,k,i,o,p,⟨e,rfl⟩,B,O,R,q⟩:=h;obtain⟨z,rfl⟩:=zN O;exists _,YZ<|Yi<|VW X T<|pa3 (pv 0) (Yk Y8 (pv 3) Ya) Ya;obtain⟨M,L⟩:=Jq (R z<|by simp);have Z:Q (Wg<|match Vh G z with|some (.pair a _)=>some a|_=>none) H:=q H<|Z8 _;rw[L]at Z;exact⟨_,_,Z3 B,Y,t,G,d,I,z,M,1,Y,U,L,λm e=>by rw[e]at Z;exact Z,λa b e=>.inl ⟨Y,by rw[e]at Z;exact Z⟩⟩
def FE(F:Fun K "kind_of_other_body" "kind_of_other_body" MH f D)(X:Df P w K N base n "kind_of_part" ["book","kind","at"] (GJ C CK)):Ye P w K N base CX0 (n+1) f D rps (Xr C CK λb=>∃e,b=.other e):=by
 refine F.oq Ic λS A J s H y Q E T h=>?_;obtain⟨t,a,x,v,G,c,d,I,r,b,j,rfl,U,l,u,k,i,o,p,⟨e,rfl⟩,B,O,R,q⟩:=h;obtain⟨z,rfl⟩:=zN O;exists _,YZ<|Yi<|VW X T<|pa3 (pv 0) (Yk Y8 (pv 3) Ya) Ya;obtain⟨M,L⟩:=Jq (R z<|by simp);have Z:Q (Wg<|match Vh G z with|some (.pair _ b)=>some b|_=>none) H:=q H<|Z8 _;rw[L]at Z;exact⟨_,_,Z3 B,Y,t,G,d,I,z,M,2,Y,U,L,λm e=>by rw[e]at Z;exact Z,λa b e=>.inr ⟨Y,by rw[e]at Z;exact Z⟩⟩
end
end K4
namespace L2
open PySem
def Pw(h:Has H v (Bd.ask fn B).dat):∃a u,v=.ref a/\H a=some (.tup [.str "ask",.str fn,u])/\Has H u (.tup<|Bd.dats B):=by
 unfold Bd.dat at h;obtain⟨t,D,rfl,M,N⟩:=Yu h;obtain⟨F,S,rfl,T,G⟩:=Yc N;obtain⟨E,I,rfl,R,J⟩:=Yc G;obtain⟨L,A,rfl,O,Z⟩:=Yc J;obtain rfl:=VC Z;obtain rfl:=has_str T;obtain rfl:=has_str R;exact⟨t,L,Y,M,O⟩
def EZ(h:V4 J fn=some (Z,y)):(fn,Z,y)∈J:=by
 unfold V4 at h
 cases e:J.find? (λh=>decide<|h.1=fn)with
 |none=>rw[e]at h;cases h
 |some g=>
  rw[e]at h;have m:=vt e;have q:g.1=fn:=by simpa using List.find?_some e
  have G:g.2=(Z,y):=ZT h;obtain⟨g1,L⟩:=g;dsimp only at q G;subst q G;exact m
theorem G8:∀Z J:kQ,Dat.pqs (Z.map Dat.str) (J.map Dat.str)=decide (Z=J)
 |[],[]=>by unfold List.map Dat.pqs;rfl
 |[],w::J=>by unfold List.map Dat.pqs;rfl
 |z::Z,[]=>by unfold List.map Dat.pqs;rfl
 |z::Z,w::J=>by
  rw[ZV,ZV];unfold Dat.pqs;rw[G8 Z J,jz];simp[Dat.pq]
def LN{ds:List Dd}(Z:(ds.map λx=>x.1.1).Nodup)(h:x∈ds):V4 (ds.map (·.1)) x.1.1=some x.1.2:=
 LO (h:=x.1) (by rw[vi];exact Z) (ZW.mpr ⟨x,h,rfl⟩)
def Ah{Z:List Dd}(h:fn∉Z.map λx=>x.1.1):V4 (Z.map (·.1)) fn=none:=by
 cases e:V4 (Z.map (·.1)) fn with
 |none=>rfl
 |some p=>
  obtain⟨x,J,G⟩:=ZW.mp<|EZ e;exact Zr (ZW.mpr ⟨x,J,by rw[G]⟩) h
end L2
namespace K4
open PySem L2
section
def Sk:Yh ["book","around","body","found"] ["book","around","body","found"] (Yd Ip):=Y2
def K7:List.Nodup [("name":Str),"kind"]:=by decide +kernel
def PY(TB:BCl K C)(F:Fun K "kind_of_ask_body" "kind_of_ask_body" Ip f fd)(m1:VJ K C "names" g1)(G1:Ye P w K i base CX0 (n+2) g1 d1 ["self"] (Uw C CK))(b1:Binds K d1 ["self"] [])(m2:VJ K C "parameters" g2)(G2:Ye P w K i base CX0 (n+2) g2 d2 ["self","F"] (Gk C CK))(b2:Binds K d2 ["self","F"] [])(m3:VJ K C "kind_of" g3)(G3:Ye P w K i base CX0 (n+2) g3 d3 ["self","F"] (Rq C CK))(b3:Binds K d3 ["self","F"] []):
  Ye P w K i base CX0 (n+2+1) f fd rps (Xr C CK λb=>∃g as,b=.ask g as):=by
 refine F.oq Sk λR3 A o s H O Q E m h=>?_;obtain⟨t,a,fl,v,ks,c,d,I,kv,b,e,rfl,p,kk,nk,pl,ha,hv,ok,⟨g,as,rfl⟩,hf,lz,hz,q⟩:=h;have M2:=m.mono (show 2<=n+2 by lia);refine⟨_,YY (Y3 (Yp Jg (Yk Yq (pv 2) Ya) (Vp (pv 0) TB.cl m1 G1 m b1 .nil Y4) Y) (YZ<|Yi Vx) Yo)
  (YY (Y3 (Yp (TH M2) (JF ["name","kind"] [] (J9<|Y6 (pv 0) TB.cl m2 G2 m b2 .nil Y4<|pa1<|Yk Yq (pv 2) Ya) TZ (λcl C fp s H=>Ve (n:=2) rfl (Yn (Ym 0 K7 rfl (Or.inl rfl) (Or.inr rfl))<|Yn (Ym 1 K7 rfl (Or.inl rfl) (Or.inr rfl)) VM))
    (λcl C fp s H=>pv 1)) (pv 3)<|Yx _) (YZ<|Yi Vx) Yo)
  (YZ<|Yi<|Y6 (pv 0) TB.cl m3 G3 m b3 .nil Y4<|pa1<|Yk Yq (pv 2) Ya)),?_⟩
 show let a:=_;let b:=_;let c:=Yl (VF _ b _) a;let d:=_;Yl (VF _ d _) c _ _ _
 intros
 obtain⟨bt,ub,rfl,hb,_⟩:=Pw hv;obtain⟨A',kt,rfl,r⟩:=id p;have T:∀N,Same H N->Q (Wg<|match V4 (I.map (·.1)) g with|some (L,k)=>if L.map (·.2)=e then some k else none|none=>none) N:=q;refine⟨_,_,Z2 hb,Y,_,_,r.ins,Y,A'.t,ks,d,I,Y,p,λl H1 S hl g1=>?_⟩;have el:(I.map λx=>V.str x.1.1)=(I.map λx=>x.1.1).map V.str:=by rw[vi];rfl
 rw[el]at g1;exists l,_,Y,.inl<|Z3 g1,rfl,J5 _,_,rfl;rw[UU]
 by_cases mf:g∈I.map λx=>x.1.1
 case neg=>
  rw[Ah mf]at T;exact VG (by simp only[if_true,jT,decide_eq_false_iff_not];exact mf)<|T _ S
 refine Y0 (by simp only[if_true,jT,decide_eq_false_iff_not,Classical.not_not];exact mf) ?_;obtain⟨x,X,D⟩:=ZW.mp mf;have Z:=LN r.nd X;rw[D]at Z;rw[Z]at T;obtain⟨⟨_,L,y⟩,bx⟩:=x;dsimp only at D T;subst D;have R1:L.length<=3:=pl _ X;have R0:=p.mono S;refine⟨_,_,S _ _ r.ins,Y,_,_,Z2<|S _ _ hb,rfl,A'.t,ks,d,I,_,rfl,R0,X,λv B=>?_⟩;unfold psD at B;dsimp only at B;obtain⟨pa,G,rfl,M,U⟩:=Yu B;have lp:=U.length;rw[ZA]at lp;exists ⟨_,Z2 M⟩;refine Vd G.length (Y1<|by lia) (λj O N=>Same H1 N/\O.length=j/\O=((L.map (·.2)).take j).map V.str) ⟨Z8 _,rfl,rfl⟩ (λj O N z=>z.2.1) ?_ ?_ ?_ ?_
 .intro j O N hj z
  exact⟨G,G[j],Z2<|z.1 _ _ M,by simp[hj]⟩
 .intro O N z
  exact⟨G,Z2<|z.1 _ _ M,ZG _⟩
 .intro j O N u H'' R hj z yl hR
  obtain⟨rfl,yy⟩:=yl;obtain⟨dd,Z,O1⟩:=U.get<|yy G<|Z2<|z.1 _ _ M;rw[ZH]at Z
  cases hp:L[j]? with
  |none=>rw[hp]at Z;cases Z
  |some pr=>
   rw[hp]at Z;cases Z;obtain⟨t2,rfl,J2⟩:=X7 O1;exists _,Z2<|z.1 _ _ J2,rfl;refine hR _ _ ⟨z.1,by rw[ZL,z.2.1];rfl,?_⟩;rw[z.2.2,show(L.map (·.2)).take (j+1)=(L.map (·.2)).take j++[pr.2]from take_snoc (by rw[ZH,hp];rfl),ZK]
   rfl
 .intro O N l2 z hl2
  obtain⟨z1,_,rfl⟩:=z;rw[Zg (by rw[ZA];lia)];refine up_in hl2 _ λH2 s2 g2=>?_;have J:=(S.trans z1).trans s2;exists .lst<|(L.map (·.2)).map Dat.str,.lst<|e.map Dat.str,zJ g2,zJ<|J _ _ hf,M9 _,_,rfl;unfold Dat.pq;rw[G8]
  by_cases cz:L.map (·.2)=e
  .rw [Zp cz]at T
   refine Y0 (by simp[cz]) ?_;exact⟨_,_,J _ _ r.ins,Y,_,_,Z2<|J _ _ hb,rfl,A'.t,ks,d,I,_,rfl,p.mono J,X,T H2 J⟩
  .rw [Zq cz]at T
   exact VG (by simp[cz])<|T H2 J
end
end K4
namespace L2
open PySem PySem.Spec PyProof.Rows
def RP(S:X.calm=true):UL X (.builtin "any") (λL H Q=>∃(p:Addr)(Z:List Bool),L=[.ref p]/\SqL X.K H p (Z.map V.bl)/\Q (.bl<|Z.any id) H):=by
 intro N s U H L P Q I r h;obtain⟨p,Z,rfl,D,q⟩:=h;obtain⟨u,rfl,R⟩:=vals1 r;cases R;obtain⟨J,M,G,j⟩:=I.list D;have E:p<s.heap.objs.size:=let⟨o,_,e,_⟩:=G;ZP e
 have B:=M.length;rw[ZA]at B
 have T:((List.range J.toArray.size).any λi=>(Z[i]?).getD false)=Z.any id:=by
  rw[jz,qr,qr]
  constructor
  .rintro ⟨i,_,h⟩
   cases e:Z[i]? with
   |none=>rw[e]at h;cases h
   |some b=>rw[e]at h;exact⟨b,ZJ e,h⟩
  .rintro ⟨b,hb,h⟩
   obtain⟨i,O⟩:=vp.mp hb;exact⟨i,by have:=(ZF.mp O).1;simp;lia,by rw[O];exact h⟩
 refine call_any_walk<|qw G.isList ⟨s.heap.objs.size,_,_,J.toArray.size,_,_,λi=>(Z[i]?).getD false,rfl,Walks.list (A:=X.A.in1) (I.ok.hd S) _ p (Ze E) J.toArray,⟨⟨_,ZY _ rfl,rfl,rfl⟩,G.isList.push _⟩,?_,?_⟩
 .intro i v s' Q' E' hP hQ
  obtain⟨b,e,rfl⟩:=Ww M i v (by simpa using hP);dsimp only at hQ;rw[e]at hQ;exact vy hQ
 .intro h' tk hk
  rw[T];refine⟨.bl<|Z.any id,H,I.kept λb o e=>hk b o (λF=>?_)<|ZE _ e,rfl,q⟩;have C:b=s.heap.objs.size:=by simpa using F
  rw[C]at e;exact vw _<|ZP e
end L2
namespace L2
open PySem
def DQ(h:Has H v (Bd.choose e N F).dat):∃a u l Z,v=.ref a/\H a=some (.tup [.str "choose",u,.ref l])/\H l=some (.tup Z)/\HasL H Z (Bd.brs F N):=by
 unfold Bd.dat at h;obtain⟨t,A,rfl,O,R⟩:=Yu h;obtain⟨S,X,rfl,E,L⟩:=Yc R;obtain⟨M,C,rfl,P,G⟩:=Yc L;obtain⟨I,U,rfl,D,J⟩:=Yc G;obtain rfl:=VC J;obtain rfl:=has_str E;obtain⟨l,Z,rfl,B,T⟩:=Yu D;exact⟨t,M,l,Z,Y,O,B,T⟩
theorem brs_len:∀{bs:List Bd}{ts:kQ},bs.length=ts.length->(Bd.brs bs ts).length=ts.length
 |[],[],_=>by simp[Bd.brs]
 |[],_::_,h=>by simp at h
 |_::_,[],h=>by simp at h
 |b::bs,t::ts,h=>by
  unfold Bd.brs;have:=brs_len (bs:=bs) (ts:=ts) (by simpa using h);simp[this]
theorem brs_get:∀{bs:List Bd}{ts:kQ}{i:Nat}{d:Dat},(Bd.brs bs ts)[i]?=some d->∃t b,ts[i]?=some t/\d=.tup [.str t,Bd.dat b]
 |[],ts,i,d,h=>by unfold Bd.brs at h;simp at h
 |b::bs,[],i,d,h=>by unfold Bd.brs at h;simp at h
 |b::bs,t::ts,0,d,h=>by
  unfold Bd.brs at h;exact⟨t,b,Y,(ZT h).symm⟩
 |b::bs,t::ts,i+1,d,h=>by
  unfold Bd.brs at h;exact brs_get (bs:=bs) (ts:=ts) h
def vP{z y:Str}{r:kQ}:Ug ((z::y::r).map V.str) (some 2) none=r.map V.str:=by
 have e:HT.sIx ((z::y::r).map V.str).length 0 (some 2)=2:=by
  unfold HT.sIx;simp
  try omega
 unfold Ug;rw[e];simp[HT.sIx];exact Zg (by rw[ZA];exact ZG _)
def PJ(h:Vh J z=some (.tags Z))(g:∀u∈r,u=y):own J hd G (.choose e Z L) (z::y::r)=some y:=Zp ⟨h,g⟩
def MR(h:¬(Vh J z=some (.tags Z)/\∀u∈r,u=y)):own J hd G (.choose e Z L) (z::y::r)=none:=Zq h
def L8(y:Str)(r:kQ):((r.map λu=>!decide (V.str u=V.str y)).any id=false)↔∀u∈r,u=y:=by
 rw[qZ]
 constructor
 .intro h u Z
  have:=h _<|ZW.mpr ⟨u,Z,rfl⟩;simpa using this
 .intro h b hb
  obtain⟨u,Z,rfl⟩:=ZW.mp hb;simp[h u Z]
end L2
namespace K4
open PySem L2
section
def RS:bootBuiltins "any"=some (.builtin "any"):=by decide +kernel
def WY:Yh ["book","around","body","found","shape","kind"] ["book","around","body","found"] (Yd Gz):=Y2
def K6:List.Nodup [("tag":Str),"branch"]:=by decide +kernel
def C9:List.Nodup [("other":Str),"kind"]:=by decide +kernel
def B0(B:Blt X)(ma:X "any"=none)(TB:BCl K C)(TK:KCl K p)(F:Fun K "kind_of_choose_body" "kind_of_choose_body" Gz f fd)(m1:VJ K C "kinds" g1)(G1:Ye P w K X base CX0 (n+2) g1 d1 ["self"] (Je C p))(b1:Binds K d1 ["self"] [])(m2:VJ K p "shape_of" g2)(G2:Ye P w K X base CX0 (n+2) g2 d2 ["self","kind"] (XC p))(b2:Binds K d2 ["self","kind"] []):Ye P w K X base CX0 (n+2+1) f fd rps (Xr C p λb=>∃e L k,b=.choose e L k/\1<=k.length):=by
 refine F.oq WY λR5 A J2 s H Z Q E hr h=>?_;obtain⟨t,a,fl,v,ks,c,d,ds,kv,b,zs,rfl,bi,kk,nk,pl,ha,hv,ok,⟨e,L,k,rfl,b0⟩,hf,lz,hz,q⟩:=h;have O1:=hr.mono (show 2<=n+2 by lia);refine⟨_,YY (Yz 4 WY.nd<|Y6 (Vp (pv 0) TB.cl m1 G1 hr b1 .nil Y4) TK.cl m2 G2 hr b2 .nil Y4<|pa1<|Yk Y8 (pv 3) Ya)
  (YY (Y3 (PW.pt<|UD (Yp UF (Yk Yq (pv 4) Ya) Yr<|Yx _)<|Jn<|Yp (TH O1) (VT Vy rfl B.tuple Vm (pa1<|JF ["tag","branch"] [] (J9<|Yk Yq (pv 2) Ya) TZ (λcl C fp s H=>Ve (n:=2) rfl (Yn (Ym 0 K6 rfl (Or.inl rfl) (Or.inr rfl))<|Yn (Ym 1 K6 rfl (Or.inl rfl) (Or.inr rfl)) VM)) λcl C fp s H=>pv 0)) (Yk Yq (pv 4) Ya)<|Yx _) (YZ<|Yi Vx) Yo)
  (YY (Yz 5 WY.nd (hx:=Or.inr rfl)<|Yk Y8 (pv 3) Ya)
  (YY (Y3 (Vz<|Y9 (RP rfl) rfl ma RS (pa1<|JF ["other"] [5] (Jz<|V0 XE (pv 3) (JE Ya) JV) (Vc (i:=0)<|by decide) (λcl C fp s H=>Ym 0 C9 rfl (Or.inl rfl) (Or.inr rfl)) λcl C fp s H=>V6 UF (pv 0) (pv 1) rfl)) (YZ<|Yi Vx) Yo)
  (YZ<|Yi<|pv 5)))),?_⟩
 dsimp only[Vf,Cx.nox,Cx.wish];show let a:=_;let b:=_;let c:=Yl (VF _ b _) a;let d:=Yl _ c;let e:=_;let f:=Yl (VF _ e _) d;Yl _ f _ _ _
 intros
 obtain⟨bt,ub,bl,T,rfl,hb,N,I⟩:=DQ hv;obtain⟨A',kt,rfl,b'⟩:=id bi;unfold Bd.ok at ok;obtain⟨_,lb,l7,_⟩:=ok;have lx:=I.length;rw[brs_len lb]at lx;obtain⟨z,O,rfl⟩:∃z O,zs=z::O:=match zs,lz with|z::O,_=>⟨z,O,rfl⟩
 have lr:O.length=k.length:=Nat.succ.inj lz;obtain⟨y,r,rfl⟩:∃y r,O=y::r:=match O,lr with|[],e=>by rw[<-e]at b0;exact Zr b0 (by decide)|y::r,_=>⟨y,r,rfl⟩
 rw[Zf]at lr;obtain⟨sz,M⟩:=Jq (hz z<|by simp);refine⟨_,_,b'.ins,Y,A'.t,ks,d,ds,Y,bi,λso ki=>?_⟩;obtain⟨AK,SK,rfl,kd,kr⟩:=id ki;refine⟨_,_,kd.ins,Y,_,_,Z3 hf,VE (j:=0) Y,AK.t,ks,d,z,sz,Y,ki,M,λv S=>?_⟩
 cases sz with
 |pair pa pb=>
  obtain⟨ps,rfl,m⟩:=Xk S;rw[MR (λz=>by rw[M]at z;cases z.1)]at q;exact⟨_,_,Z2 m,Y,Y,_,Y,VG (by decide +kernel)<|q H<|Z8 _⟩
 |tags us=>
 obtain⟨ps,l,rfl,m,hl⟩:=X9 S;refine⟨_,_,Z2 m,Y,Y,_,Y,Y0 (by decide +kernel) ?_⟩;exists _,_,Z2 hb,Y,⟨_,Z2 N⟩;refine Vd T.length (Y1<|by lia) (λj Z G=>Same H G/\Z.length=j/\Z=(L.take j).map V.str) ⟨Z8 _,rfl,rfl⟩ (λj Z G z=>z.2.1) ?_ ?_ ?_ ?_
 .intro j Z G hj z
  exact⟨T,T[j],Z2<|z.1 _ _ N,by simp[hj]⟩
 .intro Z G z
  exact⟨T,Z2<|z.1 _ _ N,ZG _⟩
 .intro j Z G u H'' R hj z yl hR
  obtain⟨rfl,x⟩:=yl;obtain⟨dd,R3,R1⟩:=I.get<|x T<|Z2<|z.1 _ _ N;obtain⟨tg,bb,ht,rfl⟩:=brs_get R3;obtain⟨t2,R4,rfl,M2,_⟩:=LT R1;exists _,Z2<|z.1 _ _ M2,rfl;refine hR _ _ ⟨z.1,by rw[ZL,z.2.1];rfl,?_⟩;rw[z.2.2,take_snoc ht,ZK]
  rfl
 .intro Z H1 l2 z hl2
  obtain⟨o,_,rfl⟩:=z;rw[Zg (by lia)];refine up_in hl2 (.lst<|L.map V.str) λH2 s2 g2=>?_;refine⟨l2,_,Y,.inl ⟨Z3 g2,λt3 G3=>?_⟩⟩;refine up_in G3 (.tup<|L.map V.str) λH3 s3 g3=>?_;have J:=(o.trans s2).trans s3;exists _,_,Z2<|J _ _ m,rfl,.tup<|L.map Dat.str,.tup<|us.map Dat.str,Yv g3<|XB L,Yv (J _ _ hl)<|XB us,?_,_,rfl
  .have:=M9 L
   unfold Dat.dep at this |-;exact this
  unfold Dat.pq;rw[G8]
  by_cases ct:L=us
  case neg=>
   rw[MR (λz=>ct (by have o:=M.symm.trans z.1;injection o with z2;injection z2 with z3;exact z3.symm))]at q;exact VG (by simp[ct])<|q H3 J
  subst ct;refine Y0 (by simp) ?_;have U:=J _ _ hf;exists _,.str y,Z3 U,VE (j:=1) Y;refine⟨2,Y,fl,_,Y,Z3 U,λl4 R0=>?_⟩;rw[vP];refine up_in R0 (.lst<|r.map V.str) λH4 s4 g=>?_;exists ⟨_,Z3 g⟩;refine Vd r.length (Y1<|by lia) (λj Z G=>Same H4 G/\Z=((r.take j).map λu=>!decide (V.str u=V.str y)).map V.bl/\Z.length=j) ⟨Z8 _,rfl,rfl⟩ (λj Z G z=>z.2.2) ?_ ?_ ?_ ?_
  .intro j Z G hj z
   exact⟨_,.str r[j],Z3<|z.1 _ _ g,by rw[ZH,ZD hj];rfl⟩
  .intro Z G z
   exact⟨_,Z3<|z.1 _ _ g,by rw[ZA];exact ZG _⟩
  .intro j Z G u H'' R hj z yl hR
   obtain⟨rfl,x⟩:=yl;have e5:=x _<|Z3<|z.1 _ _ g;rw[ZH,ZD hj]at e5;cases ZT e5;refine⟨Y,hR _ _ ⟨z.1,?_,by rw[ZL,z.2.2];rfl⟩⟩;rw[z.2.1,take_snoc<|ZD hj,ZK,ZK]
   rfl
  .intro Z H5 l6' z hl6
   obtain⟨z5,rfl,_⟩:=z;rw[kH];refine up_in hl6 (.lst<|(r.map λu=>!decide (V.str u=V.str y)).map V.bl) λH6 s6 g6=>?_;have D:=((J.trans s4).trans z5).trans s6;exists l6',_,Y,Z3 g6,_,Y
   by_cases cu:∀u∈r,u=y
   .rw [PJ M cu]at q
    exact Y0 (by rw[(L8 y r).mpr cu];simp)<|q H6 D
   .rw [MR (λz=>cu z.2)]at q
    refine VG ?_<|q H6 D
    cases ea:(r.map λu=>!decide (V.str u=V.str y)).any id with
    |true=>rfl
    |false=>exact Zr ((L8 y r).mp ea) cu
end
end K4
namespace L2
open PySem
def Te{g:TG}{O:TS}{D:Ends}(Z:pc)(P:Z 0 U H)(S:∀i U H,i<=xs.length->Z i U H->Sq K tp H a xs)(A:∀i x U H r,xs[i]?=some x->Z i U H->H r=none->g (.ref r) U (upd H r<|.tup [.int ((i:Nat):Int),x]) fun σ2 M=>O {D with nx:=Z<|i+1,ct:=Z<|i+1,bk:=D.nx} σ2 M)(hd:∀U H,Z xs.length U H->D.nx U H):
  ∃W:Nat->Nat->St->Hp->Prop,(∃m,W 0 m U H)/\∀i m U H,W i m U H->
   ((Ite K tp a).stop i H/\D.nx U H)\/((Ite K tp a).go i H/\∃N:pe,(∀L J,N L J->∃R,R<m/\W (i+1) R L J)/\∀x J,(Ite K tp a).yld i H x J->g x U J fun σ2 M=>O {D with nx:=N,ct:=N,bk:=D.nx} σ2 M):=by
 refine⟨λi m U H=>m=xs.length-i/\i<=xs.length/\Z i U H,⟨xs.length,by simp,Zc _,P⟩,λi m U H z=>?_⟩;obtain⟨rfl,C,p⟩:=z;have q:=S i U H C p;rcases jr i xs.length with G|X
 .refine .inr ⟨⟨xs,xs[i],q,ZD G⟩,Z<|i+1,λL J B=>⟨xs.length-(i+1),by lia,rfl,G,B⟩,λx J y=>?_⟩
  obtain⟨r,T,rfl,I,rfl,F⟩:=y;exact A i T U H r (F xs q) p I
 .have e:i=xs.length:=by lia
  exact .inl ⟨⟨xs,q,by lia⟩,by subst e;exact hd U H p⟩
def Mp{g:TG}{L:TS}{D:Ends}(Z:pc)(S:Z 0 U H)(I:∀i U H,i<=xs.length->Z i U H->Sq K tp H a xs)(F:∀(B:pe)(R:VK) i x U H r,xs[i]?=some x->Z i U H->H r=none->g (.ref r) U (upd H r<|.tup [.int ((i:Nat):Int),x]) fun σ2 G=>L {nx:=Z<|i+1,rt:=R,bk:=B,ct:=Z (i+1)} σ2 G)(hd:∀U H,Z xs.length U H->D.nx U H):
  ∃W:Nat->Nat->St->Hp->Prop,(∃m,W 0 m U H)/\∀i m U H,W i m U H->
   ((Ite K tp a).stop i H/\D.nx U H)\/((Ite K tp a).go i H/\∃N:pe,(∀O J,N O J->∃M,M<m/\W (i+1) M O J)/\∀x J,(Ite K tp a).yld i H x J->g x U J fun σ2 G=>L {D with nx:=N,ct:=N,bk:=D.nx} σ2 G):=
 Te Z S I (λi x U H r E p A=>F _ _ i x U H r E p A) hd
def Rd.same(r:Rd H a u)(e:Same H Z):Rd Z a u:=r.imp (λh=>e _ _ h) λ⟨o,h⟩=>⟨o,e _ _ h⟩
def OK(Z:kY)(b:Bd):(wth Z b).length<=Z.length+1:=by
 cases b with
 |letb x z e g=>exact NH Z _ _
 |_=>exact qh _
def Wf{o:Option Str}(h:o=none):Wg o=.non:=by rw[h];rfl
end L2
namespace K4
open PySem L2
section
variable{f g C CK:Addr}
def RB(C CK:Addr)(n:Nat):Sp:=λM H Q _=>∃(t a:Addr)(v:V)(Z:pi)(c d:pj)(G:List Dd)(J:kY)(b:Bd),
 M=[.ref t,.ref a,v]/\BI H C CK t Z d G/\KK 30 c d Z/\HK (Z.map (·.1)) (V4<|G.map (·.1))/\NK (Z.map (·.1)) J/\(∀x∈G,x.1.2.1.length<=3)/\Rd H a (.dK J)/\J.length+b.dep<=500/\Has H v b.dat/\b.ok/\b.dep<n/\n<=500/\
 ∀r p L,Same H L->L r=some (.tup [Wg (kdn Z (V4<|G.map (·.1)) n J b),p])->(kdn Z (V4<|G.map (·.1)) n J b=none->∃l w r,p=.ref l/\L l=some (.tup<|List.map V.int w)/\w.length<=n/\wr Z (V4<|G.map (·.1)) n J b=w::r)->Q (.ref r) L
def Tr:Yh ["book","around","body","within","found","number","part","kind","place","rule"] ["book","around","body"] (Yd sKP):=Y2
def D9(h:U[i]?=some (some v))(k:u D (U.set j<|some v) H):Yl (N8 (IH i)<|Vv j) u D U H:=by
 show Fv U[i]? _;rw[h];exact k
def C1(B:Blt mg)(me:mg "enumerate"=none)(TB:BCl K C)(TC:KCl K CK)(F:Fun K "kind_or_place" "kind_or_place" sKP f fd)(G:Ye P w K mg base CX0 (L+3) f fd ["book","around","body"] (RB C CK n))(bG:Binds K fd ["book","around","body"] [])(mG:mg "kind_or_place"=some (.ref f))(m1:VJ K C "kinds" g1)(G1:Ye P w K mg base CX0 (L+3) g1 d1 ["self"] (Je C CK))(b1:Binds K d1 ["self"] [])(m2:VJ K CK "names" g2)(G2:Ye P w K mg base CX0 (L+3) g2 d2 ["self"] (XD CK))(b2:Binds K d2 ["self"] [])(DP:Df P w K mg base (L+3) "parts" ["body"] Xs)(mU:mg "RULES"=some (.ref aR))(hM:base.MapOf (VD P w) aR mR)(hR:∀b:Bd,(∀e ts bs,b=.choose e ts bs->1<=bs.length)->∃(g:Addr)(gd:FuncData)(p:Bd->Prop),mR (Sum.inr b.word)=some (.ref g)/\Ye P w K mg base CX0 (L+3) g gd rps (Xr C CK p)/\p b/\W.keepIn K (.ref g)=true/\Binds K gd rps []):
  Ye P w K mg base CX0 (L+3+1) f fd ["book","around","body"] (RB C CK<|n+1):=by
 refine F.oq Tr λF5 A T3 s H vs Q E hr h=>?_;obtain⟨t,a,v,J,c,d,T,M,b,rfl,bi,kk,hk,nk,pl,ha,kl,hv,ok,dn,n5,q⟩:=h;have hu:=JQ hr;have DG:Df P w K mg base (L+3) "kind_or_place" ["book","around","body"] (RB C CK n):=⟨f,fd,mG,F.kp,bG,G⟩;refine⟨_,YY (Yz 3 Tr.nd<|pv 1)
  (YY (Y3 (Yp VX (Yk Yq (pv 2) Ya) Yr<|Yx _)
   (YY (Y3 (PW.pt<|UD (Ub<|Xh hu (Yk Yq (pv 2) Ya)<|pv 1)<|Jn<|Yp Jg (Yk Yq (pv 2) Ya) (Vp (Vp (pv 0) TB.cl m1 G1 hr b1 .nil Y4) TC.cl m2 G2 hr b2 .nil Y4) rfl) (YZ<|Yi<|Yj<|pa2 Vx<|Yj Vq) Yo)
   (YY (Yz 3 Tr.nd<|VT Dm rfl B.dict Uk (pa1<|pv 1))
   (YZ<|V5 hu (pv 3) (Yk Yq (pv 2) Ya) (Yk Yq (pv 2) Ya) rfl))) Yo)
  (YY (Yz 4 Tr.nd<|JJ Vq)
  (YY (Ja Zv rfl (Xz rfl me (pa1<|VW DP hr<|pa1<|pv 2)) (Ve (n:=2) rfl (Yn (Ym 5 Tr.nd)<|Yn (Ym 6 Tr.nd) VM))
   (YY (Jw (VW DG hr<|pa3 (pv 0) (pv 3)<|pv 6)<|Ve (n:=2) rfl (Yn (Ym 7 Tr.nd)<|Yn (Ym 8 Tr.nd) VM))
   (YY (Y3 (Yp Wh (pv 7) Vx<|Yx _) (YZ<|Yi<|Yj<|pa2 Vx<|VB MT (Yj<|pa1<|pv 5)<|pv 8) Yo)
   (YZ<|VZ<|Uy Zz Z0 Z1 JM (pv 4)<|pa1<|pv 7))))
  (YY (Yz 9 Tr.nd<|O7 rfl mU hM hu (Yk Yq (pv 2) Ya) (λ_ _=>rfl))
  (YY (Yz 7 Tr.nd<|KU (pv 9) hr Y4<|pa4 (pv 0) (pv 1) (pv 2)<|pv 4)
  (YY (Y3 (Yp Wh (pv 7) Vx<|Yx _) (YZ<|Yi<|Yj<|pa2 Vx<|Yj Vq) Yo)
  (YZ<|Yi<|Yj<|pa2 (pv 7) Vx))))))),?_⟩
 dsimp only[Vf,Cx.nox,Cx.wish];show let a:=_;let b:=_;let c:=Yl (VF _ b _) a;let d:=Yl _ c;let e:=Yl _ d;let f:=_;let g:=_;let h:=Yl (VF _ g _) f;let i:=Yl _ h;let j:=Yl (XS _ _ i) e;let k:=Yl _ j;let l:=_;let m:=Yl _ l;let n:=_;let o:=Yl (VF _ n _) m;let p:=Yl (VF _ o _) k;Yl _ p _ _ _
 intros
 obtain⟨bt,ys,rfl,hb⟩:=LW hv;have F4:=Bd.few ok
 have R3:kdn J (V4<|T.map (·.1)) (n+1) M b=none->[[]]=wr J (V4<|T.map (·.1)) (n+1) M b->∀R,Same H R->∀O r0,R O=none->(upd R O<|.tup []) r0=none->Q (.ref r0) (upd (upd R O<|.tup []) r0<|.tup [.non,.ref O]):=λe T5 R D O r0 h0 h1=>by
  have s2:=Ys h0<|.tup [];have g2:upd R O (.tup []) O=some (.tup []):=Yf;refine q r0 (.ref O) _ ((D.trans s2).trans<|Ys h1 _) (by rw[Wf e];exact Yf) λ_=>⟨O,[],[],rfl,(Ys h1 _) _ _ g2,Zc _,T5.symm⟩
 refine D9 Y ?_;refine Jb (λU' R=>∃wa,Same H R/\ ¬Jy J M b/\Rd R wa (.dK<|wth M b)/\U'=[some (.ref t),some<|.ref a,some<|.ref bt,some<|.ref wa,none,none,none,none,none,none]) ?_ ?_
 .rintro U' R ⟨wa,D,nb,hw,rfl⟩
  have R6:=nk.wth nb;refine⟨sl 0,λfl T0=>?_⟩;refine up_in T0 _ λH2 s2 g2=>?_;refine⟨.ref bt,b,Y,(hv.mono D).mono s2,ok,λu H3 s3 T6=>?_⟩;obtain⟨pa,xs,rfl,R8,R7⟩:=Yu T6;have lx:=R7.length;rw[Z9,ZA]at lx;exists pa,true,xs,Y,Z2 R8
  let I:pc:=λi U Hi=>Same R Hi/\Hi pa=some (.tup xs)/\HasL Hi xs (Bd.dats b.parts)/\(∃zs:kQ,(b.parts.take i).map (kdn J (V4<|T.map (·.1)) n<|wth M b)=zs.map some/\Hi fl=some (.lst<|zs.map V.str))/\∃z5 z6 z7 z8,U=[some (.ref t),some<|.ref a,some<|.ref bt,some<|.ref wa,some<|.ref fl,z5,z6,z7,z8,none]
  refine Te (tp:=true) (xs:=xs) I ⟨s2.trans s3,R8,R7,⟨[],Y,s3 _ _ g2⟩,_,_,_,_,Y⟩ (λi U Hi _ z=>Z2 z.2.1) ?_ ?_
  .rintro i x U Hi r hx ⟨si,hai,hxi,⟨zs,ez,hfi⟩,z5,z6,z7,z8,rfl⟩ hr'
   refine up_in hr' _ λHR sR gR=>?_;obtain⟨dd,J2,D0⟩:=hxi.get hx;rw[Z9,ZH]at J2
   cases hc:b.parts[i]? with
   |none=>rw[hc]at J2;cases J2
   |some c'=>
    rw[hc]at J2;cases J2;have M2:=ZJ hc;have dc:=Bd.dep_mem M2;have il:=(ZF.mp hc).1;have wl:=OK M b;have O1:=(D.trans si).trans sR
    have lz:zs.length<=i:=by
     have:=congrArg List.length ez;rw[ZA,ZA,ZN]at this;lia
    exists _,Z2 gR,Y;refine⟨t,wa,x,J,c,d,T,wth M b,c',Y,bi.mono O1,kk,hk,R6,pl,hw.same<|si.trans sR,by lia,D0.mono sR,Bd.ok_parts ok c' M2,by lia,by lia,λr2 p2 H4 s4 h4 hp=>?_⟩;exists _,Z2 h4,Y
    cases ek:kdn J (V4<|T.map (·.1)) n (wth M b) c' with
    |none=>
     have en:kdn J (V4<|T.map (·.1)) (n+1) M b=none:=TU<|ZW.mpr ⟨c',M2,ek⟩;obtain⟨l2,ws,wt,rfl,G3,lw,ew⟩:=hp ek;have pn:none∈b.parts.map (kdn J (V4<|T.map (·.1)) n<|wth M b):=ZW.mpr ⟨c',M2,ek⟩;obtain⟨R4,F1⟩:=Ew (f:=wr J (V4<|T.map (·.1)) n<|wth M b) hc ((Fm λe he=>by have:=Bd.dep_mem<|Zk he;lia).mpr (by rw[ez];simp)) ew;have T2:=(OL nb pn).trans F1;refine⟨Y,_,Y,VG (by simp[Wg]) ?_⟩;refine⟨sl 1,λt1 T8=>?_⟩;refine up_in T8 _ λH5 s5 g5=>?_;refine⟨t1,l2,_,_,Y,Y,Z2 g5,Z2<|s5 _ _ G3,by simp,Zh<|Y1 (by show 1+(ws.map V.int).length<=1000;rw[ZA];lia),λe0=>?_,λe0 t2 T7=>?_⟩
     .refine ⟨sl 2,λS Z=>?_⟩
      exact q S _ _ (((O1.trans s4).trans s5).trans<|Ys Z _) (by rw[Wf en];exact Yf) λ_=>⟨t1,[((i:Nat):Int)],R4,rfl,(Ys Z _) _ _ g5,by show 1<=n+1;lia,by rw[T2];cases ws with|nil=>rfl|cons _ _=>cases e0⟩
     .refine up_in T7 _ λH6 s6 g6=>?_
      refine⟨sl 2,λS Z=>?_⟩;exact q S _ _ ((((O1.trans s4).trans s5).trans s6).trans<|Ys Z _) (by rw[Wf en];exact Yf) λ_=>⟨t2,((i:Nat):Int)::ws,R4,rfl,(Ys Z _) _ _ g6,by rw[Zf];lia,T2⟩
    |some zk=>
     refine⟨Y,_,Y,Y0 (by simp[Wg]) ?_⟩;have R0:=s4 _ _<|sR _ _ hfi;refine⟨.inl ⟨Y,_,Z3 R0⟩,fl,_,_,Y,Y,R0,Y1 (by rw[ZA];lia),?_⟩;have T9:=s4 _ _<|sR _ _ hai;have tk:TK H4 (upd H4 fl<|.lst<|zs.map V.str++[Wg (some zk)]):=λb us h=>by rw[Yg (λe=>by rw[e,R0]at h;cases h)];exact h
     refine⟨((si.trans sR).trans s4).putN T0,tk _ _ T9,GY tk _ (Bd.sts _)<|(hxi.mono sR).mono s4,⟨zs++[zk],?_,?_⟩,_,_,_,_,rfl⟩
     .rw [take_snoc hc,ZK,ZK,ez]
      show _++[kdn _ _ _ _ _]=_;rw[ek];rfl
     .rw [Yf,ZK];rfl
  .rintro U Hi ⟨si,hai,hxi,⟨zs,ez,hfi⟩,z5,z6,z7,z8,rfl⟩
   rw[Zg (by lia)]at ez;have sH:=D.trans si;have a0:atI (V.str b.word::ys) 0=some (.str b.word):=VE (j:=0) rfl
   obtain⟨gr,D3,pr,r1,r2,r3,r4,r5⟩:=hR b (λe' F2 F7 eb=>by
    subst eb;unfold Bd.ok at ok;rw[ok.2.1];exact ok.2.2.1.1)
   have lz:zs.length=b.parts.length:=by
    have:=congrArg List.length ez;rw[ZA,ZA]at this;exact this.symm
   have mz:∀z∈zs,z∈J.map (·.1):=λz hz=>by
    have m:some z∈b.parts.map (kdn J (V4<|T.map (·.1)) n<|wth M b):=by rw[ez];exact ZW.mpr ⟨z,hz,Y⟩
    obtain⟨p,_,e⟩:=ZW.mp m;exact ES kk hk n _ p z R6 e
   have eo:=Md nb ez;exists _,_,Z2<|sH _ _ hb,a0,Sum.inr b.word,_,.ref gr,rfl,r1,rfl;refine⟨gr,D3,rps,Xr C CK pr,Y,r2,r4,r5,t,a,fl,.ref bt,J,c,d,T,M,b,zs,Y,bi.mono sH,kk,nk,pl,ha.same sH,hv.mono sH,ok,r3,hfi,lz,mz,λH5 s5=>?_⟩;rw[<-eo];have R5:=sH.trans s5
   cases ek:kdn J (V4<|T.map (·.1)) (n+1) M b with
   |none=>exact⟨Y,_,Y,VG (by simp[Wg]) ⟨sl 0,λO X=>⟨sl 2,λS Z=>R3 ek (Q1 nb (by rw[ez];simp) ek) H5 R5 O S X Z⟩⟩⟩
   |some y=>
    refine⟨Y,_,Y,Y0 (by simp[Wg]) ⟨sl 2,λS Z=>?_⟩⟩;exact q S _ _ (R5.trans<|Ys Z _) (by rw[ek];exact Yf) λe=>by rw[ek]at e;cases e
 .intro N key
  have a0:atI (V.str b.word::ys) 0=some (.str b.word):=VE (j:=0) rfl;exists _,_,Z2 hb,a0,Y,_,Y
  cases b with
  |letb x k e g=>
   obtain⟨F6,u1,u2,e1,R1⟩:=Ea hv;cases e1;obtain⟨A',kt,rfl,b'⟩:=id bi;refine VG (decide_eq_true Y) ?_;exists _,_,Z2 R1,Y,_,.inl ⟨M,Sum.inr x,ha,Y,Y⟩,_,Y
   by_cases kn:(VH M<|Sum.inr x).isSome=true
   .exact VG (by rw[kn]) ⟨sl 0,λO X=>⟨sl 2,λS Z=>R3 (GU<|.inl kn) (Fn<|.inl kn) H (Z8 _) O S X Z⟩⟩
   refine Y0 (by simpa using kn) ?_;refine⟨_,_,Z2 R1,Y,_,_,b'.ins,Y,A'.t,J,d,T,Y,bi,λso ki=>?_⟩;obtain⟨AK,SK,rfl,T4,F3⟩:=id ki;refine⟨_,_,T4.ins,Y,AK.t,J,d,Y,ki,λl R D hl g1=>?_⟩;have el:(J.map λk=>V.str k.1)=(J.map (·.1)).map V.str:=by rw[vi];rfl
   rw[el]at g1;exists l,_,Y,.inl<|Z3 g1,rfl,J5 _,_,rfl;rw[UU]
   by_cases km:k∈J.map (·.1)
   case neg=>exact VG (by simp only[if_true,jT,decide_eq_false_iff_not];exact km) ⟨sl 0,λO X=>⟨sl 2,λS Z=>R3 (GU<|.inr km) (Fn<|.inr km) R D O S X Z⟩⟩
   refine Y0 (by simp only[if_true,jT,decide_eq_false_iff_not,Classical.not_not];exact km) ?_;refine⟨a,M,Y,ha.same D,λl2 G3=>?_⟩;refine up_in G3 _ λH2 s2 g2=>?_;have T1:=s2 _ _<|D _ _ R1;refine⟨_,_,Z2 T1,Y,_,_,Z2 T1,Y,_,Uq.k (k:=Sum.inr x) g2<|Y1<|by lia,?_⟩;exact key _ _ ⟨l2,(D.trans s2).putN<|D.free G3,λz=>z.elim (λz=>kn z) λz=>z km,.inl Yf,rfl⟩
  |_=>exact Y0 (λz=>by have z1:=Zt z;injection z1 with z2;exact Zr z2 (by dsimp only[Bd.word];decide +kernel))<|key _ _ ⟨a,Z8 _,λz=>z,ha,rfl⟩
end
end K4
namespace L2
open PySem
def Ur(ks:pi)(ps:List (Str×Str)):List (List W):=ps.foldl (λrows p=>rows.flatMap λr=>(VA ks 3 p.2).map λu=>r++[u]) [[]]
def Wd(r:List W):Dat:=.tup<|r.map W.dat
def Bl(Z:pi)(J:List (Str×Str))(p:Str×Str):Ur Z (J++[p])=(Ur Z J).flatMap λr=>(VA Z 3 p.2).map λu=>r++[u]:=by
 unfold Ur;rw[qi]
 rfl
theorem RM{α β:Type}(f:α->List β)(k:Nat):∀l:List α,(∀a∈l,(f a).length=k)->(l.flatMap f).length=l.length*k
 |[],_=>by simp
 |a::l,h=>by
  rw[kB,ZL,h a Za,RM f k l λb Z=>h b<|ZM _ Z,Zf,jI,Nat.add_comm]
theorem Ua(c:pj):∀(Z:List (Str×Str))(n:Nat),Z.foldl (λr p=>r*c p.2) n=n*JD c Z
 |[],n=>by unfold JD;simp
 |p::Z,n=>by
  unfold JD;rw[j6,j6,Ua c Z<|n*c p.2,Ua c Z<|1*c p.2,Nat.one_mul,Nat.mul_assoc]
def G5(h:∀p∈ps,0<c p.2)(i:Nat):JD c (ps.take i)<=JD c ps/\0<JD c ps:=by
 have J:∀Z:List (Str×Str),(∀p∈Z,0<c p.2)->0<JD c Z:=λZ=>by
  induction Z with
  |nil=>intro _;exact Nat.one_pos
  |cons q Z ih=>
   intro L;unfold JD;rw[j6,Ua,Nat.one_mul];exact Nat.mul_pos (L q Za)<|ih λp G=>L p<|ZM _ G
 refine⟨?_,J ps h⟩
 have e:JD c ps=JD c (ps.take i)*JD c (ps.drop i):=by
  conv=>lhs;rw[<-qB i ps]
  unfold JD;rw[qi,Ua]
  rfl
 rw[e];exact Nat.le_mul_of_pos_right _<|J _ λp G=>h p<|qG G
def KK.c0(h:KK 30 c d Z)(J:y∈Z.map (·.1)):(VA Z 3 y).length=c y/\0<c y:=by
 have s:=h.small J;obtain⟨a,b,_⟩:=WQ h 3 y J (by lia);exact⟨a,b⟩
def E7(h:KK 30 c d J)(Z:List (Str×Str))(L:∀p∈Z,p.2∈J.map (·.1)):(Ur J Z).length=JD c Z:=by
 have go:∀(Z:List (Str×Str))(rows:List (List W)),(∀p∈Z,p.2∈J.map (·.1))->(Z.foldl (λrows p=>rows.flatMap λr=>(VA J 3 p.2).map λu=>r++[u]) rows).length=Z.foldl (λr p=>r*c p.2) rows.length:=λZ=>by
  induction Z with
  |nil=>intro rows _;rfl
  |cons p Z ih=>
   intro rows G;rw[j6,j6,ih _ λq m=>G q<|ZM _ m,RM _ (c p.2) rows λa _=>by rw[ZA];exact(h.c0<|G p Za).1]
 exact go Z [[]] L
def Bm(Z:List (Str×Str)):∀r∈Ur ks Z,r.length=Z.length:=by
 have go:∀(Z:List (Str×Str))(n:Nat)(rows:List (List W)),(∀r∈rows,r.length=n)->∀r∈Z.foldl (λrows p=>rows.flatMap λr=>(VA ks 3 p.2).map λu=>r++[u]) rows,r.length=n+Z.length:=λZ=>by
  induction Z with
  |nil=>intro n rows h r J;exact h r J
  |cons p Z ih=>
   intro n rows h r J
   have:=ih (n+1) _ (λr J=>by
    obtain⟨G,M,L⟩:=List.mem_flatMap.mp J;obtain⟨u,_,rfl⟩:=ZW.mp L;rw[ZL,h G M];rfl) r J
   rw[this,Zf];lia
 intro r J;have:=go Z 0 [[]] (λr J=>by rw[ZQ.mp J];rfl) r J;lia
def QD(N:Has H x (Wd r))(J:H b=some (.tup [wv]))(O:Has H wv u.dat)(B:r.length<=3)(q:∀v G,Same H G->Has G v (Wd<|r++[u])->Q v G):
  UT K x (.ref b) H Q\/US K x (.ref b) H Q:=by
 unfold Wd at N q;obtain⟨a,L,rfl,R,Z⟩:=Yu N;have M:=Z.length;rw[ZA]at M
 cases r with
 |nil=>
  obtain rfl:=VC Z;exact .inl ⟨a,b,[wv],Y,Y,Z2 R,Z2 J,q _ _ (Z8 _)<|Yv J<|Z5 O⟩
 |cons y r=>
  refine .inr ⟨a,b,L,[wv],Y,Y,Z2 R,Z2 J,(λz=>by subst z;cases M),Zh (Y1 (by simp only[vc];lia)),(λz=>nomatch z),λ_ p T=>?_⟩;have s:=Ys T<|.tup<|L++[wv];refine q _ _ s<|Yv Yf ?_;rw[ZK];exact Z7 (Z.mono s)<|Z5<|O.mono s
def Br{J:List (Str×Str)}{i:Nat}(h:HasL H G (J.map λp=>.tup [.str p.1,.str p.2]))(L:G[i]?=some x):∃p t,J[i]?=some p/\x=.ref t/\H t=some (.tup [.str p.1,.str p.2]):=by
 obtain⟨d,Z,N⟩:=h.get L;rw[ZH]at Z
 cases e:J[i]? with
 |none=>rw[e]at Z;cases Z
 |some p=>
  rw[e]at Z;cases Z;obtain⟨t,rfl,M⟩:=X7 N;exact⟨p,t,Y,Y,M⟩
end L2
namespace K4
open PySem L2
section
variable{f g C CK:Addr}
def Ry(CK:Addr):Sp:=λM H Q _=>∃(G:Addr)(J:pi)(d:pj)(Z:List (Str×Str))(v:V),M=[.ref G,v]/\KI H CK G J d/\J.length<=6/\Has H v (psD Z)/\Z.length<=3/\(∀p∈Z,p.2∈J.map (·.1))/\(Z.map (·.1)).Nodup/\(∀p∈Z,WdS p.1)/\
 ∀L,Same H L->Q (.bl true) L
def GL:Yh ["kinds","parameters","seen","name","kind"] ["kinds","parameters"] (Yd Bk):=Y2
def Kz(B:Blt T)(TC:KCl K CK)(F:Fun K "are_parameters" "are_parameters" Bk f fd)(hM:T "MOST_PARAMETERS"=some u)(rM:RelV (.int 3) u)(DN:Df P w K T base n "is_name" ["text"] (Uv 97))(m2:VJ K CK "names" g)(G2:Ye P w K T base CX0 n g gd ["self"] (XD CK))(b2:Binds K gd ["self"] []):Ye P w K T base CX0 (n+1) f fd ["kinds","parameters"] (Ry CK):=by
 refine F.oq GL λJ2 A j s H vs Q E m h=>?_;obtain⟨so,y,d,ps,v,rfl,ki,k6,hv,l3,pk,nd,S,q⟩:=h;have hu:=JQ m;unfold psD at hv;obtain⟨pa,xs,rfl,Z,M⟩:=Yu hv;have lx:=M.length;rw[ZA]at lx;refine⟨_,YY (Y3 (Yp RD (Y9 Yw Y B.len Zu (pa1<|pv 1)) (JW rfl hM rM)<|Yx _) (YZ JT) Yo)
  (YY (Yz 2 GL.nd JB)
  (YY (Ja Zv rfl (J9<|pv 1) (Ve (n:=2) rfl (Yn (Ym 3 GL.nd)<|Yn (Ym 4 GL.nd) VM))
   (YY (Y3 (PW.pt<|UD (JZ<|Vz<|VW DN m<|pa1<|pv 3)<|UD (Ub<|Xh hu (pv 3)<|pv 2)<|Jn<|Yp Jg (pv 4) (Vp (pv 0) TC.cl m2 G2 m b2 .nil Y4) rfl) (YZ JT) Yo)
   (YZ<|V5 hu (pv 2) (pv 3) X0 rfl)))
  (YZ<|Yi X0))),?_⟩
 dsimp only[Vf,Cx.nox,Cx.wish];show let a:=_;let b:=_;let c:=_;let d:=Yl (VF _ c _) b;let e:=Yl (XS _ _ d) a;let f:=Yl _ e;let g:=_;Yl (VF _ g _) f _ _ _
 intros
 refine⟨pa,_,Y,.inr<|Z2 Z,_,rfl,Y0 (by simp;lia) ?_⟩;intro X N;refine up_in N _ λH1 s1 g1=>?_;exists ⟨_,Z2<|s1 _ _ Z⟩
 let I:pc:=λi U J=>Same H J/\∃G z3 z4,J X=some (.dK G)/\G.map (·.1)=(ps.take i).map (λp=>(Sum.inr p.1:Key))/\U=[some (.ref so),some<|.ref pa,some<|.ref X,z3,z4]
 refine Th (xs:=xs) I ⟨s1,[],_,_,g1,Y,Y⟩ (λi U J _ z=>Z2<|z.1 _ _ Z) ?_ ?_
 .rintro BB RR i x U J hx ⟨si,G,z3,z4,hk,ek,rfl⟩
  obtain⟨p,t,D,rfl,ht⟩:=Br M hx;have O:=ZJ D;have i3:=(ZF.mp D).1;obtain⟨w1,w2,w3⟩:=S p O
  have nk:VH G (Sum.inr p.1)=none:=Rg (by
   rw[ek];intro z;obtain⟨q1,r,o⟩:=ZW.mp z;exact RE nd (show(ps.map (·.1))[i]?=some p.1 by rw[ZH,D];rfl) (by rw[<-j3];exact ZW.mpr ⟨q1,r,Sum.inr.inj o⟩))
  exists _,Z2<|si _ _ ht,rfl;refine⟨p.1,Y,w1,w2,w3,λH2 R=>⟨_,Y,Y0 (by simp) ?_⟩⟩;refine⟨_,(show JG H2 X (.str p.1) none by rw[<-nk];exact JG.k (k:=Sum.inr p.1)<|R _ _ hk),_,Y,Y0 (by simp) ?_⟩;have L:=ki.mono<|si.trans R;obtain⟨AK,SK,o,kd,kr⟩:=id L;refine⟨_,_,by rw[<-o];exact kd.ins,Y,so,y,d,Y,L,λl H3 s3 hl g3=>?_⟩;have el:(y.map λk=>V.str k.1)=(y.map (·.1)).map V.str:=by rw[vi];rfl
  rw[el]at g3;refine⟨l,_,Y,.inl<|Z3 g3,rfl,J5 _,_,rfl,Y0 ?_ ?_⟩
  .rw [UU]
   simp only[if_true,jT,decide_eq_false_iff_not,Classical.not_not];exact pk p O
  have lk:G.length<=3:=by
   have:=congrArg List.length ek;rw[ZA,ZA,ZN]at this;lia
  refine⟨_,Uq.k (k:=Sum.inr p.1) (s3 _ _<|R _ _ hk)<|Y1<|by lia,?_⟩;refine⟨((si.trans R).trans s3).putN N,_,_,_,Yf,?_,Y⟩;rw[Jf _ nk,ZK,ek,take_snoc D,ZK]
  rfl
 .rintro U J ⟨si,_⟩
  exact q J si
def Xc(CK:Addr):Sp:=λM H Q _=>∃(G:Addr)(J:pi)(c d:pj)(Z:List (Str×Str))(v:V),M=[.ref G,v]/\KI H CK G J d/\KK 30 c d J/\Has H v (psD Z)/\(∀p∈Z,p.2∈J.map (·.1))/\JD c Z<=1000/\
 ∀L,Same H L->Q (.int (JD c Z:Nat)) L
def J8:Yh ["kinds","parameters","count","name","kind"] ["kinds","parameters"] (Yd Wb):=Y2
def NP(B:Blt S)(TC:KCl K CK)(F:Fun K "row_count" "row_count" Wb f fd)(o:VJ K CK "worths_of" g)(G2:Ye P w K S base CX0 n g gd ["self","kind"] (J6 CK))(b2:Binds K gd ["self","kind"] []):Ye P w K S base CX0 (n+1) f fd ["kinds","parameters"] (Xc CK):=by
 refine F.oq J8 λJ2 A R s H vs Q E hr h=>?_;obtain⟨T,ks,c,d,ps,v,rfl,ki,j,y,D,top,q⟩:=h;unfold psD at y;obtain⟨r,xs,rfl,G,J⟩:=Yu y;have lx:=J.length;rw[ZA]at lx;refine⟨_,YY (Yz 2 J8.nd Ya)
  (YY (Ja Zv rfl (J9<|pv 1) (Ve (n:=2) rfl (Yn (Ym 3 J8.nd)<|Yn (Ym 4 J8.nd) VM))
   (YZ<|KJ (i:=2) J8.nd rfl (Or.inl rfl) (Y9 Yw rfl B.len Zu (pa1<|Y6 (pv 0) TC.cl o G2 hr b2 .nil Y4<|pa1<|pv 4)) Ps))
  (YZ<|Yi<|pv 2)),?_⟩
 dsimp only[Vf,Cx.nox,Cx.wish];show let a:=_;let b:=_;let c:=Yl (XS _ _ b) a;Yl _ c _ _ _
 intros
 refine L7 ?_;exists ⟨_,Z2 G⟩
 let I:pc:=λi U L=>Same H L/\∃O N,U=[some (.ref T),some<|.ref r,some<|.int (JD c (ps.take i):Nat),O,N]
 refine Th (xs:=xs) I ⟨Z8 _,_,_,Y⟩ (λi U L _ z=>Z2<|z.1 _ _ G) ?_ ?_
 .rintro BB RR i x U L hx ⟨si,O,N,rfl⟩
  obtain⟨p,t,M,rfl,ht⟩:=Br J hx;have m:=D p<|ZJ M;exists _,Z2<|si _ _ ht,rfl;have Z:=ki.mono si;obtain⟨AK,SK,e1,kd,kr⟩:=id Z;refine⟨_,Y,_,_,by rw[<-e1];exact kd.ins,Y,T,ks,d,p.2,Y,Z,m,λl k H3 u hl g3 hy=>?_⟩;have X:=hy.length;obtain⟨c1,c2⟩:=j.c0 m;rw[ZA,c1]at X;have le:=(G5 (c:=c) (ps:=ps) (λp M=>(j.c0<|D p M).2) i).1;refine⟨l,_,Y,.inl<|Z3 g3,.inl ⟨by lia,by lia⟩,?_⟩;have e:((JD c (ps.take i):Nat):Int)*((k.length:Nat):Int)=((JD c (ps.take<|i+1):Nat):Int):=by rw[take_snoc M,G6,X,Int.natCast_mul]
  exact⟨si.trans u,some<|.str p.1,some<|.str p.2,by rw[<-e];rfl⟩
 .rintro U L ⟨si,O,N,rfl⟩
  rw[Zg (by lia)];exact q L si
def Xb(CK:Addr):Sp:=λN H Q _=>∃(M:Addr)(J:pi)(c d:pj)(Z:List (Str×Str))(v:V),N=[.ref M,v]/\KI H CK M J d/\KK 30 c d J/\Has H v (psD Z)/\(∀p∈Z,p.2∈J.map (·.1))/\Z.length<=3/\JD c Z<=1000/\
 ∀l L G,Same H G->H l=none->G l=some (.lst L)->HasL G L ((Ur J Z).map Wd)->Q (.ref l) G
def J7:Yh ["kinds","parameters","rows","name","kind"] ["kinds","parameters"] (Yd Wa):=Y2
def Qd:List.Nodup [("row":Str),"worth","kinds","kind"]:=by decide +kernel
def NO(B:Blt mg)(TC:KCl K CK)(F:Fun K "rows_over" "rows_over" Wa f fd)(m2:VJ K CK "worths_of" g)(G2:Ye P w K mg base CX0 n g gd ["self","kind"] (J6 CK))(b2:Binds K gd ["self","kind"] []):Ye P w K mg base CX0 (n+1) f fd ["kinds","parameters"] (Xb CK):=by
 refine F.oq J7 λR8 A R3 s H vs Q E hr h=>?_;obtain⟨so,ks,c,d,ps,v,rfl,ki,kk,hv,pk,l3,top,q⟩:=h;unfold psD at hv;obtain⟨pa,xs,rfl,O1,M2⟩:=Yu hv;have lx:=M2.length;rw[ZA]at lx;refine⟨_,YY (Yz 2 J7.nd<|JJ<|pa1<|Yj Vq)
  (YY (Ja Zv rfl (J9<|pv 1) (Ve (n:=2) rfl (Yn (Ym 3 J7.nd)<|Yn (Ym 4 J7.nd rfl (Or.inr rfl)) VM))
   (YZ (O2 (i0:=2) (wi2:=Qo K<|IJ CK "worths_of" (J6 CK) [] E (IH 2)<|Jd (IH 3) Rm) [0,4] J7.nd rfl (Or.inl rfl) (Jz<|pv 2)
    (λcl C fp s H=>Ym 0 Qd rfl (Or.inl rfl) (Or.inr rfl)) (λcl C fp s H=>Jz<|Y6 (pv 2) TC.cl m2 G2 hr b2 .nil Y4<|pa1<|pv 3) (λcl C fp s H=>Ym 1 Qd rfl (Or.inl rfl) (Or.inr rfl))
    (λcl C fp s H=>VB (r:=λx y H Q=>UT K x y H Q\/US K x y H Q) J0 (pv 0)<|Yj<|pa1<|pv 1))))
  (YZ<|Yi<|pv 2)),?_⟩
 dsimp only[Vf,Cx.nox,Cx.wish];show let a:=_;let b:=_;let c:=Yl (XS _ _ b) a;Yl _ c _ _ _
 intros
 refine⟨sl 0,λt0 R4=>⟨sl 1,λl0 S=>?_⟩⟩;have s1:=Ys R4<|.tup [];have g1:upd H t0 (.tup []) t0=some (.tup []):=Yf;generalize upd H t0 (.tup [])=H1 at s1 g1 S |-;refine up_in S _ λH2 s2 g2=>?_;have J2:=s1.trans s2;exists ⟨_,Z2<|J2 _ _ O1⟩;refine Th (xs:=xs) (λi U T=>Same H T/\∃l G z3 k,H l=none/\T l=some (.lst G)/\HasL T G ((Ur ks<|ps.take i).map Wd)/\U=[some (.ref so),some<|.ref pa,some<|.ref l,z3,k]) ⟨J2,l0,_,_,_,s1.free S,g2,Z5<|Yv (s2 _ _ g1) Z6,rfl⟩ (λi U T _ z=>Z2<|z.1 _ _ O1) ?_ ?_
 .rintro BB RR i x U T hx ⟨si,l,G,z3,k,fl,hl,hy,rfl⟩
  obtain⟨p,t,O,rfl,ht⟩:=Br M2 hx;have hk:=pk p<|ZJ O;obtain⟨c1,c2⟩:=kk.c0 hk;have i3:=(ZF.mp O).1;have lR:=E7 kk (ps.take i) λp O=>pk p<|Zk O;have rl:=Bm (ks:=ks)<|ps.take i;have le:=(G5 (c:=c) (ps:=ps) (λp O=>(kk.c0<|pk p O).2)<|i+1).1;have eR:Ur ks (ps.take<|i+1)=(Ur ks<|ps.take i).flatMap λr=>(VA ks 3 p.2).map λu=>r++[u]:=by rw[take_snoc O,Bl]
  rw[take_snoc O,G6,<-lR,<-c1]at le;rw[eR];have ly:=hy.length;rw[ZA]at ly;rw[ZN]at rl;generalize Ur ks (ps.take i)=R at lR rl le hy ly |-;generalize hus:VA ks 3 p.2=us at le |-;exists _,Z2<|si _ _ ht,rfl;exists ⟨G,Z3 hl⟩;refine Dj G.length (λJ N m=>Same T m/\N.length=J*us.length/\J<=R.length/\HasL m N (((R.take J).flatMap λr=>us.map λu=>r++[u]).map Wd)) ⟨Z8 _,by simp,Zc _,by rw[qH];exact Z6⟩
   (λJ N m z=>Y1 (by rw[z.2.1];have:J*us.length<=R.length*us.length:=qI _ z.2.2.1;lia)) ?_ ?_ ?_ ?_
  .intro J N m hi z
   exact⟨G,G[J],Z3<|z.1 _ _ hl,by simp[hi]⟩
  .intro N m z
   exact⟨G,Z3<|z.1 _ _ hl,ZG _⟩
  .intro J N m x H'' RR' hi z yl hR
   obtain⟨rfl,yy⟩:=yl;obtain⟨dx,M,R6⟩:=hy.get<|yy G<|Z3<|z.1 _ _ hl;rw[ZH]at M
   cases hr1:R[J]? with
   |none=>rw[hr1]at M;cases M
   |some r=>
    rw[hr1]at M;cases M;have ri:=rl r<|ZJ hr1;have G3:=ki.mono<|si.trans z.1;obtain⟨AK,SK,e1,kd,kr⟩:=id G3;refine⟨_,_,by rw[<-e1];exact kd.ins,Y,so,ks,d,p.2,Y,G3,hk,λlw D H3 e R7 gw hw=>⟨⟨D,Z3 gw⟩,?_⟩⟩;rw[hus]at hw;have G1:=hw.length;rw[ZA]at G1;have R0:=(R6.mono z.1).mono e;refine LL D.length (λj I X=>Same H3 X/\I.length=J*us.length+j/\j<=us.length/\HasL X I (((R.take J).flatMap λr=>us.map λu=>r++[u]).map Wd++ ((us.take j).map λu=>r++[u]).map Wd)) ⟨Z8 _,by rw[z.2.1];rfl,Zc _,by rw[qH,jQ,jQ,j5];exact z.2.2.2.mono e⟩
     (λj I X Z=>Y1 (by
      rw[Z.2.1];have:(J+1)*us.length<=R.length*us.length:=qI _ (by lia);rw[jI]at this;have:=Z.2.2.1;lia)) ?_ ?_ ?_ ?_
    .intro j I X hj Z
     exact⟨D,D[j],Z3<|Z.1 _ _ gw,by simp[hj]⟩
    .intro I X Z
     exact⟨D,Z3<|Z.1 _ _ gw,ZG _⟩
    .intro j I X x2 H5 T2 hj Z yl2 hT
     obtain⟨rfl,R1⟩:=yl2;obtain⟨dz,L,R5⟩:=hw.get<|R1 D<|Z3<|Z.1 _ _ gw;rw[ZH]at L
     cases hv1:us[j]? with
     |none=>rw[hv1]at L;cases L
     |some v=>
      rw[hv1]at L;cases L;refine⟨sl 1,λb hb=>?_⟩;have sb:=Ys hb<|.tup [x2];have gb:upd H5 b (.tup [x2]) b=some (.tup [x2]):=Yf;refine QD ((R0.mono Z.1).mono sb) gb ((R5.mono Z.1).mono sb) (by lia) λv' H6 s6 h6=>hT _ _ ?_;have o:=sb.trans s6;exists Z.1.trans o,by rw[ZL,Z.2.1];rfl,(ZF.mp hv1).1;rw[take_snoc hv1,ZK,ZK,<-jS];exact Z7 (Z.2.2.2.mono o)<|Z5 h6
    .intro I X Z
     refine hR _ _ ⟨z.1.trans<|e.trans Z.1,by rw[Z.2.1,G1,jI],(ZF.mp hr1).1,?_⟩;have y4:=Z.2.2.2;rw[show us.take D.length=us from Zg (by lia)]at y4;rw[take_snoc hr1,List.flatMap_append,ZK];simp only[kB,List.flatMap_nil,j5];exact y4
  .intro N m p3 z hp3
   have e:=Ys hp3<|.lst N;have k:=z.2.2.2;rw[Zg (by lia)]at k;exact⟨si.trans<|z.1.trans e,p3,N,_,_,(si.trans z.1).free hp3,Yf,k.mono e,rfl⟩
 .rintro U T ⟨si,l,G,z3,k,fl,hl,hy,rfl⟩
  rw[Zg (by lia)]at hy;exact q l G T si fl hl hy
end
end K4
namespace L2
open PySem
def X1(H:Hp)(x:Addr):Hp:=λb=>if b=x then none else H b
structure BB(Hm H:Hp)(C CK:Addr)(A:BA)(ks:List (Str×Shp))(d:Str->Nat):Prop where
 ins:H A.t=some (.ins C A.dx (UK A))
 sm:Same Hm H
 so:KI Hm CK A.so ks d
 nd:Hm A.td=none
 nr:Hm A.rd=none
 ne:A.td≠A.rd
 n1:A.t≠A.td
 n2:A.t≠A.rd
def BB.same(b:BB J H C L A Z d)(s:Same H G):BB J G C L A Z d:=⟨s _ _ b.ins,b.sm.trans s,b.so,b.nd,b.nr,b.ne,b.n1,b.n2⟩
def BB.td(b:BB J H C G A Z d)(o:HO):BB J (upd H A.td o) C G A Z d:=⟨by rw[Yg b.n1];exact b.ins,b.sm.putN b.nd,b.so,b.nd,b.nr,b.ne,b.n1,b.n2⟩
def BB.rd(b:BB J H C G A Z d)(o:HO):BB J (upd H A.rd o) C G A Z d:=⟨by rw[Yg b.n2];exact b.ins,b.sm.putN b.nr,b.so,b.nd,b.nr,b.ne,b.n1,b.n2⟩
structure BT(H:Hp)(A:BA)(kv rv:List (Key×V))(ks:List (Str×Shp))(ds:List Dd):Prop where
 td:H A.td=some (.dK kv)
 rd:H A.rd=some (.dK rv)
 ke:kv.map (·.1)=ds.map (λx=>(Sum.inr x.1.1:Key))
 va:HasL H (kv.map (·.2)) (ds.map Uu)
 ro:∀x∈ds,∃l xs,VH rv (Sum.inr x.1.1)=some (.ref l)/\H l=some (.lst xs)/\HasL H xs ((Ur ks x.1.2.1).map Wd)
 ln:rv.length<=ds.length
def BT.same(b:BT H A G J L T)(s:Same H B):BT B A G J L T:=
 ⟨s _ _ b.td,s _ _ b.rd,b.ke,b.va.mono s,λx M=>let⟨l,Z,R,O,N⟩:=b.ro x M;⟨l,Z,R,s _ _ O,N.mono s⟩,b.ln⟩
theorem Mj(e:TK H L):∀(u:W){v:V},Has H v u.dat->Has L v u.dat
 |.non,_,h=>by unfold W.dat Has at h |-;exact h
 |.tag _,_,h=>by unfold W.dat Has at h |-;exact h
 |.pair a b,_,h=>by
  obtain⟨p,N,M,rfl,Z,G,J⟩:=WB h;unfold W.dat Has;exact⟨p,_,Y,e _ _ Z,Z4 (Mj e a G)<|Z5<|Mj e b J⟩
theorem Ml{α:Type}{D:α->Dat}(e:∀u {v:V},Has H v (D u)->Has G v (D u)):∀{J:List α}{Z:kZ},HasL H Z (J.map D)->HasL G Z (J.map D)
 |[],[],_=>Z6
 |[],_::_,h=>by rw[jQ]at h;unfold HasL at h;exact h.elim
 |_::_,[],h=>by rw[ZV]at h;unfold HasL at h;exact h.elim
 |u::J,x::Z,h=>by
  rw[ZV]at h |-;unfold HasL at h;exact Z4 (e u h.1)<|Ml e h.2
def Eb(e:TK H R){Z:List (List W)}(h:HasL H L (Z.map Wd)):HasL R L (Z.map Wd):=Ml (λu v J=>by
 unfold Wd Has at J |-;obtain⟨a,G,O,N,M⟩:=J;exact⟨a,G,O,e _ _ N,Ml (λu {v}=>Mj e u) M⟩) h
def M5(x:Dd):(Uu x).st=true:=by
 unfold Uu psD;simp[Dat.st,Dat.sts,EE,Bd.st]
theorem M4:∀Z:List Dd,Dat.sts (Z.map Uu)=true
 |[]=>by unfold List.map Dat.sts;rfl
 |x::Z=>by rw[ZV];unfold Dat.sts;rw[M4 Z,M5];rfl
def Pu(h:Has H v (FZ x)):∃a u w,v=.ref a/\H a=some (.tup [.str x.1.1,u,.str x.1.2.2,w])/\Has H u (psD x.1.2.1)/\Has H w x.2.dat:=by
 unfold FZ at h;obtain⟨t,F,rfl,O,R⟩:=Yu h;obtain⟨I,X,rfl,E,L⟩:=Yc R;obtain⟨N,C,rfl,D,G⟩:=Yc L;obtain⟨A,U,rfl,B,J⟩:=Yc G;obtain⟨M,S,rfl,T,Z⟩:=Yc J;obtain rfl:=VC Z;obtain rfl:=has_str E;obtain rfl:=has_str B;exact⟨t,N,M,Y,O,D,T⟩
def vE(A:BA):(UK A).lookup ("is_head":Str)=none:=rfl
def vC(A:BA):(UK A).lookup ("rows":Str)=some (V.ref A.rd):=rfl
def O6(Z:X.calm=true)(M:PG X (.Name x1 p1) t1)(L:PG X (.Name x2 p2) t2)(G:PG X (.Name x3 p3) t3)(J:PG X (.Name x4 p4) t4):
  PG X (.Tuple [.Name x1 p1,.Name x2 p2,.Name x3 p3,.Name x4 p4] k pos) (Nd X.K 4<|Jl t1<|Jl t2<|Jl t3<|Jl t4 Td):=
 Ve (n:=4) Z (Yn M<|Yn L<|Yn G<|Yn J VM)
def BT.put(b:BT H0 A N M Q S)(P:A.td≠A.rd)(C:x.1.1∉S.map λy=>y.1.1)(R:U=upd H0 A.td (.dK<|putK N (Sum.inr x.1.1) v))(r:Has H0 v (Uu x))(s:Same U Hb)(j:Hb l=some (.lst B))(w:HasL Hb B ((Ur Q x.1.2.1).map Wd))(L:H4=upd Hb A.rd (.dK<|putK M (Sum.inr x.1.1)<|.ref l)):
  BT H4 A (putK N (Sum.inr x.1.1) v) (putK M (Sum.inr x.1.1)<|.ref l) Q (S++[x]):=by
 have X:VH N (Sum.inr x.1.1)=none:=Rg (by
  rw[b.ke];intro z;obtain⟨t,I,i⟩:=ZW.mp z;exact C<|ZW.mpr ⟨t,I,Sum.inr.inj i⟩)
 have F:U A.td=some (.dK<|putK N (Sum.inr x.1.1) v):=by rw[R];exact Yf
 have Z:Hb A.rd=some (.dK M):=s _ _ (by rw[R,Yg (Zs P)];exact b.rd);have D:TK H0 U:=by rw[R];exact N4 b.td λq z=>nomatch z
 have G:TK Hb H4:=by rw[L];exact N4 Z λq z=>nomatch z
 have E:TK H0 H4:=λb J h=>G _ _<|s _ _<|D _ _ h
 have p:∀b J,H0 b=some (.lst J)->H4 b=some (.lst J):=λc J h=>by
  have k:c≠A.td:=Jh h b.td (by intro z;cases z);have O:Hb c=some (.lst J):=s _ _ (by rw[R,Yg k];exact h);have g:c≠A.rd:=Jh O Z (by intro z;cases z);rw[L,Yg g];exact O
 have d:H4 l=some (.lst B):=by
  rw[L,Yg (Jh j Z (by intro z;cases z))];exact j
 exists by rw[L,Yg P];exact s _ _ F,by rw[L];exact Yf,by rw[Jf _ X,ZK,b.ke,ZK];rfl,?_,λy u=>?_
 .rw [Jf _ X,ZK,ZK]
  exact Z7 (GY E _ (M4 S) b.va)<|Z5<|DJ E _ (M5 x) r
 .rw [JA]
  rcases ZX.mp u with m|m
  .have ny:¬(Sum.inr y.1.1:Key)=Sum.inr x.1.1:=λz=>C<|ZW.mpr ⟨y,m,Sum.inr.inj z⟩
   rw[Zq ny];obtain⟨f,T,o,O,e⟩:=b.ro y m;exact⟨f,T,o,p _ _ O,Eb E e⟩
  .cases ZQ.mp m
   rw[Zp rfl];exact⟨l,B,Y,d,Eb G w⟩
 .have:=NH M (Sum.inr x.1.1)<|.ref l
  have:=b.ln;rw[ZL,vc];lia
end L2
namespace K4
open PySem L2
section
variable{f g C CK:Addr}
def Rx(C CK:Addr):Sp:=λM H Q _=>∃(A:BA)(G:kY)(J:pi)(d:pj)(y k:Str)(Z:List (Str×Str))(v:V),M=[.ref A.t,.str y,v,.str k]/\H A.t=some (.ins C A.dx<|UK A)/\H A.td=some (.dK G)/\KI H CK A.so J d/\J.length<=6/\VH G (Sum.inr y)=none/\WdS y/\
 Has H v (psD Z)/\Z.length<=3/\(∀p∈Z,p.2∈J.map (·.1))/\(Z.map (·.1)).Nodup/\(∀p∈Z,WdS p.1)/\k∈J.map (·.1)/\∀L,Same H L->Q (.bl true) L
def Ou:Yh ["self","name","parameters","kind"] ["self","name","parameters","kind"] (Yd Bh):=Y2
def Ky(G:BCl K C)(TC:KCl K CK)(F:Fun K "is_head" "Book.is_head" Bh f fd)(DN:Df P w K T base n "is_name" ["text"] (Uv 97))(DA:Df P w K T base n "are_parameters" ["kinds","parameters"] (Ry CK))(r:VJ K CK "names" g)(G2:Ye P w K T base CX0 n g gd ["self"] (XD CK))(b2:Binds K gd ["self"] []):Ye P w K T base CX0 (n+1) f fd ["self","name","parameters","kind"] (Rx C CK):=by
 refine F.oq Ou λJ2 A R s H vs Q E N h=>?_;obtain⟨D,kv,L,d,y,k,m,v,rfl,B,ht,I,i,c,⟨j,X,U⟩,a,b,p,u,O,hk,q⟩:=h;have x:=JQ N;refine⟨_,YY (Y3 (PW.pt<|UD (JZ<|Vz<|VW DN N<|pa1<|pv 1)<|Jn<|Ub<|Xh x (pv 1)<|Yt (pv 0) rfl) (YZ JT) Yo)
  (YZ<|Yi<|Xg (VW DA N<|pa2 (Yt (pv 0) rfl)<|pv 2)<|Ux<|V6 XI (pv 3) (Vp (Yt (pv 0) rfl) TC.cl r G2 N b2 .nil Y4) rfl),?_⟩
 dsimp only[Vf,Cx.nox,Cx.wish];refine⟨y,Y,j,X,U,λH1 J=>⟨_,Y,Y0 (by simp) ?_⟩⟩;refine⟨C,_,_,_,J _ _ B,G.cl,G.td,FU _,_,(show JG H1 D.td (.str y) none by rw[<-c];exact JG.k (k:=Sum.inr y)<|J _ _ ht),_,Y,Y0 (by simp) ?_⟩;refine⟨C,_,_,_,J _ _ B,G.cl,G.so,Ld _,D.so,L,d,m,v,Y,I.mono J,i,a.mono J,b,p,u,O,λH2 t=>⟨true,Y,VG Y ?_⟩⟩;have Z:=J.trans t;have M:=I.mono Z;obtain⟨AK,SK,e1,o,kr⟩:=id M;refine⟨C,_,_,_,Z _ _ B,G.cl,G.so,Ld _,_,_,by rw[<-e1];exact o.ins,Y,D.so,L,d,Y,M,λl H3 z hl S=>?_⟩;have el:(L.map λk=>V.str k.1)=(L.map (·.1)).map V.str:=by rw[vi];rfl
 rw[el]at S;exists l,_,Y,.inl<|Z3 S,rfl,J5 _;rw[UU];have e:decide (k∈L.map (·.1))=true:=decide_eq_true hk;dsimp only[rI0,rI,U3];rw[e];exact q H3<|Z.trans z
end
section
variable{f g C CK:Addr}
def IW(C CK:Addr):Sp:=λO H Q _=>∃(G:Hp)(A:BA)(N:Addr)(M:kZ)(Z:pi)(c d:pj)(J:List Dd),O=[.ref A.t,.ref N]/\BB G H C CK A Z d/\BT H A [] [] Z []/\KK 30 c d Z/\Z.length<=6/\G N=some (.lst M)/\HasL G M (J.map FZ)/\0<J.length/\J.length<=8/\
 Wds 97 (J.map λx=>x.1.1)/\(∀x∈J,QK (Z.map (·.1)) c 50 x.1)/\∀L T R,BB G L C CK A Z d->BT L A T R Z J->Q .non L
def Xu:Yh ["self","definitions","in_all","number","name","parameters","kind","body","count"] ["self","definitions"] (Yd Bc):=Y2
def Kw(B:Blt T)(me:T "enumerate"=none)(R:BCl K C)(F:Fun K "take_heads" "Book.take_heads" Bc f fd)(h1:T "MOST_DEFINITIONS"=some u1)(r1:RelV (.int 8) u1)(h2:T "MOST_ROWS"=some u2)(r2:RelV (.int 200) u2)(h3:T "MOST_ROWS_IN_ALL"=some u3)(r3:RelV (.int 400) u3)(mH:VJ K C "is_head" g)(GH:Ye P w K T base CX0 n g gd ["self","name","parameters","kind"] (Rx C CK))(bH:Binds K gd ["self","name","parameters","kind"] [])(DC:Df P w K T base n "row_count" ["kinds","parameters"] (Xc CK))(DO:Df P w K T base n "rows_over" ["kinds","parameters"] (Xb CK)):Ye P w K T base CX0 (n+1) f fd ["self","definitions"] (IW C CK):=by
 refine F.oq Xu λT8 A R5 s H vs Q E hr h=>?_;obtain⟨Hm,D,dl,zs,o,c,d,ds,rfl,bb,bt,kk,k6,X,J2,d0,d8,wd,ho,q⟩:=h;have hu:=JQ hr;have lz:=J2.length;rw[ZA]at lz;refine⟨_,YY (Y3 (Yp VX (Y9 Yw Y B.len Zu (pa1<|pv 1)) Ya<|Yx _) (YZ JT) Yo)
  (YY (Yz 2 Xu.nd Ya)
  (YZ (Ja Zv rfl (Xz rfl me (pa1<|pv 1)) (Ve (n:=2) rfl (Yn (Ym 3 Xu.nd)<|Yn (O6 rfl (Ym 4 Xu.nd) (Ym 5 Xu.nd) (Ym 6 Xu.nd) (Ym 7 Xu.nd)) VM))
   (YY (Y3 (PW.pt<|UD (Yp QZ (pv 3) (JW rfl h1 r1)<|Yx _)<|Jn<|JZ<|Vz<|Y6 (pv 0) R.cl mH GH hr bH .nil Y4<|pa3 (pv 4) (pv 5)<|pv 6) (YZ JT) Yo)
   (YY (Yz 8 Xu.nd<|VW DC hr<|pa2 (Yt (pv 0) rfl)<|pv 5)
   (YY (KJ (i:=2) Xu.nd rfl (Or.inl rfl) (pv 8) Pt)
   (YY (Y3 (PW.pt<|UD (Yp RD (pv 8) (JW rfl h2 r2)<|Yx _)<|Jn<|Yp RD (pv 2) (JW rfl h3 r3)<|Yx _) (YZ JT) Yo)
   (YY (V5 hu (Yt (pv 0) rfl) (pv 4) (Yj<|pa3 (pv 5) (pv 6)<|pv 7) rfl)
   (YZ<|V5 hu (Yt (pv 0) rfl) (pv 4) (VW DO hr<|pa2 (Yt (pv 0) rfl)<|pv 5) rfl))))))))),?_⟩
 dsimp only[Vf,Cx.nox,Cx.wish];show let a:=_;let b:=Yl _ a;let c:=_;let d:=Yl (VF _ c _) b;let e:=Yl _ d;let f:=Yl _ e;let g:=_;let h:=Yl (VF _ g _) f;let i:=XS _ _ h;let j:=Yl _ i;let k:=_;Yl (VF _ k _) j _ _ _
 intros
 refine⟨dl,_,Y,.inl<|Z3<|bb.sm _ _ X,rfl,_,rfl,Y0 (λz=>by have z1:=Zt z;injection z1 with z2;lia) ?_⟩;refine L7 ?_;exists dl,false,zs,Y,Z3<|bb.sm _ _ X
 let I:pc:=λi U t=>BB Hm t C CK D o d/\∃(M v:kY)(n:Nat)(z3 z4 z5 z6 z7 z8:pf),BT t D M v o (ds.take i)/\n<=50*i/\U=[some (.ref D.t),some<|.ref dl,some<|.int (n:Nat),z3,z4,z5,z6,z7,z8]
 refine Mp (tp:=false) (xs:=zs) I
  ⟨bb,[],[],0,_,_,_,_,_,_,bt,ZG _,rfl⟩ (λi U t _ z=>Z3<|z.1.sm _ _ X) ?_ ?_
 .rintro BB' RR i x U t r hx ⟨bbi,M,v,n',z3,z4,z5,z6,z7,z8,bti,n40,rfl⟩ hr'
  obtain⟨dd,G,T3⟩:=J2.get hx;rw[ZH]at G
  cases hc:ds[i]? with
  |none=>rw[hc]at G;cases G
  |some Z=>
   rw[hc]at G;cases G;have i8:=(ZF.mp hc).1;have hm:=ZJ hc;obtain⟨p3,pk,hk,R4,R3,T7⟩:=ho Z hm;refine up_in hr' _ λHR sR gR=>?_;have J:=bbi.same sR;have G3:=bti.same sR;obtain⟨ta,u,wv,rfl,T1,G1,R7⟩:=Pu<|T3.mono J.sm
   have nx:Z.1.1∉(ds.take i).map λy=>y.1.1:=by
    rw[j3];exact RE wd.nd (show(ds.map λy:Dd=>y.1.1)[i]?=some Z.1.1 by rw[ZH,hc];rfl)
   have nk:VH M (Sum.inr Z.1.1)=none:=Rg (by
    rw[bti.ke];intro z;obtain⟨q1,T2,e1⟩:=ZW.mp z;exact nx<|ZW.mpr ⟨q1,T2,Sum.inr.inj e1⟩)
   have lk:M.length<=8:=by
    have:=congrArg List.length bti.ke;rw[ZA,ZA,ZN]at this;lia
   have lr:=bti.ln;rw[ZN]at lr;refine⟨_,Z2 gR,Y,⟨_,Z2 T1,Y,?_⟩⟩;refine⟨_,Y,Y0 (by simp;lia) ?_⟩;refine⟨_,_,J.ins,vE _,D,M,o,d,Z.1.1,Z.1.2.2,Z.1.2.1,u,Y,J.ins,G3.td,J.so.mono J.sm,k6,nk,wd.wdS<|ZW.mpr ⟨Z,hm,rfl⟩,G1,p3,pk,R4,R3,hk,λH1 s1=>⟨_,rfl,Y0 (by simp) ?_⟩⟩;have O:=J.same s1;have T5:=G3.same s1;have S:=G1.mono s1;refine⟨C,_,_,_,O.ins,R.cl,R.so,Ld _,D.so,o,c,d,Z.1.2.1,u,Y,O.so.mono O.sm,kk,S,pk,by lia,λH2 p=>?_⟩;have T6:=O.same p;have T4:=T5.same p;exists _,Y;refine⟨_,Y,Y0 (by simp;lia) ?_⟩;refine⟨_,Y,Y0 (by simp;lia) ?_⟩;refine⟨sl 3,λtt T0=>?_⟩;refine up_in T0 _ λH3 m g3=>?_;have O1:=T6.same m;have N:=T4.same m;have R8:Has H3 (.ref tt) (Uu Z):=Yv g3<|Z4 ((S.mono p).mono m)<|Z4 Y5<|Z5<|((R7.mono s1).mono p).mono m;refine⟨C,_,_,_,O1.ins,R.cl,R.td,FU _,_,Uq.k (k:=Sum.inr Z.1.1) N.td<|Y1<|by lia,?_⟩;have L:=O1.td<|.dK<|putK M (Sum.inr Z.1.1)<|.ref tt;obtain⟨H4,e4⟩:∃H4,H4=upd H3 D.td (.dK<|putK M (Sum.inr Z.1.1)<|.ref tt):=⟨_,rfl⟩;have R0:TK H3 H4:=by rw[e4];exact N4 N.td λys z=>nomatch z
   have R1:H4 D.rd=some (.dK v):=by rw[e4,Yg (Zs bb.ne)];exact N.rd
   rw[<-e4]at L;dsimp only[rI0,rI,U3];rw[<-e4];refine⟨C,_,_,_,L.ins,R.cl,R.so,Ld _,D.so,o,c,d,Z.1.2.1,u,Y,L.so.mono L.sm,kk,DJ R0 _ (by unfold psD;unfold Dat.st;exact EE _)<|(S.mono p).mono m,pk,p3,by lia,λl xs H5 s5 fl hl R6=>?_⟩;have M2:=L.same s5;refine⟨C,_,_,_,M2.ins,R.cl,R.rd,vC _,_,Uq.k (k:=Sum.inr Z.1.1) (s5 _ _ R1)<|Y1<|by lia,?_⟩;have G2:=N.put bb.ne nx e4 R8 s5 hl R6 rfl;rw[<-take_snoc hc]at G2;exact⟨M2.rd _,_,_,n'+JD c Z.1.2.1,_,_,_,_,_,_,G2,by lia,Y⟩
 .rintro U t ⟨bbi,M,v,n',z3,z4,z5,z6,z7,z8,bti,n40,rfl⟩
  rw[Zg (by lia)]at bti;exact q t M v bbi bti
end
end K4
namespace L2
open PySem
def BD.mono(k:BD H C M A Z J d G)(e:Same H L):BD L C M A Z J d G:=⟨e _ _ k.ins,k.so.mono e,e _ _ k.td,k.ke,k.va.mono e,k.nd⟩
def Bt(n:b≠x)(h:H b=some o):X1 H x b=some o:=by unfold X1;rw[Zq n];exact h
def KI.out(k:KI H R t L d)(N:H x=some (.ins C O [])):KI (X1 H x) R t L d:=by
 obtain⟨A,S,rfl,Z,M⟩:=k;have go:∀{b:Addr}{o:HO},H b=some o->o≠.ins C O []->X1 H x b=some o:=λ{b o} h n=>Bt (Jh h N n) h;have G:TL H (X1 H x):=⟨λb J h=>go h (by intro z;cases z),λb J h=>go h (by intro z;cases z)⟩;refine⟨A,S,Y,⟨go Z.ins λz=>?_,go Z.sh (λz=>by cases z),go Z.wo (λz=>by cases z),go Z.he (λz=>by cases z),go Z.pd (λz=>by cases z),go Z.tk (λz=>by cases z),go Z.pk (λz=>by cases z),Z.nd⟩,M.tl G⟩;injection z with _ _ z;unfold Tf at z;cases z
end L2
namespace K4
open PySem L2
section
variable{f g C CK N fI:Addr}
structure vS(x:Dd):Prop where
 ok:x.2.ok
 dep:x.2.dep<=12
 size:x.2.size<=100
def Ju:Yh ["self","number","name","parameters","kind","body","found","place"] ["self"] (Yd MM):=Y2
def zY(A:BA):(UK A).lookup ("names":Str)=none:=rfl
def Ot:Yh ["self","kinds","definitions"] ["self","kinds","definitions"] (Yd Bg):=Y2
def vA(A:BA):(UK A).lookup ("take_heads":Str)=none:=rfl
def vF(A:BA):(UK A).lookup ("check_bodies":Str)=none:=rfl
end
end K4
namespace L2
open PySem
def Pk{K:W.Frag}(X:K.In h)(L:K.lookup a=some ⟨.type "dict",none,.dict Z n,#[]⟩)(M:W.KeysLit w.params Z.toList):h.MapOf (VD P w) a λk=>findBy JC Z k:=by
 have keys:KeysOf (VD P w) Z:=λd hd=>by
  have⟨x,t,J,G⟩:=W.KeysLit.all M d (by simpa using hd);refine⟨Sum.inr x,?_,G⟩;show JC (Sum.inr x) d.key=true;rw[J,Wq]
 exact⟨_,Z,n,X a _ L,⟨Y,Y,Y⟩,Y,keys,λk=>Y⟩
def U0(Z:K.lookup a=some ⟨.type "dict",none,.dict J n,#[]⟩)(e:W.nsIn K a x=some (some v)):findBy JC J (Sum.inr x)=some v:=by
 have q:=W.find_K Z e;exact q
end L2
namespace K4
open PySem L2
section
variable{f g C CK:Addr}
abbrev wps:kQ:=["book","around","body"]
def RA(P:Program)(w:World)(K:W.Frag)(mg:Str->Option Value)(base:Heap)(C CK:Addr)(mR:Key->Option Value)(x:Str)(p:Bd->Prop):Prop:=∃g Z,mR (Sum.inr x)=some (.ref g)/\Ye P w K mg base CX0 3 g Z rps (Xr C CK p)/\W.keepIn K (.ref g)=true/\Binds K Z rps []
def RA.at(r:RA P w K J base C CK G x p)(L:Nat)(e:b.word=x)(h:p b):∃(g:Addr)(Z:FuncData)(p:Bd->Prop),G (Sum.inr b.word)=some (.ref g)/\Ye P w K J base CX0 (L+3) g Z rps (Xr C CK p)/\p b/\W.keepIn K (.ref g)=true/\Binds K Z rps []:=by
 obtain⟨g,Z,R,O,N,M⟩:=r;exact⟨g,Z,p,by rw[e];exact R,O.mono<|by lia,h,N,M⟩
theorem Iw(L:Nat)(S:RA P w K Z base C CK J "tag" λb=>∃t,b=.tag t)(I:RA P w K Z base C CK J "name" λb=>∃x,b=.name x)(A:RA P w K Z base C CK J "pair" λb=>∃e g,b=.pair e g)(F:RA P w K Z base C CK J "one" λb=>∃e,b=.one e)(E:RA P w K Z base C CK J "other" λb=>∃e,b=.other e)(D:RA P w K Z base C CK J "choose" λb=>∃e M G,b=.choose e M G/\1<=G.length)(B:RA P w K Z base C CK J "ask" λb=>∃N O,b=.ask N O)(T:RA P w K Z base C CK J "let" λb=>∃x k e g,b=.letb x k e g):
  ∀b:Bd,(∀e M G,b=.choose e M G->1<=G.length)->∃(g:Addr)(R:FuncData)(p:Bd->Prop),J (Sum.inr b.word)=some (.ref g)/\Ye P w K Z base CX0 (L+3) g R rps (Xr C CK p)/\p b/\W.keepIn K (.ref g)=true/\Binds K R rps []
 |.tag t,_=>S.at L rfl ⟨t,rfl⟩
 |.name x,_=>I.at L rfl ⟨x,rfl⟩
 |.pair e g,_=>A.at L rfl ⟨e,g,rfl⟩
 |.one e,_=>F.at L rfl ⟨e,rfl⟩
 |.other e,_=>E.at L rfl ⟨e,rfl⟩
 |.choose e M G,h=>D.at L rfl ⟨e,M,G,rfl,h e M G rfl⟩
 |.ask N O,_=>B.at L rfl ⟨N,O,rfl⟩
 |.letb x k e g,_=>T.at L rfl ⟨x,k,e,g,rfl⟩
theorem Qn(B:Blt Z)(J:Z "enumerate"=none)(y:BCl K C)(j:KCl K CK)(F:Fun K "kind_or_place" "kind_or_place" sKP f A)(S:Binds K A wps [])(M:Z "kind_or_place"=some (.ref f))(O:VJ K C "kinds" g1)(q:Ye P w K Z base CX0 3 g1 u ["self"] (Je C CK))(X:Binds K u ["self"] [])(N:VJ K CK "names" c)(z:Ye P w K Z base CX0 3 c d ["self"] (XD CK))(U:Binds K d ["self"] [])(t:Df P w K Z base 3 "parts" ["body"] Xs)(G:Z "RULES"=some (.ref v))(T:base.MapOf (VD P w) v k)(R:∀(L:Nat)(b:Bd),(∀e m I,b=.choose e m I->1<=I.length)->∃(g:Addr)(D:FuncData)(p:Bd->Prop),k (Sum.inr b.word)=some (.ref g)/\Ye P w K Z base CX0 (L+3) g D rps (Xr C CK p)/\p b/\W.keepIn K (.ref g)=true/\Binds K D rps []):
  ∀n,Ye P w K Z base CX0 (n+3) f A wps<|RB C CK n
 |0=>.none λr H Q E h=>by
  obtain⟨_,_,_,_,_,_,_,_,_,_,_,_,_,_,_,_,_,_,_,hd,_⟩:=h;exact Zw _ hd
 |n+1=>(C1 (L:=n) B J y j F (Qn B J y j F S M O q X N z U t G T R n) S M O (q.mono<|by lia) X N (z.mono<|by lia) U (t.up<|by lia) G T<|R n).mono<|by lia
end
end K4
namespace L2
open PySem PySem.Spec PyProof.Rows
end L2
namespace L2
open PySem
def Fun.oi{K:W.Frag}{st:Stmt}(F:Fun K x qual st f T)(S:Yh N O (Yd st))(J:∀(L:Value)(A:Around)(Z:List Env)(s:Shared)(H:Hp)(G:kZ)(Q:VK)(E:XK),Vu k (A.deeper<|PyProof.Rows.envOfC qual (Yd st) s.heap.objs.size f L)->M G H Q E->
   ∃t,PSs (Vf CX0 P w K R base N qual (Yd st) f L A Z s H E).nox (Vw st) t/\t {nx:=λ_ B=>Q .non B,rt:=Q} (start N G) H)(len:∀G H Q E,M G H Q E->G.length=O.length:=by intro G H Q E h;cases h;rfl):Ye P w K R base CX0 (k+1) f T O M:=F.ok S len J
def JH(h:n<=10000):n<sizeLine:=qc h<|by decide
structure Itx(J:It)(H:Hp)(xs:List V):Prop where
 go:∀i,i<xs.length->J.go i H
 stop:J.stop xs.length H
 yld:∀i x H',J.yld i H x H'->H'=H/\xs[i]?=some x
def itl(h:SqL K H a Z):Itx (Itl K a) H Z:=⟨λi J=>⟨Z,Z[i],h,ZD J⟩,⟨Z,h,ZG _⟩,λi x G y=>⟨y.1,y.2 Z h⟩⟩
def itt(h:SqT K H a Z):Itx (Itt K a) H Z:=⟨λi J=>⟨Z,Z[i],h,ZD J⟩,⟨Z,h,ZG _⟩,λi x G y=>⟨y.1,y.2 Z h⟩⟩
def getD{α:Type}{J:List α}{D:α->Dat}{H:Hp}{Z:kZ}{i:Nat}{x:V}(h:HasL H Z (J.map D))(e:Z[i]?=some x):∃u,J[i]?=some u/\Has H x (D u):=by
 obtain⟨d,G,M⟩:=h.get e;rw[ZH]at G;obtain⟨u,L,rfl⟩:=Zj.mp G;exact⟨u,L,M⟩
def Lz{α:Type}{us:List α}{D E:α->Dat}(L:Itx J H M)(O:HasL H M (us.map D))(U:us.length<=10000)(I:∀u x (R:V->Hp->Prop),u∈us->Has H x (D u)->(∀v,Has H v (E u)->R v H)->g x s0 H λB S=>te B S R)(hd:∀Z p G,H p=none->Same H G->G p=some (.lst Z)->HasL G Z (us.map E)->Q (.ref p) G):Ra J g te s0 Q H:=by
 have N:=O.length;rw[ZA]at N;refine Vd M.length (JH<|by lia) (λi Z G=>G=H/\Z.length=i/\HasL H Z ((us.take i).map E)) ⟨rfl,rfl,Z6⟩ (λi Z G z=>z.2.1) ?_ ?_ ?_ ?_
 .rintro i Z G hi ⟨rfl,_⟩
  exact L.go i hi
 .rintro Z G ⟨rfl,_⟩
  exact L.stop
 .rintro i Z G x H'' R hi ⟨rfl,z2,z3⟩ yl rT
  obtain⟨rfl,y⟩:=L.yld i x H'' yl;obtain⟨u,T,A⟩:=getD O y;refine I u x R (ZJ T) A λv F=>rT _ _ ⟨Y,by rw[ZL,z2];rfl,?_⟩;rw[take_snoc T,ZK];exact Z7 z3<|Z5 F
 .rintro Z G p ⟨rfl,z2,z3⟩ hp
  rw[Zg (jF N.symm)]at z3;exact hd Z p _ hp (Ys hp _) Yf<|z3.mono<|Ys hp _
def UW{α:Type}{us:List α}{D F:α->Dat}(O:∀Z,Same H Z->Itx J Z T)(A:HasL H T (us.map D))(P:us.length<=10000)(U:∀u x N (R:V->Hp->Prop),u∈us->Same H N->Has N x (D u)->(∀v M,Same N M->Has M v (F u)->R v M)->g x s0 N λL X=>te L X R)(hd:∀G q Z,H q=none->Same H Z->Z q=some (.lst G)->HasL Z G (us.map F)->Q (.ref q) Z):Ra J g te s0 Q H:=by
 have E:=A.length;rw[ZA]at E;refine Vd T.length (JH<|by lia) (λi G Z=>Same H Z/\G.length=i/\HasL Z G ((us.take i).map F)) ⟨Z8 _,rfl,Z6⟩ (λi G Z z=>z.2.1) ?_ ?_ ?_ ?_
 .rintro i G Z hi ⟨s,_⟩
  exact(O Z s).go i hi
 .rintro G Z ⟨s,_⟩
  exact(O Z s).stop
 .rintro i G Z x H'' R hi ⟨s,z2,z3⟩ yl rT
  obtain⟨rfl,y⟩:=(O Z s).yld i x H'' yl;obtain⟨u,I,S⟩:=getD A y;refine U u x _ R (ZJ I) s (S.mono s) λv M B C=>rT _ _ ⟨s.trans B,by rw[ZL,z2];rfl,?_⟩;rw[take_snoc I,ZK];exact Z7 (z3.mono B)<|Z5 C
 .rintro G Z q ⟨s,z2,z3⟩ hq
  rw[Zg (jF E.symm)]at z3;have L:=Ys hq<|.lst G;exact hd G q _ (s.free hq) (s.trans L) Yf<|z3.mono L
def UI{K:W.Frag}{Q:VK}(O:Has H x (Js Z))(L:Has H y (Js J))(n:J≠[])(l:Z.length+J.length<=1000)(q:∀u G,Same H G->Has G u (Js<|Z++ J)->Q u G):UT K x y H Q\/US K x y H Q:=by
 obtain⟨a,rfl,N⟩:=Jk O;obtain⟨b,rfl,M⟩:=Jk L
 cases Z with
 |nil=>exact .inl ⟨a,b,_,Y,Y,Z2 N,Z2 M,q _ H (Z8 _) L⟩
 |cons w Z=>
  refine .inr ⟨a,b,_,_,Y,Y,Z2 N,Z2 M,(by simp),?_,(λz=>Zr (List.map_eq_nil_iff.mp z) n),λ_ p R=>?_⟩
  .rw [ZA,ZA];exact Zh<|Y1 l
  .exact q _ _ (Ys R _) (Jc<|by rw[Yf,ZK])
def UG(h:H a=some (.tup [.int k])):Has H (.ref a) (Js [k]):=Jc h
end L2
namespace K4
open PySem L2
section
def Od:Yh ["worth","way","part","number"] ["worth","way"] (Yd MF):=Y2
inductive SPO(H:Hp)(Q:VK):List V->Prop
 |mk (v y:V) (wo:W) (ws:List Int) (hv:Has H v wo.dat) (hy:Has H y (Js ws)) (hw:Way ws) (q:∀u,Has H u (wo.part ws).dat->Q u H):SPO H Q [v,y]
def SU:Sp:=λZ H Q _=>SPO H Q Z
def Cv(B:Blt R)(F:Fun K "part_of" "part_of" MF f X):Ye P w K R base CX0 (n+1) f X ["worth","way"] SU:=by
 refine F.oi Od λm A L s H d Q E l h=>?_;obtain⟨v,y,N,G,I,T,D,q⟩:=h;obtain⟨a,rfl,O⟩:=Jk T;refine⟨_,YY (Yz 2 Od.nd<|pv 0) (YY (Ja Zv rfl (J9<|pv 1) (Ym 3 Od.nd)
  (YY (Y3 (JZ<|Vz<|We rfl B.isi rfl B.tuple Vm (pv 2)) (YZ<|Yi Vx) Yo)<|YZ<|Yz 2 Od.nd<|Yk Yq (pv 2) (pv 3) λ_ _=>rfl))
  (YZ<|Yi<|pv 2)),?_⟩
 dsimp only[Vf,Cx.nox,Cx.wish];exists ⟨_,Z2 O⟩;refine Ec (xs:=G.map V.int) (λi U J=>J=H/\∃u z Z,U=[some v,some<|.ref a,some u,z]/\Has H u Z.dat/\Z.part (G.drop i)=N.part G) ⟨rfl,v,none,N,rfl,I,rfl⟩ ?_ ?_ ?_
 .rintro i U J _ ⟨rfl,_⟩
  exact Z2 O
 .rintro i x U J hx ⟨rfl,u,z,Z,rfl,hu,e⟩
  obtain⟨n,r,rfl,M,j,C⟩:=RN hx;have t:=Mh (K:=K) hu;exists _,_,_,_,Y,t,Mc K _ (by simp),_,Y
  cases Z with
  |non=>
   refine VG (by simp[isD,tyD,W.dat])<|q _ ?_;rw[<-e,M];unfold W.part;exact Mi
  |tag y=>
   refine VG (by simp[isD,tyD,W.dat])<|q _ ?_;rw[<-e,M];unfold W.part;exact Mi
  |pair b c=>
   refine Y0 (by simp[isD,tyD,W.dat]) ?_;obtain⟨p,k,g,rfl,S,h1,o⟩:=WB hu;exists _,_,Z2 S,PF<|D n C,rfl,_,_,(if n=0 then b else c),rfl,?_
   .split <;> assumption
   .rw [<-e,M,j]
    conv=>rhs;unfold W.part
    split <;> rfl
 .rintro U J ⟨rfl,u,z,Z,rfl,hu,e⟩
  refine q _ ?_;rw[ZA,List.drop_length]at e;rw[<-e];cases Z <;> (unfold W.part;exact hu)
end
end K4
namespace L2
open PySem
end L2
namespace K4
open PySem L2
end K4
namespace L2
open PySem
theorem L5:∀{bs:List Bool}{Z:kZ},HasL H Z (bs.map Dat.bl)->Z=bs.map V.bl
 |[],[],_=>rfl
 |[],_::_,h=>by unfold HasL at h;exact h.elim
 |_::_,[],h=>by rw[ZV]at h;unfold HasL at h;exact h.elim
 |b::bs,x::xs,h=>by
  rw[ZV]at h;unfold HasL at h;obtain⟨J,G⟩:=h;unfold Has at J;rw[J,L5 G];rfl
end L2
namespace K4
open PySem L2
section
def Jo:bootBuiltins "list"=some (.type "list"):=by decide +kernel
end
end K4
namespace L2
open PySem
end L2
namespace K4
open PySem L2
end K4
namespace L2
open PySem
end L2
namespace K4
open PySem L2
end K4
namespace L2
open PySem
end L2
namespace K4
open PySem L2
end K4
namespace L2
open PySem
def okW(ks:pi):W->Str->Prop
 |.non,_=>True
 |.tag x,y=>∃ts,Vh ks y=some (.tags ts)/\x∈ts
 |.pair u v,y=>∃a b,Vh ks y=some (.pair a b)/\okW ks u a/\okW ks v b
end L2
namespace K4
open PySem L2
section
variable{CK:Addr}
def Ap(A:KA6):(Tf A).lookup ("is_worth":Str)=none:=rfl
abbrev iwp:kQ:=["self","kind","thing"]
def QX:Yh ["self","kind","thing","shape"] iwp (Yd Xv):=Y2
inductive zt(CK:Addr)(n:Nat)(H:Hp)(Q:VK):List V->Prop
 |mk (t:Addr) (y:Str) (v:V) (ks:List (Str×Shp)) (d:Str->Nat) (wo:W) (ki:KI H CK t ks d) (hv:Has H v wo.dat) (ok:okW ks wo y) (dn:wo.dep<n) (q:Q (.bl true) H):zt CK n H Q [.ref t,.str y,v]
def ND(CK:Addr)(n:Nat):Sp:=λZ H Q _=>zt CK n H Q Z
def AE(B:Blt c)(T:KCl K CK)(F:Fun K "is_worth" "Kinds.is_worth" Xv f m)(G:Ye P w K c base CX0 L f m iwp (ND CK n))(bG:Binds K m iwp [])(r:VJ K CK "is_worth" f):Ye P w K c base CX0 (L+1) f m iwp (ND CK<|n+1):=by
 refine F.oi QX λJ2 A R s H vs Q E C h=>?_;obtain⟨t,y,v,l,d,wo,i,N,O,dn,q⟩:=h;have hu:=JQ C;refine⟨_,YY (Y3 (Yp Wh (pv 2) Vx<|Yx _) (YZ<|Yi<|X0) Yo)
  (YY (Yz 3 QX.nd<|JX hu (Yt (pv 0) rfl) (pv 1) λ_ _=>rfl)
  (YY (Y3 (Yp VX (Yk Yq (pv 3)<|Ya) Yr<|Yx _) (YZ<|Yi<|Xg (We rfl B.isi rfl B.str Wv (pv 2))<|Ux<|V6 XI (pv 2) (Yk Yq (pv 3)<|Ya) rfl) Yo)
  (YY (Y3 (PW.pt<|UD (JZ<|Vz<|We rfl B.isi rfl B.tuple Vm (pv 2))<|Jn<|Yp UF (Y9 Yw rfl B.len Zu (pa1<|pv 2)) Ya<|Yx _) (YZ<|Yi<|X0) Yo)
  (YZ<|Yi<|Xg (Y6 (pv 0) T.cl r G C bG .nil Y4<|pa2 (Yk Yq (pv 3)<|Ya)<|Yk Yq (pv 2)<|Ya)<|Ux<|Y6 (pv 0) T.cl r G C bG .nil Y4<|pa2 (Yk Yq (pv 3)<|Ya)<|Yk Yq (pv 2)<|Ya)))),?_⟩
 dsimp only[Vf,Cx.nox,Cx.wish];show let T0:=_;let T1:=_;let T2:=Yl (VF _ T1 _) T0;let T3:=_;let T4:=Yl (VF _ T3 _) T2;let T5:=Yl _ T4;let T6:=_;Yl (VF _ T6 _) T5 _ _ _
 intros
 have M:=i;obtain⟨A',S,rfl,Z,o⟩:=i
 cases wo with
 |non=>
  have e:v=.non:=by unfold W.dat Has at N;exact N
  subst e;exact⟨Y,_,Y,VG Y q⟩
 |tag x=>
  have e:v=.str x:=has_str N;subst e;unfold okW at O;obtain⟨ts,U,hm⟩:=O;refine⟨Y,_,Y,Y0 (by simp) ?_⟩;obtain⟨v0,g1,z⟩:=WW Z o U;obtain⟨b,k,rfl,J,I⟩:=X9 z;exists CK,_,_,_,Z.ins,T.cl,T.sh,FX _,_,g1;refine⟨_,.str "tags",Z2 J,VE (j:=0) Y,Y,_,Y,VG (by decide +kernel) ?_⟩;refine⟨_,_,_,_,Y,.str x,TR K "str",_,Y,VG Y ?_⟩;exists _,.ref k,Z2 J,VE (j:=1) Y,k,_,Y,.inr<|Z2 I,rfl,J5 _;rw[UU x ts,decide_eq_true hm];exact q
 |pair u g=>
  have D:=N;obtain⟨p,x1,x2,rfl,X,h1,h2⟩:=WB N;unfold okW at O;obtain⟨a,b,U,o1,o2⟩:=O;have da:u.dep<n:=by unfold W.dep at dn;lia
  have db:g.dep<n:=by unfold W.dep at dn;lia
  refine⟨Y,_,Y,Y0 (by simp) ?_⟩;obtain⟨v0,g1,z⟩:=WW Z o U;obtain⟨b',rfl,J⟩:=Xk z;exists CK,_,_,_,Z.ins,T.cl,T.sh,FX _,_,g1;refine⟨_,.str "pair",Z2 J,VE (j:=0) Y,Y,_,Y,Y0 (by decide +kernel) ?_⟩;refine⟨_,_,_,_,Y,Mh (K:=K) D,Mc K _ (by simp),_,Y,Y0 (by simp[isD,tyD,W.dat]) ?_⟩;refine⟨p,_,Y,.inr<|Z2 X,rfl,_,rfl,Y0 (by simp) ?_⟩;exists _,_,Z.ins,Ap _,_,_,Z2 J,VE (j:=1) Y,_,_,Z2 X,VE (j:=0) Y;refine⟨_,a,x1,l,d,u,M,h1,o1,da,_,Y,VG Y ?_⟩;exists _,_,Z.ins,Ap _,_,_,Z2 J,VE (j:=2) Y,_,_,Z2 X,VE (j:=1) Y;exact⟨_,b,x2,l,d,g,M,h2,o2,db,q⟩
theorem LI(B:Blt L)(T:KCl K CK)(F:Fun K "is_worth" "Kinds.is_worth" Xv f J)(G:Binds K J iwp [])(Z:VJ K CK "is_worth" f):∀n:Nat,Ye P w K L base CX0 (n+1) f J iwp<|ND CK n
 |0=>.none λO H Q E h=>by
  obtain⟨t,y,v,D,d,N,A,I,R,M,q⟩:=h;exact Zr M<|by lia
 |n+1=>AE B T F (LI B T F G Z n) G Z
end
end K4
namespace L2
open PySem
def Fc{K:W.Frag}(T:∀Z,Same H Z->Sq K t1 Z a L)(O:∀Z,Same H Z->Sq K t2 Z b G)(C:L.length=n)(U:G.length=n)(X:n<=100)(A:∀(i:Nat) x y r N (R:V->Hp->Prop),L[i]?=some x->G[i]?=some y->Same H N->N r=some (.tup [x,y])->R (.bl true) N->g (.ref r) s0 N λM S=>te M S R)(hd:∀p Z,H p=none->Same H Z->Z p=some (.lst<|(List.replicate n true).map V.bl)->Q (.ref p) Z):Ra (Itz K t1 a t2 b) g te s0 Q H:=by
 refine Vd n (JH<|by lia) (λi J Z=>Same H Z/\J.length=i/\J=(List.replicate i true).map V.bl) ⟨Z8 _,rfl,rfl⟩ (λi J Z z=>z.2.1) ?_ ?_ ?_ ?_
 .rintro i J Z hi ⟨s,_⟩
  exact⟨L,G,L[i]'(by lia),G[i]'(by lia),T Z s,O Z s,ZD _,ZD _⟩
 .rintro J Z ⟨s,_⟩
  exact⟨L,G,T Z s,O Z s,.inr<|by lia⟩
 .rintro i J Z x H'' R hi ⟨s,z2,z3⟩ yl rT
  obtain⟨r,D,B,rfl,I,rfl,F,E⟩:=yl;have M:=Ys I<|.tup [D,B];refine A i D B r _ R (F L<|T Z s) (E G<|O Z s) (s.trans M) Yf<|rT _ _ ⟨s.trans M,by rw[ZL,z2];rfl,?_⟩;rw[z3,List.replicate_succ',ZK];rfl
 .rintro J Z p ⟨s,z2,z3⟩ hp
  have M:=Ys hp<|.lst J;exact hd p _ (s.free hp) (s.trans M)<|by rw[Yf,z3]
def Px{K:W.Frag}:∀x U H (Q Z:pe),(∀a b,Q a b->Z a b)->Nd K 2 (Jl (Vv i)<|Jl (Vv j) Td) x U H Q->Nd K 2 (Jl (Vv i)<|Jl (Vv j) Td) x U H Z:=λx U H Q Z h q=>by
 match x,q with
 |.ref a,q=>
  obtain⟨J,L,G,q⟩:=q;exists J,L,G
  match J,G,q with
  |[u,v],_,q=>exact h _ _ q
def zV{K:W.Frag}:GK 3 (Nd K 2<|Jl (Nd K 2<|Jl (Vv 0)<|Jl (Vv 1) Td)<|Jl (Vv 2) Td):=
 DU (XO (DU (XO (Vc (i:=0)<|by decide) (XO (Vc (i:=1)<|by decide) DV (λ_ _ _ _ _ h z=>h _ _ z) (λx _ _ _ _ h z=>by
  match x,z with
  |[],z=>exact h _ _ z)) (λ_ _ _ _ _ h z=>h _ _ z) (λx _ _ _ _ h z=>by
  match x,z with
  |[v],z=>exact h _ _ z))) (XO (Vc (i:=2)<|by decide) DV (λ_ _ _ _ _ h z=>h _ _ z) (λx _ _ _ _ h z=>by
  match x,z with
  |[],z=>exact h _ _ z)) Px (λx _ _ _ _ h z=>by
  match x,z with
  |[v],z=>exact h _ _ z))
end L2
namespace K4
open PySem L2
section
variable{C CK:Addr}
def Oo:Yh ["self","F"] ["self","F"] (Yd Bi):=Y2
inductive OD(C CK:Addr)(H:Hp)(Q:VK):List V->Prop
 |mk (t:Addr) (ks:List (Str×Shp)) (d:Str->Nat) (ds:List Dd) (x:Dd) (b:BI H C CK t ks d ds) (hx:x∈ds) (q:∀v,Has H v x.2.dat->Q v H):OD C CK H Q [.ref t,.str x.1.1]
def Rw(C CK:Addr):Sp:=λZ H Q _=>OD C CK H Q Z
def Kx(T:BCl K C)(F:Fun K "body_of" "Book.body_of" Bi f S)(m:VJ K C "told_of" g)(G:Ye P w K L base CX0 n g I ["self","F"] (Gi C CK))(j:Binds K I ["self","F"] []):Ye P w K L base CX0 (n+1) f S ["self","F"] (Rw C CK):=by
 refine F.oi Oo λX A Z s H k Q E B h=>?_;obtain⟨t,M,d,U,x,b,N,q⟩:=h;obtain⟨z,p,rfl,y⟩:=id b;exists _,YZ<|Yi<|Yk Yq (Y6 (pv 0) T.cl m G B j .nil Y4<|pa1<|pv 1) Ya;refine⟨_,_,y.ins,Am _,z.t,M,d,U,x,Y,b,N,λv R=>?_⟩;obtain⟨a,u,J,rfl,D,_,O⟩:=X8 R;exact⟨_,_,Z2 D,Y,q J O⟩
def yX:Yh ["kinds","parameters","worths"] ["kinds","parameters","worths"] (Yd Xe):=Y2
def B3:List.Nodup [("name":Str),"kind","worth","kinds"]:=by decide +kernel
inductive SRO(CK:Addr)(H:Hp)(Q:VK):List V->Prop
 |mk (so a b:Addr) (us xs:List V) (ks:List (Str×Shp)) (d:Str->Nat) (ps:List (Str×Str)) (wos:List W) (ki:KI H CK so ks d) (ha:H a=some (.tup us)) (hu:HasL H us (ps.map λp=>.tup [.str p.1,.str p.2])) (hb:H b=some (.tup xs)) (hx:HasL H xs (wos.map W.dat))
  (ln:wos.length=ps.length) (l3:ps.length<=3) (ok:∀(i:Nat)(p:Str×Str)(u:W),ps[i]?=some p->wos[i]?=some u->okW ks u p.2/\u.dep<3) (q:∀H',Same H H'->Q (.bl true) H'):SRO CK H Q [.ref so,.ref a,.ref b]
def SS(CK:Addr):Sp:=λZ H Q _=>SRO CK H Q Z
def Cu(B:Blt k)(T:KCl K CK)(F:Fun K "is_row_over" "is_row_over" Xe f fd)(m:VJ K CK "is_worth" g)(G:Ye P w K k base CX0 n g gd iwp (ND CK 3))(bG:Binds K gd iwp []):Ye P w K k base CX0 (n+1) f fd ["kinds","parameters","worths"] (SS CK):=by
 refine F.oi yX λG1 A J s H vs Q E hr h=>?_;obtain⟨so,a,b,us,xs,ks,d,z,J2,u,X,l,U,v,ln,l3,ok,q⟩:=h;refine⟨_,YY (Y3 (Yp UF (Y9 Yw Y B.len Zu (pa1<|pv 2)) (Y9 Yw rfl B.len Zu (pa1<|pv 1))<|Yx _) (YZ<|Yi<|X0) Yo)
  (YZ<|Yi<|Y9 (Nq rfl) rfl B.all RT (pa1<|JF ["name","kind","worth"] [0] (S4 rfl B.zip (pa2 (pv 1)<|pv 2)) zV (λcl C o s H=>Ve (n:=2) rfl (Yn (Ve (n:=2) rfl (Yn (Ym 0 B3 rfl (Or.inl rfl) (Or.inr rfl))<|Yn (Ym 1 B3 rfl (Or.inl rfl) (Or.inr rfl)) VM))<|Yn (Ym 2 B3 rfl (Or.inl rfl) (Or.inr rfl)) VM)) λcl C o s H=>Y6 (pv 3) T.cl m G hr bG .nil Y4<|pa2 (pv 1)<|pv 2)),?_⟩
 dsimp only[Vf,Cx.nox,Cx.wish];show let T0:=_;let T1:=_;Yl (VF _ T1 _) T0 _ _ _
 intros
 have L:=l.length;have c:=v.length;rw[ZA]at L c;refine⟨b,_,Y,.inr<|Z2 U,a,_,rfl,.inr<|Z2 X,rfl,_,rfl,Y0 (by simp[L,c,ln]) ?_⟩;exists a,b,true,true,us,xs,Y,Z2 X,Z2 U;refine Fc (n:=z.length) (λH' s=>Z2<|s _ _ X) (λH' s=>Z2<|s _ _ U) L (by lia) (by lia) (λi x y r H1 R hi hj Z N hR=>?_) λp H' o Z hp=>?_
 .obtain ⟨pr,hpr,hd1⟩:=getD l hi
  obtain⟨j,M,I⟩:=getD v hj;obtain⟨t,ys,rfl,ht,hl⟩:=Yu hd1;obtain⟨x1,r1,rfl,e1,D⟩:=Yc hl;obtain⟨x2,r2,rfl,e2,O⟩:=Yc D;obtain rfl:=VC O;obtain rfl:=has_str e1;obtain rfl:=has_str e2;obtain⟨o1,o2⟩:=ok i pr j hpr M;obtain⟨A',S,eA,kd,kr⟩:=id<|u.mono Z;subst eA;exists _,Z2 N,Y,_,Z2<|Z _ _ ht,rfl;exact⟨_,_,kd.ins,Ap _,_,pr.2,y,ks,d,j,u.mono Z,I.mono Z,o1,o2,hR⟩
 .refine ⟨p,_,rfl,Z3 hp,?_⟩
  have e:(List.replicate z.length true).all id=true:=by simp
  rw[e];exact q _ Z
end
section
variable{C CK:Addr}
abbrev bfw:kQ:=["book","F","worths"]
def vD(A:BA):(UK A).lookup ("kinds":Str)=none:=rfl
def zX(A:BA):(UK A).lookup ("parameters":Str)=none:=rfl
def yb:Yh bfw bfw (Yd Wc):=Y2
def yh:Yh bfw bfw (Yd UZ):=Y2
def yg:Yh ["most","highest"] ["most","highest"] (Yd Xf):=Y2
inductive SIA(C CK:Addr)(r:V)(H:Hp)(Q:VK):List V->Prop
 |mk (t b:Addr) (xs:List V) (ks:List (Str×Shp)) (d:Str->Nat) (ds:List Dd) (x:Dd) (wos:List W) (bi:BI H C CK t ks d ds) (hx:x∈ds) (hb:H b=some (.tup xs)) (hw:HasL H xs (wos.map W.dat))
  (ln:wos.length=x.1.2.1.length) (l3:x.1.2.1.length<=3) (ok:∀(i:Nat)(p:Str×Str)(u:W),x.1.2.1[i]?=some p->wos[i]?=some u->okW ks u p.2/\u.dep<3) (q:∀H',Same H H'->Q r H'):SIA C CK r H Q [.ref t,.str x.1.1,.ref b]
def BF(C CK:Addr)(r:V):Sp:=λZ H Q _=>SIA C CK r H Q Z
def C2(D:BCl K C)(F:Fun K "is_asking" "is_asking" Wc f fd)(c:VJ K C "names" g1)(G1:Ye P w K L base CX0 n g1 d1 ["self"] (Uw C CK))(b1:Binds K d1 ["self"] [])(p:VJ K C "kinds" g2)(G2:Ye P w K L base CX0 n g2 d2 ["self"] (Je C CK))(b2:Binds K d2 ["self"] [])(k:VJ K C "parameters" g3)(G3:Ye P w K L base CX0 n g3 d3 ["self","F"] (Gk C CK))(b3:Binds K d3 ["self","F"] [])(DR:Df P w K L base n "is_row_over" ["kinds","parameters","worths"] (SS CK)):Ye P w K L base CX0 (n+1) f fd bfw (BF C CK<|.bl true):=by
 refine F.oi yb λJ2 A R s H vs Q E N h=>?_;obtain⟨t,b,j,M,d,J,x,O,T,S,hb,o,u,r,g,q⟩:=h;exists _,YZ<|Yi<|Xg (V6 XI (pv 1) (Vp (pv 0) D.cl c G1 N b1 .nil Y4) rfl)<|Ux<|VW DR N<|pa3 (Vp (pv 0) D.cl p G2 N b2 .nil Y4) (Y6 (pv 0) D.cl k G3 N b3 .nil Y4<|pa1<|pv 1)<|pv 2;dsimp only[Vf,Cx.nox,Cx.wish];obtain⟨I,kv,rfl,B⟩:=id T;refine⟨_,_,B.ins,zY _,I.t,M,d,J,Y,T,λl H1 Z fl X=>?_⟩;have el:(J.map λx=>V.str x.1.1)=(J.map λx=>x.1.1).map V.str:=by rw[vi];rfl
 rw[el]at X;exists l,_,Y,.inl<|Z3 X,rfl,J5 _;rw[UU,decide_eq_true (ZW.mpr ⟨x,S,rfl⟩)];refine⟨_,Y,VG Y ?_⟩;have G:=T.mono Z;refine⟨_,_,Z _ _ B.ins,vD _,I.t,M,d,J,Y,G,λz e=>?_⟩;refine⟨_,_,Z _ _ B.ins,zX _,I.t,M,d,J,x,Y,G,S,λv U=>?_⟩;unfold psD at U;obtain⟨a,y,rfl,ha,i⟩:=Yu U;exact⟨z,a,b,y,j,M,d,x.1.2.1,O,e,ha,i,Z _ _ hb,o.mono Z,u,r,g,λH2 m=>q _<|Z.trans m⟩
def C7(F:Fun K "check_asking" "check_asking" UZ f U)(m:Df P w K N base n "is_asking" bfw (BF C CK<|.bl true)):Ye P w K N base CX0 (n+1) f U bfw (BF C CK .non):=by
 refine F.oi yh λj A J s H g Q E I h=>?_;obtain⟨t,b,G,T,d,X,x,Z,y,B,S,D,O,R,M,q⟩:=h;exists _,YZ<|Y3 (JZ<|Vz<|VW m I<|pa3 (pv 0) (pv 1)<|pv 2) (YZ<|JT) Yo;show let z:=_;VF _ z _ _ _ _
 intros
 exact⟨t,b,G,T,d,X,x,Z,y,B,S,D,O,R,M,λk L=>⟨_,Y,Y0 (by simp)<|q _ L⟩⟩
inductive SCM(H:Hp)(Q:VK):List V->Prop
 |mk (a b:Int) (h1:1<=a) (h2:a<=b) (q:Q .non H):SCM H Q [.int a,.int b]
def OZ:Sp:=λZ H Q _=>SCM H Q Z
def C6(F:Fun K "check_most" "check_most" Xf f L):Ye P w K R base CX0 (n+1) f L ["most","highest"] OZ:=by
 refine F.oi yg λM A Z s H O Q E T h=>?_;obtain⟨a,b,G,J,q⟩:=h;exists _,YZ<|Y3 (JZ<|Xx XT XT Ya (pv 0)<|pv 1) (YZ<|JT) Yo;show let N:=_;VF _ N _ _ _ _
 intros
 exact⟨_,Y,VG (decide_eq_true G) ⟨_,Y,Y0 (by simp[J]) q⟩⟩
end
end K4
namespace L2
open PySem
structure GA where
 t:Addr
 dx:Addr
 bk:Addr
 gv:Addr
 bs:Addr
 nu:Addr
 st:Addr
 gs:List Str
def Ut(A:GA):List (Str×V):=[("book",.ref A.bk),("given",.ref A.gv),("births",.ref A.bs),("numbers",.ref A.nu),("starts",.ref A.st)]
structure GCl(K:W.Frag)(C:Addr):Prop where
 cl:Cls K C
 bk:VI K C "book"
 gv:VI K C "given"
 bs:VI K C "births"
 nu:VI K C "numbers"
 st:VI K C "starts"
def Qr(A:GA):(Ut A).lookup ("given":Str)=some (V.ref A.gv):=rfl
def zW(A:GA):(Ut A).lookup ("part_given":Str)=none:=rfl
structure GV(H:Hp)(C:Addr)(A:GA)(wos:List W):Prop where
 ins:H A.t=some (.ins C A.dx (Ut A))
 gv:∃xs,H A.gv=some (.tup xs)/\HasL H xs (wos.map W.dat)
def GV.mono(g:GV H C A wos)(s:Same H L):GV L C A wos:=⟨s _ _ g.ins,let⟨Z,G,J⟩:=g.gv;⟨Z,s _ _ G,J.mono s⟩⟩
def Ta(i:Nat)(ws:kT):Dat:=.tup [.str "given",.int (i:Nat),Js ws]
def hgD(i:Nat)(ws:kT):W->Dat
 |.non=>.tup [.str "never",.int (i:Nat),Js ws]
 |.tag t=>.tup [.str "head",.tup [.str "tag",.str t]]
 |.pair _ _=>.tup [.str "head",.tup [.str "pair",Ta i<|ws++[0],Ta i (ws++[1])]]
def Mm(h:H t=some (.tup [.str "given",.int (k:Nat),u]))(J:Has H u (Js Z)):Has H (.ref t) (Ta k Z):=by
 unfold Ta;exact Yv h<|Z4 Y5<|Z4 (by unfold Has;rfl)<|Z5 J
theorem Tl:∀Z:List Bool,(∀b∈Z,b=false)->Z.any id=false
 |[],_=>rfl
 |b::Z,h=>by
  rw[jj,h b Za,Tl Z λc J=>h c (ZM _ J)];rfl
end L2
namespace K4
open PySem L2
section
variable{C:Addr}
abbrev iwy:kQ:=["self","i","way"]
def yY:Yh iwy iwy (Yd Xl):=Y2
def zB:List.Nodup [("number":Str)]:=by decide +kernel
inductive SPG(C:Addr)(H:Hp)(Q:VK):List V->Prop
 |mk (A:GA) (wos:List W) (i:Nat) (wo:W) (y:V) (ws:List Int) (g:GV H C A wos) (hi:wos[i]?=some wo) (l3:wos.length<=3) (hy:Has H y (Js ws)) (hw:Way ws) (lw:ws.length<=100) (q:∀u H',Same H H'->Has H' u (wo.part ws).dat->Q u H'):SPG C H Q [.ref A.t,.int (i:Nat),y]
def SV(C:Addr):Sp:=λZ H Q _=>SPG C H Q Z
def Cw(B:Blt T)(ma:T "any"=none)(TG:GCl K C)(F:Fun K "part_given" "Ground.part_given" Xl f fd)(DP:Df P w K T base n "part_of" ["worth","way"] SU):Ye P w K T base CX0 (n+1) f fd iwy (SV C):=by
 refine F.oi yY λJ2 A O s H vs Q E hr h=>?_;obtain⟨A',N,i,j,y,L,g,d,l3,z,c,lw,q⟩:=h;refine⟨_,YY (Y3 (PW.pt<|UD (JZ<|Xx XT Co Ya (pv 1)<|Y9 Yw rfl B.len Zu (pa1<|Yt (pv 0) rfl))<|Jn<|Vz<|Y9 (RP rfl) rfl ma RS (pa1<|JF ["number"] [] (J9<|pv 2) (Vc (i:=0)<|by decide) (λcl C o s H=>Ym 0 zB rfl (Or.inl rfl) (Or.inr rfl)) λcl C o s H=>V6 (r:=rIn K true) Jg (pv 0) (Yj<|pa2 Ya Ya)<|by rfl)) (YZ<|Yi<|Vx) Yo)
  (YZ<|Yi<|VW DP hr<|pa2 (Yk Yq (Yt (pv 0) rfl) (pv 1) λ_ _=>rfl)<|pv 2),?_⟩
 dsimp only[Vf,Cx.nox,Cx.wish];show let T0:=_;let T1:=_;Yl (VF _ T1 _) T0 _ _ _
 intros
 obtain⟨X,v,m⟩:=g.gv;obtain⟨a,rfl,l⟩:=Jk z;have lx:=m.length;rw[ZA]at lx;have il:i<N.length:=(ZF.mp d).1;refine⟨_,Y,VG (decide_eq_true<|by lia) ?_⟩;refine⟨C,_,_,_,g.ins,TG.cl,TG.gv,Qr _,A'.gv,_,Y,.inr<|Z2 v,_,rfl,Y0 (by simp;lia) ?_⟩;exists ⟨_,Z2 l⟩;refine UW (us:=L) (D:=Dat.int) (F:=λ_=>.bl false) (λH' s=>itt<|Z2<|s _ _ l) (TX L) (by lia) (λk x H1 R hm Z G hR=>?_) λvs p H1 o Z hp U=>?_
 .have e:x=.int k:=by unfold Has at G;exact G
  subst e;refine⟨sl 2,λt ht=>?_⟩;refine up_in ht _ λH2 s2 g2=>⟨t,_,Y,.inr<|Z2 g2,rfl,rfl,hR _ _ s2 ?_⟩;rcases c k hm with rfl|rfl <;> (unfold Has;rfl)
 have e:=L5 (bs:=L.map λ_=>false) (by rw[vi];exact U);refine⟨p,_,Y,Z3 (by rw[hp,e]),_,Y,Y0 (by rw[Tl _ (λb hb=>by obtain⟨_,_,rfl⟩:=ZW.mp hb;rfl)];simp) ?_⟩;have g1:=g.mono Z
 obtain⟨x,S,I⟩:∃x,X[i]?=some x/\Has H x j.dat:=by
  have J:i<X.length:=by lia
  obtain⟨u,M,hd⟩:=getD m<|ZD J;rw[d]at M;cases M;exact⟨_,ZD J,hd⟩
 exists C,_,_,_,g1.ins,TG.cl,TG.gv,Qr _,_,_,Z2<|Z _ _ v,VE S;exact⟨x,_,j,L,I.mono Z,z.mono Z,c,λu M=>q _ _ Z M⟩
def CV:Yh ["self","i","way","worth"] iwy (Yd Xm):=Y2
inductive SHG(C:Addr)(H:Hp)(Q:VK):List V->Prop
 |mk (A:GA) (wos:List W) (i:Nat) (wo:W) (y:V) (ws:List Int) (g:GV H C A wos) (hi:wos[i]?=some wo) (l3:wos.length<=3) (hy:Has H y (Js ws)) (hw:Way ws) (lw:ws.length<=100) (q:∀u H',Same H H'->Has H' u (hgD i ws (wo.part ws))->Q u H'):SHG C H Q [.ref A.t,.int (i:Nat),y]
def SX(C:Addr):Sp:=λZ H Q _=>SHG C H Q Z
def C3(B:Blt mg)(TG:GCl K C)(F:Fun K "head_given" "Ground.head_given" Xm f fd)(m:VJ K C "part_given" g)(G:Ye P w K mg base CX0 n g gd iwy (SV C))(bG:Binds K gd iwy []):Ye P w K mg base CX0 (n+1) f fd iwy (SX C):=by
 refine F.oi CV λG1 A j s H vs Q E hr h=>?_;obtain⟨A',S,i,wo,y,ws,g,hi,l3,hy,hw,lw,q⟩:=h;refine⟨_,YY (Yz 3 CV.nd<|Y6 (pv 0) TG.cl m G hr bG .nil Y4<|pa2 (pv 1)<|pv 2)
  (YY (Y3 (Yp Wh (pv 3) Vx<|Yx _) (YZ<|Yi<|Yj<|pa3 (Yr) (pv 1)<|pv 2) Yo)
  (YY (Y3 (Vz<|We rfl B.isi rfl B.tuple Vm (pv 3)) (YZ<|Yi<|Yj<|pa2 (Yr)<|Yj<|pa3 (Yr) (Yj<|pa3 (Yr) (pv 1)<|VB (r:=λx y H Q=>UT K x y H Q\/US K x y H Q) J0 (pv 2)<|Yj<|pa1<|Ya)<|Yj<|pa3 (Yr) (pv 1)<|VB (r:=λx y H Q=>UT K x y H Q\/US K x y H Q) J0 (pv 2)<|Yj<|pa1<|Ya) Yo)
  (YZ<|Yi<|Yj<|pa2 (Yr)<|Yj<|pa2 (Yr)<|pv 3))),?_⟩
 dsimp only[Vf,Cx.nox,Cx.wish];show let T0:=_;let T1:=_;let T2:=Yl (VF _ T1 _) T0;let T3:=_;let T4:=Yl (VF _ T3 _) T2;Yl _ T4 _ _ _
 intros
 refine⟨_,_,g.ins,zW _,A',S,i,wo,y,ws,g,hi,l3,hy,hw,lw,λu H1 I L=>?_⟩;have J:=hy.mono I;generalize wo.part ws=w' at L q
 cases w' with
 |non=>
  have e:u=.non:=by unfold W.dat Has at L;exact L
  subst e;refine⟨Y,_,Y,VG Y ⟨sl 3,λt ht=>?_⟩⟩;refine up_in ht _ λH2 Z R=>q _ _ (I.trans Z) ?_;unfold hgD;exact Yv R<|Z4 Y5<|Z4 (by unfold Has;rfl)<|Z5<|J.mono Z
 |tag x=>
  have e:u=.str x:=has_str L;subst e;refine⟨Y,_,Y,Y0 (by simp) ?_⟩;refine⟨_,_,_,_,Y,Mh (K:=K) L,Mc K _ (by simp),_,Y,Y0 (by simp[isD,tyD,W.dat]) ⟨sl 2,λt ht=>?_⟩⟩;refine up_in ht _ λH2 Z R=>⟨sl 2,λt' J2=>?_⟩;refine up_in J2 _ λH3 D g3=>q _ _ ((I.trans Z).trans D) ?_;unfold hgD;exact Yv g3<|Z4 Y5<|Z5<|D1<|D _ _ R
 |pair b c=>
  have z:=L;obtain⟨p,x1,x2,rfl,hp,h1,h2⟩:=WB L;refine⟨Y,_,Y,Y0 (by simp) ?_⟩;refine⟨_,_,_,_,Y,Mh (K:=K) z,Mc K _ (by simp),_,Y,VG (by simp[isD,tyD,W.dat]) ⟨sl 1,λt2 a=>?_⟩⟩;refine up_in a _ λH2 Z R=>?_;refine UI (J.mono Z) (UG R) (by simp) (by simp;lia) λu3 H3 D h3=>⟨sl 3,λt4 o=>?_⟩;refine up_in o _ λH4 s4 g4=>⟨sl 1,λt5 l=>?_⟩;refine up_in l _ λH5 s5 g5=>?_;have O:=(((Z.trans D).trans s4).trans s5);refine UI (J.mono O) (UG g5) (by simp) (by simp;lia) λu6 H6 s6 h6=>⟨sl 3,λt7 v=>?_⟩;refine up_in v _ λH7 X g7=>⟨sl 3,λt8 d=>?_⟩;refine up_in d _ λH8 U g8=>⟨sl 2,λt9 k=>?_⟩;refine up_in k _ λH9 T g9=>q _ _ (((((I.trans O).trans s6).trans X).trans U).trans T) ?_;have N:=(((s5.trans s6).trans X).trans U).trans T;have M:=U.trans T;unfold hgD;exact Yv g9<|Z4 Y5<|Z5<|Yv (T _ _ g8)<|Z4 Y5<|Z4 (Mm (N _ _ g4)<|h3.mono<|s4.trans N)<|Z5<|Mm (M _ _ g7)<|h6.mono<|X.trans M
end
section
def XG:Yh ["body","place","part","number"] ["body","place"] (Yd Gx):=Y2
inductive Eu(H:Hp)(Q:VK):List V->Prop
 |mk (v:V) (a:Addr) (b c:Bd) (ws:List Int) (hv:Has H v b.dat) (ok:b.ok) (ha:H a=some (.tup (ws.map V.int))) (hc:b.at ws=some c) (q:∀u H',Same H H'->Has H' u c.dat->Q u H'):Eu H Q [v,.ref a]
def J3:Sp:=λZ H Q _=>Eu H Q Z
def Bz(F:Fun K "part_at" "part_at" Gx f p)(DP:Df P w K X base n "parts" ["body"] Xs):Ye P w K X base CX0 (n+1) f p ["body","place"] J3:=by
 refine F.oi XG λJ2 A L s H vs Q E t h=>?_;obtain⟨v,a,b,c,R,y,C,T,g,q⟩:=h;refine⟨_,YY (Yz 2 XG.nd<|pv 0) (YY (Ja Zv rfl (J9<|pv 1) (Ym 3 XG.nd)
  (YZ<|Yz 2 XG.nd<|Yk Yq (VW DP t<|pa1<|pv 2) (pv 3) λ_ _=>rfl))
  (YZ<|Yi<|pv 2)),?_⟩
 dsimp only[Vf,Cx.nox,Cx.wish];show let T0:=_;let T1:=_;let T2:=Yl (XS _ _ T1) T0;Yl _ T2 _ _ _
 intros
 refine D9 Y ?_;exists ⟨_,Z2 T⟩
 let I:pc:=λi U J=>Same H J/\∃u z Z,U=[some v,some<|.ref a,some u,z]/\Has J u (Bd.dat Z)/\Z.ok/\Z.at (R.drop i)=some c
 refine Th (xs:=R.map V.int) I ⟨Z8 _,v,none,b,Y,y,C,g⟩ (λi U J _ z=>Z2<|z.1 _ _ T) ?_ ?_
 .rintro BB RR i x U J hx ⟨sj,u,z,Z,rfl,hu,okb,e⟩
  obtain⟨m,r,rfl,o,l,hm⟩:=RN hx;rw[o]at e;unfold Bd.at at e
  by_cases hm0:0<=m
  case neg=>rw[Zq hm0]at e;cases e
  rw[Zp hm0]at e
  cases hp:Z.parts[m.toNat]? with
  |none=>rw[hp]at e;cases e
  |some D=>
   rw[hp]at e;refine⟨u,Z,Y,hu,okb,λu2 H2 S k=>?_⟩;obtain⟨p2,xs,rfl,N,O⟩:=Yu k;rw[Z9]at O;have j:=O.length;rw[ZA]at j;have hi:=(ZF.mp hp).1;have G:m.toNat<xs.length:=by lia
   obtain⟨d,hd,M⟩:=getD O<|ZD G;rw[hp]at hd;cases hd;have B:=VE<|ZD G;rw[show((m.toNat:Nat):Int)=m by lia]at B;exact⟨_,xs[m.toNat],Z2 N,B,sj.trans S,_,_,D,Y,M,Bd.ok_parts okb D<|ZJ hp,by rw[l];exact e⟩
 .rintro U J ⟨sj,u,z,Z,rfl,hu,okb,e⟩
  rw[ZA,List.drop_length]at e;unfold Bd.at at e;cases e;exact q u J sj hu
end
end K4
namespace L2
open PySem PySem.Spec PyProof.Rows
def ZI(h:Heap)(z TI TO:Addr)(f0 f1:Value):Prop:=h.get? z=some {cls:=.type "zip",dict:=none,data:=.fields #[f0,f1,.bool false,.ref TI,.ref TO],slots:= #[]}
section
variable{prog:Program}{w:World}{A:Around}{E:kO}{s:Shared}
def Ny{α:Type}{a:Addr}{o:Obj}{m:Option Obj->Sem α}{Q:α->Shared->Prop}(h:s.heap.get? a=some o)(q:wpAny (model prog w) A (m<|some o) Q E s):wpAny (model prog w) A (loadIfAlive a >>=m) Q E s:=by
 intro Γ p Z;show Sem.wp _ Γ (Sem.loadIfAlive a λx=>m x) _ _ p s;rw[Sem.wp_loadIfAlive,h];exact q Γ p Z
def OJ{z TI TO J Z j B T:Addr}{p C:Bool}{k:Nat}{t U:kX}{x y I:Value}{d:Obj}{Q:Option Value->Shared->Prop}(D:ZipApart z TI TO J Z j B)(G:ZI s.heap z TI TO (rawInt T) I)(i:s.heap.get? T=some d)(b:I=.bool false\/I=.bool true)(q:IsPair s.heap TI (.ref J) (.ref Z))(one:SI p s.heap J j k t)(two:SI C s.heap Z B k U)(r:t[k]?=some x)(v:U[k]?=some y)(h:∀g,ZI g z TI TO (rawInt T) (.bool true)->SJ p g J j (k+1)->SJ C g Z B (k+1)->IsPair g s.heap.objs.size x y->g.objs.size=s.heap.objs.size+1->(∀c o,c≠z->c≠J->c≠Z->s.heap.get? c=some o->g.get? c=some o)->Q (some<|.ref s.heap.objs.size) {s with heap:=g}):
  wpAny (model prog w) A (pyNext<|.ref z) Q E s:=by
 have O:s.TypeIs (.ref z) "zip":=⟨_,G,rfl⟩;simp only[pyNext];refine Zl<|qa<|wpAny_callSpecial?_slot (name:=Str.ofString "__next__") O jt<|vz jt O qF ?_<|qz _;refine Zl (m:=field (.ref z) 2)<|Zo G rfl (x:=.bool false) rfl (Zl (m:=field (.ref z) 3)<|Zo G rfl (x:=.ref TI) rfl (Zl<|vW q rfl ?_));refine Zl (m:=Builtin.SmallTypes.ownedTupleIsFree<|.ref z)<|Zl (m:=field (.ref z) 0)<|Zo G rfl (x:=rawInt T) rfl ?_;simp only[rawInt];refine Ny (o:=d) (by simpa using i) ?_;rw[Zq (by simp)];refine Zl (m:=field (.ref z) 1) (Zo G Y (x:=I) Y ?_)
 suffices main:∀g0,ZI g0 z TI TO (rawInt T) (.bool true)->Heap.SameBut z s.heap g0->wpAny (model prog w) A.in1 _ _ _ {s with heap:=g0} by
  rcases b with rfl|rfl
  .rw [Zp (by rfl)]
   refine Zl<|vq G (by simp) λg0 S N=>Zm ?_;rw[Zq (by simp)];exact main g0 S N
  .rw [Zq (by decide)]
   refine Zm ?_;rw[Zq (by simp)];exact main s.heap G ⟨Y,λ_ _=>Y⟩
 intro g0 S N;rw[<-qf];simp only[jA,qd];have u:=one.but N.extBut D.i1z D.l1z;have f:=two.but N.extBut D.i2z D.l2z;refine Zl<|Zl<|Zl<|wpAny_holding (?_:wpAny _ _ (Builtin.SmallTypes.nextOf (.ref J) >>=_) _ _ _);refine Zl<|XF (s:={s with heap:=g0}) u D.l1i1 r λF a M=>Zm<|Zm ?_;replace M:Heap.SameBut J g0 F:=M;have P:SI C F Z B k U:=f.but M.extBut D.i12.symm D.l2i1;refine Zl<|Zl<|wpAny_holding (?_:wpAny _ _ (Builtin.SmallTypes.nextOf (.ref Z) >>=_) _ _ _);refine Zl<|XF (s:={s with heap:=F}) P D.l2i2 v λR n L=>Zm<|Zm<|Zm ?_;replace L:Heap.SameBut Z F R:=L;refine Zl<|wpAny_newTuple (hsz:=by show 2<=sizeLine;decide)<|Zm ⟨_,rfl,Zm ?_⟩;have X:R.objs.size=s.heap.objs.size:=by rw[L.1,M.1,N.1]
 show Q (some<|.ref R.objs.size) _;have l:=h<|R.push {cls:=.type "tuple",data:=.seq #[x,y]};rw[X];refine l (ZE _<|L.extBut _ _ D.i2z.symm<|M.extBut _ _ D.i1z.symm S) ?_ ?_ ?_ (by rw[jd,X]) ?_
 .exact (a.sj.to λo e=>L.extBut _ _ D.i12 e).to λo e=>ZE _ e
 .exact n.sj.to λo e=>ZE _ e
 .have:=ZY R (o:={cls:=.type "tuple",data:=.seq #[x,y]}) rfl
  rw[X]at this;exact this
 .intro c o c1 c2 c3 e
  exact ZE _<|L.extBut _ _ c3<|M.extBut _ _ c2<|N.extBut _ _ c1 e
def Q0{z TI TO J O I C T:Addr}{S v:Bool}{k:Nat}{B:kX}{M:Value}{F:Obj}{Q:Option Value->Shared->Prop}(j:A.handled=none)(D:ZipApart z TI TO J O I C)(Z:ZI s.heap z TI TO (rawInt T) M)(t:s.heap.get? T=some F)(y:M=.bool false\/M=.bool true)(N:IsPair s.heap TI (.ref J) (.ref O))(one:SI S s.heap J I k B)(X:B[k]?=none)(p:∀g,(∀c o,c≠z->c≠J->c≠O->s.heap.get? c=some o->g.get? c=some o)->Q none {s with heap:=g}):wpAny (model prog w) A (pyNext<|.ref z) Q E s:=by
 have G:s.TypeIs (.ref z) "zip":=⟨_,Z,rfl⟩;simp only[pyNext];refine Zl<|qa<|wpAny_callSpecial?_slot (name:=Str.ofString "__next__") G jt<|vz jt G qF ?_<|qz _;refine Zl (m:=field (.ref z) 2)<|Zo Z rfl (x:=.bool false) rfl (Zl (m:=field (.ref z) 3)<|Zo Z rfl (x:=.ref TI) rfl (Zl<|vW N rfl ?_));refine Zl (m:=Builtin.SmallTypes.ownedTupleIsFree<|.ref z)<|Zl (m:=field (.ref z) 0)<|Zo Z rfl (x:=rawInt T) rfl ?_;simp only[rawInt];refine Ny (o:=F) (by simpa using t) ?_;rw[Zq (by simp)];refine Zl (m:=field (.ref z) 1) (Zo Z Y (x:=M) Y ?_)
 suffices main:∀g0,ZI g0 z TI TO (rawInt T) (.bool true)->Heap.SameBut z s.heap g0->wpAny (model prog w) A.in1 _ _ _ {s with heap:=g0} by
  rcases y with rfl|rfl
  .rw [Zp (by rfl)]
   refine Zl<|vq Z (by simp) λg0 R L=>Zm ?_;rw[Zq (by simp)];exact main g0 R L
  .rw [Zq (by decide)]
   refine Zm ?_;rw[Zq (by simp)];exact main s.heap Z ⟨Y,λ_ _=>Y⟩
 intro g0 R L;rw[<-qf];simp only[jA,qd];have U:=one.but L.extBut D.i1z D.l1z;refine Zl<|Zl<|Zl<|wpAny_holding (?_:wpAny _ _ (Builtin.SmallTypes.nextOf (.ref J) >>=_) _ _ _);refine Zl<|R9 (s:={s with heap:=g0}) j U X λr e d ⟨o,P,q⟩=>?_;refine Zl<|j9 (T:="StopIteration") (b:=true) ⟨o,P,q⟩ isSubtype_stop<|Zm<|p _ ?_;intro c o u f c3 e;exact d _ _ f<|L.extBut _ _ u e
end
def ZC(h:Heap)(z TI TO:Addr)(t1:Bool)(i1 l1:Addr)(t2:Bool)(i2 l2:Addr)(i:Nat):Prop:=
 IsPair h TI (.ref i1) (.ref i2)/\SJ t1 h i1 l1 i/\SJ t2 h i2 l2 i/\((IsZip h z TI TO .none/\∃a b,IsPair h TO a b) \/ ∃(T:Addr)(Z:Value)(J:Obj),ZI h z TI TO (rawInt T) Z/\h.get? T=some J/\T ∉ [z,TO,i1,i2]/\(Z=.bool false\/Z=.bool true))
def Wk.keep2{Z:Bool}{h G:Heap}{l:Addr}{J:kX}(z:Wk Z h l J)(k:∀o,h.get? l=some o->G.get? l=some o):Wk Z G l J:=by
 cases Z with
 |false=>exact let⟨o,e,r⟩:=z;⟨o,k _ e,r⟩
 |true=>exact let⟨o,e,r⟩:=z;⟨o,k _ e,r⟩
section
variable{prog:Program}{w:World}{A:Around}{E:kO}{R:Result->Shared->Prop}
def P7{z TI TO L G f c d:Addr}{t1 t2:Bool}{xs ys:kP}{vs:List (Key×Value)}(hh:A.handled=none)(D:ZipApart z TI TO L G f c)(T1:xs.length=ys.length)(hn:xs.length<=sizeLine)(hv:vs.length=xs.length)(nd:(vs.map (·.1)).Nodup)(R6:∀i (h1:i<xs.length) (h2:i<ys.length),∃k,vs[i]?=some (k,ys[i])/\(VD prog w).is k xs[i]=true)(hS:d ∉ [z,TO,L,G,TI,f,c])(F:Value):
  ∀(k i:Nat)(s:Shared)(j:Int)(t:Tok),xs.length-i=k->i<=xs.length->ZC s.heap z TI TO t1 L f t2 G c i->Wk t1 s.heap f xs.toArray->Wk t2 s.heap c ys.toArray->
  s.heap.DictOf (VD prog w) d (vs.take i)->TO<s.heap.objs.size->
  (∀h' tk,h'.DictOf (VD prog w) d vs->(∀b o,b ∉ [z,TO,L,G,d]->s.heap.get? b=some o->h'.get? b=some o)->R (.ok<|.ret F) {s with heap:=h',toks:=tk})->
  codeAny (model prog w) A (.builtin "dict.update.loop" ⟨[.ref d,.ref z,.int j t,F],[]⟩) R s:=by
 have nS:d≠z/\d≠TO/\d≠L/\d≠G/\d≠TI/\d≠f/\d≠c:=by simpa using hS
 obtain⟨n,S,n1,n2,R5,R4,R3⟩:=nS;intro k
 induction k with
 |zero=>
  intro i s j t hk hi zc y l hd M2 hR;have e:i=xs.length:=by lia
  subst e;refine qS WE ?_;rw[Around.under_plainId Jv _];obtain⟨M,u,j2,zz⟩:=zc;rw[<-hv,kH]at hd
  have O1:∀g,(∀b o,b ∉ [z,TO,L,G]->s.heap.get? b=some o->g.get? b=some o)->R (.ok<|.ret F) {s with heap:=g}:=λg J=>by
   obtain⟨o,es,ep,v,rest⟩:=hd
   exact hR g s.toks ⟨o,es,ep,J d o (by simp[n,S,n1,n2]) v,rest⟩ λb o O e=>J b o (λhm=>O (by
    have X:b=z\/b=TO\/b=L\/b=G:=by simpa using hm
    simp only[Zd,jH,or_false];rcases X with q|q|q|q
    .exact .inl q
    .exact .inr (.inl q)
    .exact .inr (.inr<|.inl q)
    .exact .inr (.inr<|.inr<|.inl q))) e
  refine Zl (m:=pyNext<|.ref z) ?_;rcases zz with⟨B,v⟩|⟨T,f1,oT,B,r,_,hf⟩
  .refine Fk hh D ⟨B,M,v,u.si y,j2.si l⟩ (.inl<|by simp) λg J=>Zl<|Zm<|Zm<|O1 g λb o O e=>?_
   have Z:b≠z/\b≠TO/\b≠L/\b≠G:=by simpa using O
   exact J b o Z.1 Z.2.1 Z.2.2.1 Z.2.2.2 e
  .refine Q0 (v:=t2) hh D B r hf M (u.si y) (by simp) λg J=>Zl<|Zm<|Zm<|O1 g λb o O e=>?_
   have Z:b≠z/\b≠TO/\b≠L/\b≠G:=by simpa using O
   exact J b o Z.1 Z.2.2.1 Z.2.2.2 e
 |succ k ih=>
  intro i s j t hk hi zc y l hd M2 hR;have P:i<xs.length:=by lia
  have G2:i<ys.length:=by lia
  have hx:xs.toArray[i]?=some xs[i]:=by simp[P]
  have hy:ys.toArray[i]?=some ys[i]:=by simp
  obtain⟨T2,ev,G3⟩:=R6 i P G2;refine qS WE ?_;rw[Around.under_plainId Jv _];obtain⟨M,u,j2,zz⟩:=zc;refine Zl (m:=pyNext<|.ref z) ?_
  suffices step:∀g,ZC g z TI TO t1 L f t2 G c (i+1)->IsPair g s.heap.objs.size xs[i] ys[i]->g.objs.size=s.heap.objs.size+1->(∀b o,b≠z->b≠TO->b≠L->b≠G->s.heap.get? b=some o->g.get? b=some o)->wpAny (model prog w) A.in1 _ _ _ {s with heap:=g} by
   have lz:∀{o:Obj}{b:Addr},s.heap.get? b=some o->b<s.heap.objs.size:=λe=>ZP e;have J2:L<s.heap.objs.size:=let⟨_,e,_⟩:=u.obj;lz e
   have x:G<s.heap.objs.size:=let⟨_,e,_⟩:=j2.obj;lz e
   rcases zz with⟨B,a,b,v⟩|⟨T,f1,oT,B,r,nT,hf⟩
   .refine Dv D ⟨B,M,⟨a,b,v⟩,u.si y,j2.si l⟩ hx hy λg zs U h J=>step g ⟨zs.its,zs.one.sj,zs.two.sj,.inr ⟨s.heap.objs.size,.bool false,_,zs.zip,U,?_,.inl rfl⟩⟩ U h J
    have I:=lz B;have p:=lz v;intro hm;have X:s.heap.objs.size=z\/s.heap.objs.size=TO\/s.heap.objs.size=L\/s.heap.objs.size=G:=by simpa using hm
    rcases X with e|e|e|e <;> rw[e]at I p J2 x <;> first|exact Zr I (vw _)|exact Zr p (vw _)|exact Zr J2 (vw _)|exact Zr x<|vw _
   .have nT':T≠z/\T≠TO/\T≠L/\T≠G:=by simpa using nT
    exact OJ D B r hf M (u.si y) (j2.si l) hx hy λg z' a1 a2 U h J=>step g ⟨J _ _ D.TIz D.TIi1 D.TIi2 M,a1,a2,.inr ⟨T,.bool true,oT,z',J _ _ nT'.1 nT'.2.2.1 nT'.2.2.2 r,nT,.inr Y⟩⟩ U h λb o b1 _ b3 b4 e=>J b o b1 b3 b4 e
  intro g R0 U h J
  have T0:g.DictOf (VD prog w) d (vs.take i):=by
   obtain⟨o1,es,ep,C,rest⟩:=hd;exact⟨o1,es,ep,J d o1 n S n1 n2 C,rest⟩
  have r:({s with heap:=g}:Shared).TypeIs (.ref s.heap.objs.size) "tuple":=⟨_,U,rfl⟩
  have ld:d<s.heap.objs.size:=by
   obtain⟨o1,es,ep,C,rest⟩:=hd;exact ZP C
  refine Zl<|wpAny_holding<|Zl<|wpAny_tryCatch ?_;simp only[Builtin.Dict.pairItems];refine Zl (m:=typeOf<|.ref s.heap.objs.size)<|qN r ?_;rw[Zp (by decide)];refine Zl<|vW U rfl (Zm ?_);show wpAny _ A.in1 (holding [xs[i],ys[i]]<|dictSet d xs[i] ys[i]) _ _ _;refine wpAny_holding<|wpAny_dictSet_pairs (hsz:=by rw[ZN];lia) G3 T0 λh2 Q G1=>?_;rw[RO vs nd ev]at Q;have N:∀b o,b≠d->g.get? b=some o->h2.get? b=some o:=λb o O e=>(G1.2 b O).trans e;refine Zm ⟨plainId_quiet Jv _,ih (i+1) _ (j+1) 0 (by lia) P ?_ ?_ ?_ Q ?_ λh3 R1 R8 R7=>?_⟩
  .obtain ⟨a1,a2,a3,a4⟩:=R0
   exists N _ _ (Zs R5) a1,a2.to λo e=>N _ _ (Zs n1) e,a3.to λo e=>N _ _ (Zs n2) e;rcases a4 with⟨I,a,b,p⟩|⟨T,f1,oT,I,p,q3,q4⟩
   .exact .inl ⟨N _ _ (Zs n) I,a,b,N _ _ (Zs S) p⟩
   .by_cases eT:T=d
    .obtain ⟨o2,es2,ep2,ho2,_⟩:=Q
     exact .inr ⟨T,f1,o2,N _ _ (Zs n) I,by rw[eT];exact ho2,q3,q4⟩
    .exact .inr ⟨T,f1,oT,N _ _ (Zs n) I,N _ _ eT p,q3,q4⟩
  .exact y.keep2 λo e=>N _ _ (Zs R4)<|J _ _ D.l1z D.l1TO D.l1i1 D.l1i2 e
  .exact l.keep2 λo e=>N _ _ (Zs R3)<|J _ _ D.l2z D.l2TO D.l2i1 D.l2i2 e
  .have e2:h2.objs.size=g.objs.size:=G1.1
   show TO<h2.objs.size;rw[e2,h];exact Nat.lt_succ_of_lt M2
  .refine hR h3 R1 R8 λb o O e=>R7 b o O ?_
   have Z:b≠z/\b≠TO/\b≠L/\b≠G/\b≠d:=by simpa using O
   exact N _ _ Z.2.2.2.2<|J b o Z.1 Z.2.1 Z.2.2.1 Z.2.2.2.1 e
end
def P6:typeLookup (.type "zip") (Str.ofString "keys")=pure none:=am_miss_of_fast<|by decide +kernel
def P5:typeLookup (.type "zip") (Str.ofString "__getattr__")=pure none:=am_miss_of_fast<|by decide +kernel
def Lo:entryFor table "zip.__getattribute__"=some Builtin.«object.__getattribute__»:=
 entryFor_alias (id':="object.__getattribute__") (by kernel_rfl) (by decide +kernel) (by decide +kernel) (by kernel_rfl)
def Ln(a:Addr)(D:kX)(sl:Array (Option Value))(name:Str)(u:Tok)(L:typeLookup (.type "zip") name=pure none)(Z:(["__module__","__name__","__qualname__","__doc__","__annotations__"]:kQ).contains name=false)(G:name.length+100<=sizeLine:=by size_fits):
  Meets (Builtin.«object.__getattribute__» ⟨[.ref a,.str name u],[]⟩) (λA R s=>s.heap.get? a=some {cls:=.type "zip",dict:=none,data:=.fields D,slots:=sl}/\raisesAttr (.ref a) name A R s):=
 Meets.of_wp λM w A R s J=>by
  obtain⟨B,g,d,N,O⟩:=s;obtain⟨T,J⟩:=J;have E:(⟨B,g,d,N,O⟩:Shared).TypeIs (.ref a) "zip":=⟨_,T,rfl⟩;unfold Builtin.«object.__getattribute__»
  repeat (any_goals (first|assumption|wp_step))
  simp only[Z,jy,if_false]
  repeat (any_goals (first|assumption|wp_step))
  exact wpAny_raiseAttrError J.1 J.2<|attrMsg_fits (by decide +kernel) G
def P8{R:kX}{M:Array (Option Value)}(N:s.heap.get? a=some {cls:=.type "zip",dict:=none,data:=.fields R,slots:=M})(S:A.handled=none)(h:∀G L,(∀b o,s.heap.get? b=some o->G.get? b=some o)->Q none {s with heap:=G,toks:=L}):
  wpAny (model prog w) A (getAttr? (.ref a)<|Str.ofString "keys") Q E s:=by
 obtain⟨U,C,X,L,B⟩:=s;have Z:=F.slot_zip_getattribute;have I:=Z.lookup;have P:=Z.bind<|.ref a;have D:=P5;have j:=sub_AttributeError;have O:∀n,(Shared.mk U C X n B).TypeIs (.ref a) "zip":=λn=>⟨_,N,rfl⟩;simp only[getAttr?,getAttrBy?,getAttrBy]
 repeat (any_goals (first|assumption|exact O _|((with_reducible show wpAny _ _ (call (Value.builtin "zip.__getattribute__") _ _) _ _ _);refine call_meets F.slot_zip_getattribute (O _) Lo (F.args_zip_getattribute_2 _ _) (Ln a R M (Str.ofString "keys") _ P6 (by decide +kernel)<|by size_fits) ⟨N,S,λG T e J=>?_⟩)|wp_step))
 have there:=J.there;obtain⟨_,_,y⟩:=there;refine(?_:wpAny _ _ (getattributeRaised _ _ _ _ _ _ _) _ _ _);simp only[getattributeRaised]
 repeat any_goals first|assumption|wp_step
 exact h _ _ J.keeps
theorem Qm:∀{Z:kY}{G:kP},Vals (Z.map (·.2)) G->∃J,KV Z J/\J.map (·.2)=G/\J.map (·.1)=Z.map (·.1)
 |[],_,r=>by cases r;exact⟨[],.nil,Y,Y⟩
 |kv::Z,_,r=>by
  cases r with
  | @cons _ u _ G h t=>
   obtain⟨J,N,M,L⟩:=Qm t;exact⟨(kv.1,u)::J,.cons ⟨Y,h⟩ N,by rw[ZV,M],by rw[ZV,ZV,L]⟩
def Tt{z TI TO R O j P:Addr}{t1 t2:Bool}{xs ys:kP}{vs:List (Key×Value)}{kvs:kY}{g:Heap}(I:Inv X E U H s)(hc:X.calm=true)(D:ZipApart z TI TO R O j P)(S:xs.length=ys.length)(hn:xs.length<=1000)(hv:vs.length=xs.length)(nd:(vs.map (·.1)).Nodup)(x:∀i (y:i<xs.length) (h2:i<ys.length),∃k,vs[i]?=some (k,ys[i])/\(VD X.prog X.w).is k xs[i]=true)(B:KV kvs vs)(kp:∀b o,s.heap.get? b=some o->g.get? b=some o)(m:s.heap.objs.size<=g.objs.size)(L:∀b∈ [z,TO,R,O],s.heap.objs.size<=b)(Z:ZR g z TI TO t1 R j t2 O P 0)(w1:Wk t1 g j xs.toArray)(w2:Wk t2 g P ys.toArray)(q:∀l,H l=none->Q (.ref l) (upd H l<|.dK kvs)):
  wpAny (model X.prog X.w) X.A (call (.type "dict") [.ref z]) (EP X E U Q) X.xe {s with heap:=g}:=by
 refine callType_codes (Q₁:=λob t=>ob=.ref g.objs.size/\t={s with heap:=g.push {cls:=.type "dict",data:=.dict #[]}}) F.kt_called_dict (F.kt_typeCall_dict_1 _) F.entry_dict_init (kt_code_dict_new _ ⟨Y,Y⟩) λob t ht=>?_;obtain⟨rfl,rfl⟩:=ht;have J:(g.push {cls:=.type "dict",data:=.dict #[]}).DictOf (VD X.prog X.w) g.objs.size []:=Heap.DictOf.new g;have r:∀b o,g.get? b=some o->(g.push {cls:=.type "dict",data:=.dict #[]}).get? b=some o:=λb o e=>ZE _ e;refine And.intro J.typeIs<|And.intro (F.args_dict_init_2 _ _) ?_;delta Builtin.«dict.__init__» Builtin.Dict.selfAndRest;refine Zl<|Zl<|wpAny_notOrdered_dict J.typeIs<|Zm (?_:wpAny _ _ (Builtin.Dict.updateFrom "dict.__init__" g.objs.size (.ref z) [] .none) _ _ _);delta Builtin.Dict.updateFrom;have p:Shared.TypeIs {s with heap:=g.push {cls:=.type "dict",data:=.dict #[]}} (.ref z) "zip":=⟨_,r _ _ Z.zip,rfl⟩;refine Zl<|qN p ?_;rw[Zp (by decide)];refine Zl<|P8 (s:={s with heap:=g.push {cls:=.type "dict",data:=.dict #[]}}) (r _ _ Z.zip) (I.ok.hd hc) λy T C=>?_;simp only[Option.isNone_none,if_true];refine Zl<|jY ?_;have G:∀b o,g.get? b=some o->y.get? b=some o:=λb o e=>C b o<|r b o e;refine Zl<|wpAny_pyIter_zip (s:={s with heap:=y,toks:=T}) (G _ _ Z.zip) ?_;have lz:z<g.objs.size:=ZP Z.zip;have w:TI<g.objs.size:=ZP Z.its;have v:TO<g.objs.size:=let⟨_,_,e⟩:=Z.out;ZP e
 have u:R<g.objs.size:=let⟨_,e,_⟩:=Z.one.obj;ZP e
 have f:O<g.objs.size:=let⟨_,e,_⟩:=Z.two.obj;ZP e
 have d:=w1.lt;have c:=w2.lt;have M:∀{b:Addr},b<g.objs.size->g.objs.size≠b:=λh=>jp h;refine Zm ⟨plainId_quiet Jv _,P7 (A:=X.A.in1) (t1:=t1) (t2:=t2) (xs:=xs) (ys:=ys) (vs:=vs) (I.ok.hd hc) D S (Zh<|Y1 hn) hv nd x ?_ .none xs.length 0 {s with heap:=y,toks:=T} 0 0 rfl (Zc _) ⟨G _ _ Z.its,Z.one.to λo e=>G _ _ e,Z.two.to λo e=>G _ _ e,.inl ⟨G _ _ Z.zip,let⟨a,b,e⟩:=Z.out;⟨a,b,G _ _ e⟩⟩⟩ (w1.keep2 λo e=>G _ _ e) (w2.keep2 λo e=>G _ _ e) ?_ ?_ λh' tk G2 J2=>?_⟩
 .intro n
  have N:g.objs.size=z\/g.objs.size=TO\/g.objs.size=R\/g.objs.size=O\/g.objs.size=TI\/g.objs.size=j\/g.objs.size=P:=by simpa using n
  rcases N with e|e|e|e|e|e|e
  .exact M lz e
  .exact M v e
  .exact M u e
  .exact M f e
  .exact M w e
  .exact M d e
  .exact M c e
 .rw [qH]
  obtain⟨o,es,ep,ho,rest⟩:=J;exact⟨o,es,ep,C _ _ ho,rest⟩
 .obtain ⟨_,_,e⟩:=Z.out
  exact ZP<|G _ _ e
 .have lk:kvs.length<=sizeLine:=by
   have:=B.length;exact Zh<|Y1<|by lia
  refine⟨Y,.ref g.objs.size,_,I.laid (a:=g.objs.size) (o:=.dK kvs) (λb o e=>?_) m<|Wr lk (beq_eq_false_iff_ne.mpr<|Zs<|Ze<|Zx I.big m) B G2,rfl,q _<|I.hok.fresh m⟩;have hb:=ZP e;refine J2 b o (λn=>?_)<|G b o<|kp b o e;have N:b=z\/b=TO\/b=R\/b=O\/b=g.objs.size:=by simpa using n
  have G1:s.heap.objs.size<=b:=by
   rcases N with e|e|e|e|e
   .exact L b (by rw[e];simp)
   .exact L b (by rw[e];simp)
   .exact L b (by rw[e];simp)
   .exact L b (by rw[e];simp)
   .rw [e];exact m
  exact Zr hb<|Nat.not_lt_of_le G1
def tDZ(K:W.Frag)(ta:TA):TE:=λU H Q=>ta U H λG J=>∃(a b:Addr)(M L:Bool)(Z:kY),G=[.ref a,.ref b]/\Sq K M J a (Z.map λN=>kV N.1)/\Sq K L J b (Z.map (·.2))/\Z.length<=1000/\(Z.map (·.1)).Nodup/\
 ∀l,J l=none->Q (.ref l) (upd J l<|.dK Z)
def O9{X:Cx}{a b:Expr}{x:TA}{p E t Z:Pos}(hc:X.calm=true)(hg:Gl X "dict")(hm:X.mg "dict"=none)(r:Gl X "zip")(w:X.mg "zip"=none)(ha:PA X [a,b] x)(hs:starEach [a,b] X.env=[(false,eval a X.env),(false,eval b X.env)]:=by rfl)(T:starEach [b] X.env=[(false,eval b X.env)]:=by rfl)(B:starEach [Expr.Call (.Name "zip" E) [a,b] [] Z] X.env=[(false,eval (Expr.Call (.Name "zip" E) [a,b] [] Z) X.env)]:=by rfl):
  PE X (.Call (.Name "dict" p) [.Call (.Name "zip" E) [a,b] [] Z] [] t) (tDZ X.K x):=by
 intro O s U H Q I h;refine Call_<|U2 I hg hm Uk<|ja ?_ B rfl;rw[B];refine(?_:wpAny _ _ (spliced ((false,eval (Expr.Call (.Name "zip" E) [a,b] [] Z) X.env)::[])) _ _ s);refine Calls.spliced_cons (Call_<|U2 I r w RQ<|ja (thn (ha Z O s U H _ I h) λus L ⟨vs,H1,n,r1,y⟩=>?_) (by rw[hs,T]) (by rw[T];rfl));obtain⟨l1,l2,t1,t2,kvs,e,y,q2,c,nd,q⟩:=y;subst e;obtain⟨u,w',rfl,P,C⟩:=vals2 r1;cases P;cases C;obtain⟨R,N,A⟩:=n.sq y;obtain⟨J,M,F⟩:=n.sq q2;have n1:=A.lt;have n2:=F.lt;have k:=N.length;have m:=M.length;rw[ZA]at k m;obtain⟨G,j,e2,l⟩:=Qm M;have lw:G.length=kvs.length:=by rw[<-ZA (f:=(·.1)) (as:=G),l,ZA]
 refine Np A F λg S d=>Calls.spliced_nil ?_;have D:=zap _ _ _ n1 n2;have gz:L.heap.objs.size<=g.objs.size:=Zh<|qc (je _ _)<|ZP S.zip;refine Tt (xs:=R) (ys:=J) (vs:=G) (kvs:=kvs) n hc D (by lia) (by lia) (by lia) (by rw[l];exact nd) (λi h1 h2=>?_) j d gz (λb hb=>?_) S (A.keep2 λo e=>d _ _ e) (F.keep2 λo e=>d _ _ e) q
 .have ik:i<kvs.length:=by lia
  have v:i<G.length:=by lia
  have e3:G[i].2=J[i]:=by
   have:(G.map (·.2))[i]?=J[i]?:=by rw[e2]
   rw[ZH,ZD v,ZD h2]at this;exact ZT this
  have e4:G[i].1=kvs[i].1:=by
   have:(G.map (·.1))[i]?=(kvs.map (·.1))[i]?:=by rw[l]
   rw[ZH,ZH,ZD v,ZD ik]at this;exact ZT this
  refine⟨G[i].1,by rw[ZD v,<-e3],?_⟩;obtain⟨u,hu,P⟩:=N.get (show(kvs.map λkv=>kV kv.1)[i]?=some (kV kvs[i].1) by rw[ZH,ZD ik];rfl);rw[ZD h1]at hu;cases hu;rw[e4];exact XX P
 .have z:b=L.heap.objs.size+4\/b=L.heap.objs.size+3\/b=L.heap.objs.size\/b=L.heap.objs.size+1:=by simpa using hb
  rcases z with z|z|z|z <;> rw[z] <;> first|exact ZG _|exact je _ _
end L2
namespace L2
open PySem
def nmD(ns:kQ)(vs:kZ):kY:=(ns.zip vs).map λx=>(Sum.inr x.1,x.2)
theorem NR:∀{ns:kQ}{vs:kZ},ns.length=vs.length->(nmD ns vs).map (λL=>kV L.1)=ns.map V.str/\(nmD ns vs).map (·.2)=vs/\(nmD ns vs).map (·.1)=ns.map Sum.inr
 |[],[],_=>⟨rfl,rfl,rfl⟩
 |[],_::_,h=>by simp at h
 |_::_,[],h=>by simp at h
 |n::ns,v::vs,h=>by
  obtain⟨G,J,Z⟩:=NR (ns:=ns) (vs:=vs) (by simpa using h);unfold nmD at G J Z |-;exists ?_,?_
  .rw [jN,ZV,ZV,G];rfl
  .rw [jN,ZV,ZV,J]
  .rw [jN,ZV,ZV,Z];rfl
end L2
namespace K4
open PySem L2
section
variable{C CK:Addr}
def K8:List.Nodup [("name":Str),"kind"]:=by decide +kernel
def CU:Yh ["book","f","things","names"] ["book","f","things"] (Yd BU):=Y2
inductive SNd(C CK:Addr)(H:Hp)(Q:VK):List V->Prop
 |mk (t tl:Addr) (us:List V) (ks:List (Str×Shp)) (d:Str->Nat) (ds:List Dd) (x:Dd) (bi:BI H C CK t ks d ds) (hx:x∈ds) (ht:H tl=some (.lst us)) (ln:us.length=x.1.2.1.length) (l3:x.1.2.1.length<=3) (nd:(x.1.2.1.map (·.1)).Nodup)
  (q:∀l H',Same H H'->H l=none->H' l=some (.dK (nmD (x.1.2.1.map (·.1)) us))->Q (.ref l) H'):SNd C CK H Q [.ref t,.str x.1.1,.ref tl]
def IQ(C CK:Addr):Sp:=λZ H Q _=>SNd C CK H Q Z
def Cy(B:Blt S)(TB:BCl K C)(F:Fun K "named" "named" BU f fd)(m:VJ K C "parameters" g)(G:Ye P w K S base CX0 n g gd ["self","F"] (Gk C CK))(bG:Binds K gd ["self","F"] []):Ye P w K S base CX0 (n+1) f fd ["book","f","things"] (IQ C CK):=by
 refine F.oi CU λJ2 A M s H vs Q E hr h=>?_;obtain⟨t,k,us,o,d,ds,x,z,hx,ht,ln,l3,c,q⟩:=h;refine⟨_,YY (Xy (i0:=3) ["name","kind"] [] CU.nd Y (Or.inl Y) (J9<|Y6 (pv 0) TB.cl m G hr bG .nil Y4<|pa1<|pv 1) TZ (λcl C j s H=>Ve (n:=2) rfl (Yn (Ym 0 K8 rfl (Or.inl rfl) (Or.inr rfl))<|Yn (Ym 1 K8 rfl (Or.inl rfl) (Or.inr rfl)) VM)) (λcl C j s H=>pv 0))
  (YZ<|Yi<|O9 rfl rfl B.dict rfl B.zip (pa2 (pv 3)<|pv 2)),?_⟩
 dsimp only[Vf,Cx.nox,Cx.wish];show let T0:=_;Yl _ T0 _ _ _
 intros
 obtain⟨A',kv,rfl,b'⟩:=id z;refine⟨_,_,b'.ins,zX _,A'.t,o,d,ds,x,Y,z,hx,λv U=>?_⟩;unfold psD at U;obtain⟨a,xs,rfl,X,hu⟩:=Yu U;exists ⟨_,Z2 X⟩;refine Lz (us:=x.1.2.1) (D:=λp=>.tup [.str p.1,.str p.2]) (E:=λp=>.str p.1) (itt<|Z2 X) hu (by lia) (λu y R hm i hR=>?_) λvs p H1 j L hp N=>?_
 .obtain ⟨t,ys,rfl,h2,Z⟩:=Yu i
  obtain⟨x1,r1,rfl,I,T⟩:=Yc Z;obtain⟨x2,r2,rfl,J,O⟩:=Yc T;obtain rfl:=VC O;obtain rfl:=has_str I;obtain rfl:=has_str J;exact⟨_,Z2 h2,Y,hR _ Y5⟩
 have e:=WT (by rw[vi];exact N:HasL H1 vs ((x.1.2.1.map (·.1)).map Dat.str));subst e;obtain⟨I,J,e3⟩:=NR (ns:=x.1.2.1.map (·.1)) (vs:=us) (by rw[ZA];lia);have r:(nmD (x.1.2.1.map (·.1)) us).length=us.length:=by rw[<-ZA (f:=(·.2)),J]
 refine⟨p,k,false,false,nmD (x.1.2.1.map (·.1)) us,Y,?_,?_,by lia,?_,λl Z=>?_⟩
 .rw [I];exact Z3 hp
 .rw [J];exact Z3<|L _ _ ht
 .rw [e3]
  exact c.map (f:=Sum.inr) λa b h e=>h<|Sum.inr.inj e
 .exact q l _ (L.trans<|Ys Z _) (L.free Z) Yf
end
end K4
namespace L2
open PySem
@[elab_as_elim] theorem fld_in {motive:Hp->Prop}(x:Addr) (o:HO) (k:∀H',SameB x H H'->H' x=some o->motive H'):motive (upd H x o):=k _ (λb u n h=>by rw[Yg n];exact h) Yf
def UM(J:Z x=none)(s:Same Z H)(b:SameB x H G):Same Z G:=λa o h=>b a o (Yb h J)<|s a o h
mutual
def Dat.ti:Dat->Bool
 |.tup ds=>Dat.tis ds
 |.lst _=>false
 |_=>true
def Dat.tis:List Dat->Bool
 |[]=>true
 |d::ds=>d.ti && Dat.tis ds
end
mutual
theorem VL{H Z:Hp}(b:TK H Z):∀(d:Dat){v:V},d.ti=true->Has H v d->Has Z v d
 |.str _,_,_,h=>by unfold Has at h |-;exact h
 |.non,_,_,h=>by unfold Has at h |-;exact h
 |.tup ds,_,t,h=>by
  unfold Has at h |-;obtain⟨a,J,M,L,G⟩:=h;unfold Dat.ti at t;exact⟨a,J,M,b _ _ L,Vt b ds t G⟩
 |.bl _,_,_,h=>by unfold Has at h |-;exact h
 |.int _,_,_,h=>by unfold Has at h |-;exact h
 |.lst _,_,t,_=>by unfold Dat.ti at t;cases t
theorem Vt{H L:Hp}(b:TK H L):∀(Z:ph){J:kZ},Dat.tis Z=true->HasL H J Z->HasL L J Z
 |[],[],_,h=>Z6
 |[],_::_,_,h=>by unfold HasL at h;exact h.elim
 |_::_,[],_,h=>by unfold HasL at h;exact h.elim
 |d::Z,x::J,t,h=>by
  unfold HasL at h;unfold Dat.tis at t;have G:=Bool.and_eq_true_iff.mp t;exact Z4 (VL b d G.1 h.1)<|Vt b Z G.2 h.2
end
theorem U9:∀{Z:ph},(∀d∈Z,d.ti=true)->Dat.tis Z=true
 |[],_=>by unfold Dat.tis;rfl
 |d::Z,h=>by unfold Dat.tis;rw[h d Za,U9 λe J=>h e (ZM _ J)];rfl
def Rf(Z:kT):(Js Z).ti=true:=by
 unfold Js Dat.ti;exact U9 λd hd=>by obtain⟨k,_,rfl⟩:=ZW.mp hd;unfold Dat.ti;rfl
def La(i:Nat)(Z:kT):(Ta i Z).ti=true:=by
 unfold Ta;simp[Dat.ti,Dat.tis,Rf]
def Py(n:Nat):Dat.tis ((List.range n).map λi=>Ta i [])=true:=U9 λd hd=>by obtain⟨k,_,rfl⟩:=ZW.mp hd;exact La _ _
def Pf(h:H a=some (.tup [])):Has H (.ref a) (Js []):=Jc h
end L2
namespace K4
open PySem L2
section
variable{C CK CG:Addr}
def yd:Yh ["self","book","F","worths"] ["self","book","F","worths"] (Yd Le):=Y2
def yu:List.Nodup [("i":Str)]:=by decide +kernel
end
end K4
namespace L2
open PySem PySem.Spec PyProof.Rows
def vJ(K:W.Frag)(ta:TE)(f:Str):TG:=λv U H Q=>ta U H λx G=>∃a C J Z,x=.ref a/\G a=some (.ins C J Z)/\Cls K C/\VI K C f/\Z.length<1000/\Q U (upd G a<|.ins C J<|VU f v Z)
def Bp(L:PE X o ta):PG X (.Attribute o f pos) (vJ X.K ta f):=by
 intro Z s U H v u Q I r h;rw[assign_Attribute];refine Zl<|wpAny_holding<|thn (L Z s U H _ I h) λG B ⟨x,F,R,J,a,C,E,D,M,N,c,n,l,q⟩=>?_;subst M;obtain rfl:G=Value.ref a:=J;refine Zl<|jm<|Zl<|wpAny_holding<|Xd R N c n l r λT O=>?_;exact wpAny_release ⟨U,_,O,q⟩
structure OCl(K:W.Frag)(C:Addr):Prop where
 cl:Cls K C
 gr:VI K C "ground"
 nu:VI K C "number"
 f:VI K C "f"
 pl:VI K C "place"
 kn:VI K C "known"
 bd:VI K C "body"
 wt:VI K C "waiting"
mutual
theorem Bd.ti:∀b:Bd,b.dat.ti=true
 |.tag t=>by simp[Bd.dat,Dat.ti,Dat.tis]
 |.name x=>by simp[Bd.dat,Dat.ti,Dat.tis]
 |.pair a b=>by simp[Bd.dat,Dat.ti,Dat.tis,Bd.ti a,Bd.ti b]
 |.one e=>by simp[Bd.dat,Dat.ti,Dat.tis,Bd.ti e]
 |.other e=>by simp[Bd.dat,Dat.ti,Dat.tis,Bd.ti e]
 |.choose e Z J=>by simp[Bd.dat,Dat.ti,Dat.tis,Bd.ti e,Bd.tib J Z]
 |.ask f G=>by simp[Bd.dat,Dat.ti,Dat.tis,Bd.tis G]
 |.letb x k e b=>by simp[Bd.dat,Dat.ti,Dat.tis,Bd.ti e,Bd.ti b]
theorem Bd.tis:∀Z:List Bd,Dat.tis (Bd.dats Z)=true
 |[]=>by simp[Bd.dats,Dat.tis]
 |b::Z=>by simp[Bd.dats,Dat.tis,Bd.ti b,Bd.tis Z]
theorem Bd.tib:∀(Z:List Bd)(J:kQ),Dat.tis (Bd.brs Z J)=true
 |[],J=>by unfold Bd.brs;simp[Dat.tis]
 |b::Z,[]=>by simp[Bd.brs,Dat.tis,Dat.ti,Bd.ti b,Bd.tib Z []]
 |b::Z,t::J=>by simp[Bd.brs,Dat.tis,Dat.ti,Bd.ti b,Bd.tib Z J]
end
end L2
namespace K4
open PySem L2
section
variable{C CK CG CO:Addr}
def yZ:Yh ["self","ground","number"] ["self","ground","number"] (Yd K2):=Y2
def vG(A:BA):(UK A).lookup ("body_of":Str)=none:=rfl
end
end K4
namespace L2
open PySem
def Jx(s:SameB l H J)(Z:H l=some (.lst G)):TK H J:=λb L h=>s _ _ (λz=>by rw[z,Z]at h;cases h) h
end L2
namespace K4
open PySem L2
section
variable{C CK CG CO:Addr}
def ye:Yh ["self","thing"] ["self","thing"] (Yd Xj):=Y2
end
section
variable{C CK CG CO:Addr}
def Ca:Yh ["self","place","known","body"] ["self","place","known"] (Yd Wl):=Y2
def at0{v:V}{r:kZ}:atI (v::r) 0=some v:=VE (j:=0) rfl
def at1{u v:V}{r:kZ}:atI (u::v::r) 1=some v:=VE (j:=1) rfl
def at2{u v z:V}{r:kZ}:atI (u::v::z::r) 2=some z:=VE (j:=2) rfl
def Ro{a b:Str}(h:a≠b):¬decide (V.str a=V.str b)=true:=λz=>h (by have:=Zt z;injection this)
end
end K4
namespace L2
open PySem
theorem L4:∀{bs:List Bd}{ts:kQ}{k:Nat}{d:Dat},(Bd.brs bs ts)[k]?=some d->∃t b,ts[k]?=some t/\d=.tup [.str t,Bd.dat b]
 |[],_,k,d,h=>by unfold Bd.brs at h;simp at h
 |_::_,[],k,d,h=>by unfold Bd.brs at h;simp at h
 |b::bs,t::ts,0,d,h=>by unfold Bd.brs at h;cases h;exact⟨t,b,Y,Y⟩
 |b::bs,t::ts,k+1,d,h=>by unfold Bd.brs at h;exact L4 (bs:=bs) (ts:=ts) h
end L2
namespace K4
open PySem L2
section
variable{C CK CG CO:Addr}
def BN:Yh ["self","head","body","place","known","number","tag","branch"] ["self","head"] (Yd Wj):=Y2
def tagD(t:Str):Dat:=.tup [.str "tag",.str t]
end
section
variable{C CK CG CO:Addr}
def EC:Yh ["self","state"] ["self","state"] (Yd K3):=Y2
def Cc:Yh ["self"] ["self"] (Yd B2):=Y2
end
end K4
namespace L2
open PySem
theorem Bd.at_snoc:∀(Z:kT){b c e:Bd}{k:Int},b.at Z=some c->0<=k->c.parts[k.toNat]?=some e->b.at (Z++[k])=some e
 |[],b,c,e,k,h,hk,hp=>by
  unfold Bd.at at h;cases h;rw[List.nil_append];unfold Bd.at;rw[Zp hk,hp];show Bd.at e []=some e;unfold Bd.at
  rfl
 |i::r,b,c,e,k,h,hk,hp=>by
  rw[List.cons_append];unfold Bd.at at h |-
  by_cases h0:0<=i
  .rw [Zp h0]at h |-
   cases hb:b.parts[i.toNat]? with
   |none=>rw[hb]at h;cases h
   |some J=>
    rw[hb]at h;exact Bd.at_snoc r h hk hp
  .rw [Zq h0]at h;cases h
end L2
namespace L2
open PySem PySem.Spec PyProof.Rows
abbrev WP:=Option Key
def XW:WP->Value->Prop
 |some k,v=>JC k v=true
 |none,v=>v=.none
def LS(w:World):WP->Int
 |some k=>zO w k
 |none=>4238894112
def DK:Nat->Type
 |0=>WP
 |n+1=>Sum WP<|List<|DK n
def DK.dec:(n:Nat)->DecidableEq (DK n)
 |0=>inferInstanceAs<|DecidableEq<|Option Key
 |n+1=>have:=DK.dec n;inferInstanceAs (DecidableEq<|Sum WP<|List<|DK n)
instance (n:Nat):DecidableEq (DK n):=DK.dec n
def isQ(h:Heap):(n:Nat)->DK n->Value->Prop
 |0,k,v=>XW k v
 |_+1,.inl k,v=>XW k v
 |n+1,.inr ks,v=>∃(a:Addr)(o:Obj)(items:kX)(m:Nat),v=.ref a/\h.get? a=some o/\o.cls=.type "tuple" /\o.data=.seq items m/\Paired (isQ h n) ks items.toList
def X6(w:World):(n:Nat)->DK n->Int
 |0,k=>LS w k
 |_+1,.inl k=>LS w k
 |n+1,.inr ks=>reduceHash<|Builtin.Tuple.tupleHashOf<|ks.map<|X6 w n
def To:(n:Nat)->DK n->Nat
 |0,_=>1
 |_+1,.inl _=>1
 |n+1,.inr ks=>(ks.map<|To n).sum+1
section
variable{prog:Program}{w:World}
def LQ{A:Around}{E:kO}{s:Shared}{Q:Int->Shared->Prop}(h:Q 4238894112 {s with toks:=s.toks+1}):wpAny (model prog w) A (pyHash .none) Q E s:=by
 have Z:s.TypeIs .none "NoneType":=typeIs_none s;unfold pyHash
 first|unfold pyHashByItsType|skip
 have J:[Value.none].any Value.onHeap=false:=rfl;refine Zl ?_;rw[cRoomFor,Zq (by rw[J];exact Zi)];refine Zm ?_;refine Zl<|jV Z PySem.F.slot_NoneType_hash.lookup ?_;show wpAny _ _ (if(some (Value.builtin "NoneType.__hash__")==some Value.none)=true then _ else _) Q E s;rw[Zq (by rw[beq_builtin_none];exact Zi)];refine Zl<|jV Z PySem.F.slot_NoneType_hash.lookup ?_;show wpAny _ _ (callSpecialIfBoundUnlessNone? .none "__hash__" _ >>=_) Q E s;refine Zl (wpAny_callSpecialIfBoundUnlessNone?_slot Z PySem.F.slot_NoneType_hash
  (vz PySem.F.slot_NoneType_hash Z PySem.F.entry_NoneType_hash
   (show wpAny _ _ (do ret (<-mkInt 4238894112)) _ _ s from wpAny_ret_mkInt ?_) (PySem.F.args_NoneType_hash_1 _)))
 show wpAny _ _ (if(decide (-(2:Int) ^ 63<=4238894112) && decide ((4238894112:Int)<2 ^ 63))=true then _ else _) Q E _;rw[Zp (by decide)];exact Zm h
theorem JN:∀{k:WP}{v:Value},XW k v->(∃i t,k=some (Sum.inl i)/\v=Value.int i t)\/(∃x t,k=some (Sum.inr x)/\v=Value.str x t)\/(k=none/\v=Value.none)
 |some k,v,h=>by
  rcases VQ (show JC k v=true from h)with⟨i,t,rfl,rfl⟩|⟨x,t,rfl,rfl⟩
  .exact .inl ⟨i,t,rfl,rfl⟩
  .exact .inr (.inl ⟨x,t,rfl,rfl⟩)
 |none,v,h=>.inr<|.inr ⟨rfl,h⟩
def Nb{A:Around}{E:kO}{s:Shared}{k:WP}{v:Value}{Q:Int->Shared->Prop}(Z:XW k v)(h:Q (LS w k) {s with toks:=s.toks+1}):wpAny (model prog w) A (pyHash v) Q E s:=by
 cases k with
 |none=>cases(show v=Value.none from Z);exact LQ h
 |some k=>exact(VD prog w).pyHash (show JC k v=true from Z) h
def Lk{A:Around}{E:kO}{s:Shared}{a b:WP}{u v:Value}{Q:Bool->Shared->Prop}(J:XW a u)(Z:XW b v)(h:Q (decide<|a=b) s):wpAny (model prog w) A (eqBool u v) Q E s:=by
 cases a with
 |none=>
  cases(show u=Value.none from J)
  cases b with
  |none=>
   cases(show v=Value.none from Z);rw[decide_eq_true rfl]at h;exact SeqAt.EqAt.same _ _ _ _ _ h
  |some b=>
   rw[Zy (λz=>nomatch z)]at h;rcases JN Z with⟨i,t,_,rfl⟩|⟨x,t,_,rfl⟩|⟨e,_⟩
   .exact SeqAt.EqAt.none_int i t _ _ _ _ h
   .exact SeqAt.EqAt.none_str x t _ _ _ _ h
   .cases e
 |some a=>
  cases b with
  |none=>
   cases(show v=Value.none from Z);rw[Zy (λz=>nomatch z)]at h;rcases JN J with⟨i,t,_,rfl⟩|⟨x,t,_,rfl⟩|⟨e,_⟩
   .exact SeqAt.EqAt.int_none i t _ _ _ _ h
   .exact SeqAt.EqAt.str_none x t _ _ _ _ h
   .cases e
  |some b=>
   refine(VD prog w).eqBool (show JC a u=true from J) (show JC b v=true from Z) ?_;have:decide (a=b)=decide (some a=some b):=by simp
   rw[this];exact h
def EQ{a b:WP}{v:Value}(G:XW a v)(J:XW b v):a=b:=by
 rcases JN G with⟨i,t,rfl,rfl⟩|⟨x,t,rfl,rfl⟩|⟨rfl,rfl⟩ <;> rcases JN J with⟨j,u,rfl,e⟩|⟨y,u,rfl,e⟩|⟨rfl,e⟩
 .injection e with Z _;rw[Z]
 .exact nomatch e
 .exact nomatch e
 .exact nomatch e
 .injection e with Z _;rw[Z]
 .exact nomatch e
 .exact nomatch e
 .exact nomatch e
 .rfl
def EO{k:WP}{a:Addr}(h:XW k (.ref a)):False:=by
 rcases JN h with⟨i,t,_,e⟩|⟨x,t,_,e⟩|⟨_,e⟩ <;> exact nomatch e
theorem Me{h:Heap}:∀{n:Nat}{x y:DK n}{v:Value},isQ h n x v->isQ h n y v->x=y
 |0,_,_,_,hx,hy=>EQ hx hy
 |_+1,.inl _,.inl _,_,hx,hy=>congrArg Sum.inl<|EQ hx hy
 |_+1,.inl _,.inr _,_,hx,⟨a,_,_,_,e,_⟩=>by subst e;exact(EO hx).elim
 |_+1,.inr _,.inl _,_,⟨a,_,_,_,e,_⟩,hy=>by subst e;exact(EO hy).elim
 |n+1,.inr xs,.inr ys,v,⟨a,o,it,m,e,ho,_,hd,hp⟩,⟨a',o',it',m',e',ho',_,hd',hp'⟩=>by
  subst e;cases e';rw[ho]at ho';cases ho';rw[hd]at hd';injection hd' with G _;subst G;refine congrArg Sum.inr ?_;generalize it.toList=vs at hp hp';clear hd ho
  induction hp generalizing ys with
  |nil=>cases hp';rfl
  |cons r t ih=>
   cases hp' with
   |cons J Z=>rw[Me r J,ih _ Z]
theorem RI{h L:Heap}{d:Addr}{o:Obj}{M:Array DictEntry}{N:Nat}(Z:h.get? d=some o)(hd:o.data=.dict M N)(G:Heap.SameBut d h L):∀{n:Nat}{k:DK n}{v:Value},isQ h n k v->isQ L n k v
 |0,_,_,hx=>hx
 |_+1,.inl _,_,hx=>hx
 |n+1,.inr ks,v,⟨a,oa,it,m,e,ha,hc,hda,hp⟩=>by
  have J:a≠d:=by
   rintro rfl;rw[ha]at Z;cases Z;rw[hd]at hda;exact nomatch hda
  exact⟨a,oa,it,m,e,(G.2 a J).trans ha,hc,hda,Paired.mapP hp λ_ _ z=>RI Z hd G z⟩
theorem LR:∀{n:Nat}{k:DK n}{A:Around}{E:kO}{s:Shared}{v:Value}{Q:Int->Shared->Prop},A.units+n<=cLine->isQ s.heap n k v->Q (X6 w n k) {s with toks:=s.toks+To n k}->wpAny (model prog w) A (pyHash v) Q E s
 |0,_,_,_,_,_,_,_,hk,h=>Nb hk h
 |_+1,.inl _,_,_,_,_,_,_,hk,h=>Nb hk h
 |n+1,.inr ks,A,E,s,v,Q,hu,⟨a,o,items,m,e,ho,hc,hd,hi⟩,h=>by
  subst e;have G:s.TypeIs (.ref a) "tuple":=⟨o,ho,hc⟩;unfold pyHash
  first|unfold pyHashByItsType|skip
  first|refine Zl (wpAny_cRoomFor_or (.inr<|by lia) ?_)|skip
  refine Zl<|jV G PySem.F.slot_tuple_hash.lookup ?_;show wpAny _ _ (if(some (Value.builtin "tuple.__hash__")==some Value.none)=true then _ else _) Q E s;rw[Zq (by rw[beq_builtin_none];exact Zi)];refine Zl<|jV G PySem.F.slot_tuple_hash.lookup ?_;show wpAny _ _ (callSpecialIfBoundUnlessNone? (.ref a) "__hash__" _ >>=_) Q E s;refine Zl<|wpAny_callSpecialIfBoundUnlessNone?_slot G PySem.F.slot_tuple_hash<|vz PySem.F.slot_tuple_hash G PySem.F.entry_tuple_hash ?_<|PySem.F.args_tuple_hash_1 _;show wpAny _ _ (Builtin.Tuple.tupleItemsOf (.ref a) >>=_) _ _ s;refine Zl<|wpAny_tupleItemsOf ho hd ?_;refine Zl ?_;rw[<-qf];refine wpAny_forIn_list _
   (λrest (b:Array Int) L=>∃done left,ks=done++ left/\Paired (isQ s.heap n) left rest/\b.toList=done.map (X6 w n)/\L={s with toks:=s.toks+(done.map<|To n).sum})
   _ ?_ ?_ _ _ ⟨[],ks,rfl,hi,rfl,rfl⟩
  .rintro x rest b L ⟨done,left,rfl,hl,hb,rfl⟩
   cases hl with
   | @cons k _ Z _ M J=>
    refine Zl (LR (n:=n) (k:=k) (by show A.units+1+n<=cLine;lia) M ?_)
    first
     |exact Zm ⟨done++[k],Z,by simp,J,by simp[hb],by simp[qT]⟩
     |exact Zl<|Zm<|Zm ⟨done++[k],Z,by simp,J,by simp[hb],by simp[qT]⟩
  .rintro b L ⟨done,left,rfl,hl,hb,rfl⟩
   cases hl;rw[j5]at h;show wpAny _ _ (retInt<|Builtin.Tuple.tupleHashOf b.toList) _ _ _;rw[hb];refine wpAny_ret_mkInt ?_;show wpAny _ _ (if(decide (-(2:Int) ^ 63<=Builtin.Tuple.tupleHashOf (done.map<|X6 w n)) && decide (Builtin.Tuple.tupleHashOf (done.map<|X6 w n)<2 ^ 63))=true then _ else _) Q E _;replace h:Q (reduceHash<|Builtin.Tuple.tupleHashOf<|done.map<|X6 w n) {s with toks:=s.toks+((done.map<|To n).sum+1)}:=h;unfold reduceHash at h
   by_cases hr:(decide (-(2:Int) ^ 63<=Builtin.Tuple.tupleHashOf (done.map<|X6 w n)) && decide (Builtin.Tuple.tupleHashOf (done.map<|X6 w n)<2 ^ 63))=true
   .rw [Zp hr]
    rw[Zp hr]at h;exact Zm<|by simpa[qT]using h
   .rw [Zq hr]
    rw[Zq hr]at h;exact Zl<|jY<|Zm<|by simpa[qT]using h
theorem ED:∀{n m:Nat}{k:DK n}{A:Around}{E:kO}{s:Shared}{v:Value}{Q:Bool->Shared->Prop},n<=m->isQ s.heap n k v->Q true s->wpAny (model prog w) A (eqIsQuiet m v) Q E s
 |0,m,_,_,_,_,v,_,_,hk,h=>by
  rw[eqIsQuiet_byValue m (by rcases JN hk with⟨i,t,_,rfl⟩|⟨x,t,_,rfl⟩|⟨_,rfl⟩ <;> rfl)];exact Zm h
 |_+1,m,.inl _,_,_,_,v,_,_,hk,h=>by
  rw[eqIsQuiet_byValue m (by rcases JN hk with⟨i,t,_,rfl⟩|⟨x,t,_,rfl⟩|⟨_,rfl⟩ <;> rfl)];exact Zm h
 |n+1,0,.inr _,_,_,_,_,_,hm,_,_=>Zr hm<|Nat.not_succ_le_zero _
 |n+1,m+1,.inr ks,A,E,s,v,Q,hm,⟨a,o,items,c,e,ho,hc,hd,hi⟩,h=>by
  subst e;have L:s.TypeIs (.ref a) "tuple":=⟨o,ho,hc⟩;unfold eqIsQuiet;refine Zl<|jV L PySem.F.slot_tuple_eq.lookup ?_;show wpAny _ _ (isInstance (.ref a) (.type "tuple") >>=_) _ _ s;refine Zl<|j9 L isSubtype_tuple_tuple ?_;simp only[qU,jy,if_false];refine Zl<|vW ho hd ?_;refine Zl ?_;show wpAny _ _ (forIn items _ _) _ _ s;rw[<-qf];refine wpAny_forIn_list _ (λrest r Z=>r.1=none/\Z=s/\∃left,Paired (isQ s.heap n) left rest) _ ?_ ?_ _ _ ⟨Y,Y,ks,hi⟩
  .rintro v rest r Z ⟨hr,rfl,left,hl⟩
   cases hl with
   | @cons k _ J _ M G=>
    refine Zl<|ED (n:=n) (m:=m) (k:=k) (Nat.le_of_succ_le_succ hm) M ?_;simp only[qU,jy,if_false];exact Zm ⟨Y,Y,J,G⟩
  .rintro ⟨r1,r2⟩ Z ⟨hr,rfl,_⟩
   simp only at hr;subst hr;exact Zm h
theorem zf:∀{n:Nat}{x y:DK n}{A:Around}{E:kO}{s:Shared}{u v:Value}{Q:Bool->Shared->Prop}{r:Bool},A.units+n<=cLine->isQ s.heap n x u->isQ s.heap n y v->(r=true↔x=y)->Q r s->wpAny (model prog w) A (eqBool u v) Q E s
 |0,x,y,_,_,_,_,_,_,r,_,hx,hy,Z,h=>by
  have P:∀(x y:WP),(r=true↔x=y)->decide (x=y)=r:=λx y Z=>by
   cases r with
   |true=>exact decide_eq_true<|Z.mp rfl
   |false=>exact Zy λz=>Zi<|Z.mpr z
  refine Lk hx hy ?_;rw[P x y Z];exact h
 |n+1,.inl x,.inl y,_,_,_,_,_,_,r,_,hx,hy,Z,h=>by
  refine Lk hx hy ?_
  have e:decide (x=y)=r:=by
   cases r with
   |true=>exact decide_eq_true<|Sum.inl.inj<|Z.mp rfl
   |false=>exact Zy λz=>Zi<|Z.mpr<|congrArg Sum.inl z
  rw[e];exact h
 |n+1,.inl x,.inr ys,A,E,s,u,v,Q,r,hu,hx,⟨a,o,it,m,e,ho,hc,hd,_⟩,Z,h=>by
  subst e;have F:r=false:=kC.mpr λz=>nomatch Z.mp z
  subst F;have L:s.heap.IsTuple a it:=⟨o,ho,hc,m,hd⟩;rcases JN hx with⟨i,t,_,rfl⟩|⟨z,t,_,rfl⟩|⟨_,rfl⟩
  .exact SeqAt.EqAt.int_tuple i t L (by lia) _ _ _ _ h
  .exact SeqAt.EqAt.str_tuple z t L (by lia) _ _ _ _ h
  .exact SeqAt.EqAt.none_tuple L (by lia) _ _ _ _ h
 |n+1,.inr xs,.inl y,A,E,s,u,v,Q,r,hu,⟨a,o,it,m,e,ho,hc,hd,_⟩,hy,Z,h=>by
  subst e;have F:r=false:=kC.mpr λz=>nomatch Z.mp z
  subst F;have L:s.heap.IsTuple a it:=⟨o,ho,hc,m,hd⟩;rcases JN hy with⟨i,t,_,rfl⟩|⟨z,t,_,rfl⟩|⟨_,rfl⟩
  .exact SeqAt.EqAt.tuple_int i t L (by lia) _ _ _ _ h
  .exact SeqAt.EqAt.tuple_str z t L (by lia) _ _ _ _ h
  .exact SeqAt.EqAt.tuple_none L (by lia) _ _ _ _ h
 |n+1,.inr x,.inr y,A,E,s,u,v,Q,r,hu,⟨a,oa,xs,na,e,hoa,hca,hda,hia⟩,⟨b,ob,ys,nb,e',hob,hcb,hdb,hib⟩,hr0,h=>by
  subst e;subst e';have S:s.TypeIs (.ref a) "tuple":=⟨oa,hoa,hca⟩;have I:s.TypeIs (.ref b) "tuple":=⟨ob,hob,hcb⟩
  have c:r=decide (x=y):=by
   cases r with
   |true=>exact(decide_eq_true<|Sum.inr.inj<|hr0.mp rfl).symm
   |false=>exact(Zy λz=>Zi<|hr0.mpr<|congrArg Sum.inr z).symm
  subst c;unfold eqBool
  try with_reducible refine wpAny_holding ?_
  show wpAny _ _ (if(Value.ref a==Value.ref b)=true then _ else _) Q E s
  by_cases hab:(Value.ref a==Value.ref b)=true
  .rw [Zp hab]
   have e:a=b:=by have:=eq_of_beq hab;injection this
   subst e;have q:(Sum.inr x:DK (n+1))=Sum.inr y:=Me (h:=s.heap) (n:=n+1) (v:=.ref a) ⟨a,oa,xs,na,rfl,hoa,hca,hda,hia⟩ ⟨a,ob,ys,nb,rfl,hob,hcb,hdb,hib⟩;rw[decide_eq_true (Sum.inr.inj q)]at h;exact Zl<|jY<|Zm h
  .rw [Zq hab]
   refine Zl (wpAny_richCompare_same_room (op:=.Eq) S I PySem.F.slot_tuple_eq
    (vz PySem.F.slot_tuple_eq S PySem.F.entry_tuple_eq ?_<|PySem.F.args_tuple_eq_2 _ _) (by lia))
   show wpAny _ _ (isInstance (.ref b) (.type "tuple") >>=_) _ _ s;refine Zl<|j9 I isSubtype_tuple_tuple ?_;simp only[qU,jy,if_false];refine Zl<|wpAny_tupleItemsOf hoa hda ?_;refine Zl<|wpAny_tupleItemsOf hob hdb ?_;refine Zl ?_;refine wpAny_forIn_list _
    (λrest r X=>r.1=none/\X=s/\∃C U G J,rest=List.zip G J/\Paired (isQ s.heap n) C G/\Paired (isQ s.heap n) U J/\decide (C=U)=decide (x=y)/\(G.length==J.length)=(xs.size==ys.size))
    _ ?_ ?_ _ _ ⟨rfl,rfl,x,y,xs.toList,ys.toList,rfl,hia,hib,rfl,by simp⟩
   .rintro ⟨u,v⟩ rest r X ⟨Z,rfl,C,U,G,J,hz,hx',hy',hdec,hlen⟩
    cases hx' with
    |nil=>simp at hz
    | @cons g f R O p B=>
     cases hy' with
     |nil=>simp at hz
     | @cons j d N M k T=>
      simp only[jN,List.cons.injEq,Prod.mk.injEq]at hz;obtain⟨⟨rfl,rfl⟩,rfl⟩:=hz;refine Zl<|zf (n:=n) (x:=g) (y:=j) (r:=decide<|g=j) (by show A.units+1+n<=cLine;lia) p k decide_eq_true_iff ?_
      by_cases hk:g=j
      .subst hk
       rw[decide_eq_true rfl];simp only[qU,jy,if_false];refine Zm ⟨Y,Y,R,N,O,M,Y,B,T,?_,by simpa using hlen⟩;rw[<-hdec]
       by_cases hxy:R=N
       .simp [hxy]
       .simp [hxy]
      .rw [Zy hk]
       simp only[Bool.not_false,if_true];have F:decide (x=y)=false:=by rw[<-hdec];simp[hk]
       rw[F]at h;exact Zl<|Zm<|Zm<|Zm ⟨_,rfl,(λe=>nomatch e),vy h⟩
   .rintro ⟨r1,r2⟩ X ⟨Z,rfl,C,U,G,J,hz,hx',hy',hdec,hlen⟩
    simp only at Z;subst Z;refine Zm ?_
    have D:(xs.size==ys.size)=decide (x=y):=by
     rw[<-hdec,<-hlen]
     cases hx' with
     |nil=>
      cases hy' with
      |nil=>simp
      |cons _ _=>simp
     |cons _ _=>
      cases hy' with
      |nil=>simp
      |cons _ _=>simp at hz
    rw[<-D]at h;exact⟨_,Y,(λe=>nomatch e),vy h⟩
def WG(prog:Program)(w:World)(n:Nat)(hn:n+1<=8):HeapKind prog w (List<|DK n) where
 is:=λh Z a=>isQ h (n+1) (.inr Z) (.ref a)
 hash:=λZ=>X6 w (n+1) (.inr Z)
 draws:=λZ=>To (n+1) (.inr Z)
 room:=λA=>A.units+(n+1)<=cLine
 inj:=λG J=>Sum.inr.inj (Me G J)
 keeps:=λx O hd N=>RI O hd N x
 pyHash:=λL M h=>LR L M h
 eqBool:=λ{A E s x y a b Q} L G J h=>zf (r:=decide<|x=y) L G J ⟨λz=>congrArg Sum.inr<|Zt z,λz=>decide_eq_true<|Sum.inr.inj z⟩ h
 quiet:=λM h=>ED hn M h
end
def knD:WP->Dat
 |none=>.non
 |some (.inl i)=>.int i
 |some (.inr x)=>.str x
def dkD:(n:Nat)->DK n->Dat
 |0,k=>knD k
 |_+1,.inl k=>knD k
 |n+1,.inr ks=>.tup<|ks.map<|dkD n
theorem LH{x:V}{v:Value}:∀{k:WP},Has H x (knD k)->RelV x v->XW k v
 |none,h,r=>by
  unfold knD Has at h;subst h;exact(show v=Value.none from r)
 |some (.inl i),h,r=>by
  unfold knD Has at h;subst h;obtain⟨t,e⟩:=(show ∃t,v=Value.int i t from r);subst e;exact RF i t
 |some (.inr z),h,r=>by
  unfold knD Has at h;subst h;obtain⟨t,e⟩:=(show ∃t,v=Value.str z t from r);subst e;exact Wq z t
theorem TV(M:HOk P w H h):∀{n:Nat}{k:DK n}{x:V}{v:Value},Has H x (dkD n k)->RelV x v->isQ h n k v
 |0,_,_,_,hk,r=>LH hk r
 |_+1,.inl _,_,_,hk,r=>LH hk r
 |n+1,.inr J,x,v,hk,r=>by
  have L:Has H x (.tup<|J.map<|dkD n):=hk;unfold Has at L;obtain⟨a,T,rfl,O,Z⟩:=L;cases(show v=Value.ref a from r);obtain⟨R,G,B,o,N,_,E,m,hd⟩:=(show VS P w H h a (.tup T)from M a _ O);clear R;exists a,o,G.toArray,m,Y,N,E,hd;show Paired (isQ h n) J G.toArray.toList;rw[List.toList_toArray];clear N hd O r hk
  induction B generalizing J with
  |nil=>
   cases J with
   |nil=>exact .nil
   |cons k J=>unfold List.map HasL at Z;exact Z.elim
  |cons D t ih=>
   cases J with
   |nil=>unfold List.map HasL at Z;exact Z.elim
   |cons k J=>
    rw[ZV]at Z;unfold HasL at Z;exact .cons (TV M Z.1 D)<|ih _ Z.2
abbrev DE(n:Nat):=List (DK n)×Addr×V
def keD{n:Nat}(k:List (DK n)):Dat:=.tup<|k.map<|dkD n
def KDp{n:Nat}(kvs:List (DE n))(xs:List (List (DK n)×Addr×Value)):Prop:=Paired (λ(p:DE n)(q:List (DK n)×Addr×Value)=>p.1=q.1/\p.2.1=q.2.1/\RelV p.2.2 q.2.2) kvs xs
def ddO(P:Program)(w:World)(n:Nat)(hn:n+1<=8)(a:Addr)(kvs:List (DE n)):HO:=.ext λh=>kvs.length<=sizeLine/\(a==sysModules)=false/\∃Z:List (List (DK n)×Addr×Value),KDp kvs Z/\
 ∃(o:Obj)(J:Array DictEntry)(G:Nat),h.get? a=some o/\o.ExactDict/\o.data=.dict J G/\J.toList=Z.map (entryOfKey<|WG P w n hn)/\(Z.map (·.1)).Nodup
def KOk{n:Nat}(H:Hp)(kvs:List (DE n)):Prop:=∀p∈kvs,Has H (.ref p.2.1)<|keD p.1
def Rh{n:Nat}(kvs:List (DE n))(k:List (DK n)):pf:=(kvs.find? λp=>decide<|p.1=k).map (·.2.2)
def putD{n:Nat}(kvs:List (DE n))(k:List (DK n))(b:Addr)(v:V):List (DE n):=if(Rh kvs k).isSome then kvs.map (λp=>if p.1=k then(p.1,p.2.1,v)else p)else kvs++[(k,b,v)]
def KDp.val{n:Nat}{Z:List (DE n)}{J}(r:KDp Z J)(k:List (DK n)):UX (Rh Z k) ((atKey J k).map (·.2)):=by
 induction r with
 |nil=>exact True.intro
 | @cons p q N M h t ih=>
  obtain⟨G,O,L⟩:=h;unfold Rh atKey at ih |-;rw[vU,vU]
  by_cases e:p.1=k
  .rw [decide_eq_true e,decide_eq_true (G.symm.trans e)];exact L
  .rw [Zy e,Zy λz=>e (G.trans z)];exact ih
def KDp.put{n:Nat}{Z:List (DE n)}{J}(r:KDp Z J)(k:List (DK n))(b:Addr)(L:RelV y u):KDp (putD Z k b y) (storedH J k b u):=by
 have e:(Rh Z k).isSome=(atKey J k).isSome:=by
  rw[(r.val k).isSome_eq,jR]
 unfold putD storedH;rw[e]
 by_cases q:(atKey J k).isSome=true
 .rw [Zp q,Zp q]
  clear e q
  induction r with
  |nil=>exact .nil
  | @cons p q R O h t ih=>
   rw[ZV,ZV];refine .cons ?_ ih;obtain⟨G,M,N⟩:=h;unfold putAt
   by_cases e:p.1=k
   .rw [Zp e,Zp (G.symm.trans e)];exact⟨G,M,L⟩
   .rw [Zq e,Zq (λz=>e<|G.trans z)];exact⟨G,M,N⟩
 .rw [Zq q,Zq q];exact Paired.snoc r ⟨Y,Y,L⟩
def KE{n:Nat}(Z:List (DE n))(k:List (DK n))(b:Addr)(v:V):(putD Z k b v).length<=Z.length+1:=by
 unfold putD
 split
 .rw [ZA];exact qh _
 .rw [ZL];exact ZG _
def KOk.put{n:Nat}{Z:List (DE n)}{k:List (DK n)}{b:Addr}{v:V}(h:KOk H Z)(J:Has H (.ref b) (keD k)):KOk H (putD Z k b v):=λp m=>by
 unfold putD at m
 split at m
 .obtain ⟨q,hq,e⟩:=ZW.mp m
  subst e
  by_cases c:q.1=k
  .rw [Zp c];exact h q hq
  .rw [Zq c];exact h q hq
 .rcases ZX.mp m with m|m
  .exact h p m
  .rw [ZQ.mp m];exact J
section
variable{X:Cx}{n:Nat}{hn:n+1<=8}
def Ek{Z:List (DE n)}(L:HOk P w H h)(e:H a=some (ddO P w n hn a Z))(k:KOk H Z):Z.length<=sizeLine/\(a==sysModules)=false/\∃G,KDp Z G/\h.DictOfH (WG P w n hn) a G:=by
 obtain⟨⟨z,y,G,r,o,F,A,D,B,T,N,M⟩,O⟩:=(show VS P w H h a (ddO P w n hn a Z)from L a _ e);refine⟨z,y,G,r,o,F,A,D,B,T,N,?_,M⟩;clear e N M O z
 induction r with
 |nil=>exact λx J=>nomatch J
 | @cons p q S I R t ih=>
  intro x J;rcases Zd.mp J with e|J
  .subst e
   obtain⟨g1,E,_⟩:=R;have:=k p Za;rw[g1,E]at this;exact TV (n:=n+1) (k:=.inr x.1) L this Y
  .exact ih (λp m=>k p<|ZM _ m) x J
def DGd(P:Program)(w:World)(n:Nat)(hn:n+1<=8)(H:Hp)(a:Addr)(y:V)(r:pf):Prop:=∃(Z:List (DE n))(k:List (DK n))(b:Addr),H a=some (ddO P w n hn a Z)/\KOk H Z/\y=.ref b/\Has H (.ref b) (keD k)/\r=Rh Z k
def DPd(P:Program)(w:World)(n:Nat)(hn:n+1<=8)(H:Hp)(a:Addr)(y v:V)(H':Hp):Prop:=∃(Z:List (DE n))(k:List (DK n))(b:Addr),H a=some (ddO P w n hn a Z)/\KOk H Z/\y=.ref b/\Has H (.ref b) (keD k)/\Z.length<sizeLine/\H'=upd H a (ddO P w n hn a<|putD Z k b v)
def Bn{P:Program}{w:World}{A:Around}(Z:A.units+16<cLine):(WG P w n hn).room A.in1:=by
 show A.units+1+(n+1)<=cLine;lia
def Dh(F:A.units+16<cLine)(I:Inv X Z U H s)(g:DGd X.prog X.w n hn H a y (some v))(R:RelV y u)(h:∀J N,Inv X Z U H N->RelV v J->Q J N):
  wpAny (model X.prog X.w) A (getItem (.ref a) u) Q E s:=by
 obtain⟨T,k,b,e,B,C,P,l⟩:=g;subst C;cases(show u=Value.ref b from R);obtain⟨z,hd,O,L,j⟩:=Ek I.hok e B;obtain⟨J,D,G⟩:=UX.some_of (v:=v) (o:=(atKey O k).map (·.2)) (by rw[l];exact L.val k);obtain⟨p,S,M⟩:=Zj.mp D;refine wpAny_getItem_heap (Bn F) (TV (n:=n+1) (k:=.inr k) I.hok P Y) j S ?_;rw[M];exact h J _ (I.tok _) G
def Lu(O:A.units+16<cLine)(I:Inv X Z U H s)(g:DGd X.prog X.w n hn H a y o)(L:RelV y u)(h:∀G,Inv X Z U H G->Q (.bool<|!o.isSome) G):
  wpAny (model X.prog X.w) A (compareOp .NotIn u<|.ref a) Q E s:=by
 obtain⟨M,k,b,e,N,R,T,l⟩:=g;subst R;cases(show u=Value.ref b from L);obtain⟨z,hd,D,J,B⟩:=Ek I.hok e N;refine wpAny_notIn_heap (Bn O) (TV (n:=n+1) (k:=.inr k) I.hok T Y) hd B ?_;have q:=(J.val k).isSome_eq;rw[jR]at q;rw[<-q,<-l];exact h _<|I.tok _
def Qt{Z:List (DE n)}{G}(z:Z.length<=sizeLine)(hd:(a==sysModules)=false)(r:KDp Z G)(d:h.DictOfH (WG P w n hn) a G):VS P w H h a (ddO P w n hn a Z):=by
 obtain⟨o,U,C,R,I,F,E,_,D⟩:=d;refine⟨⟨z,hd,G,r,o,U,C,R,I,F,E,D⟩,⟨o,R⟩,λS A q k=>?_⟩;obtain⟨T,L,J,B,O,M,N,g1,g⟩:=q;exact⟨T,L,J,B,O,M,N,k O g1,g⟩
def Dg(D:A.units+16<cLine)(I:Inv X J U H s)(g:DPd X.prog X.w n hn H a y v p)(O:RelV y u)(R:RelV v r)(h:∀M,Inv X J U p M->Q () M):
  wpAny (model X.prog X.w) A (setItem (.ref a) u r) Q E s:=by
 obtain⟨G,k,b,e,T,P,j,l,t⟩:=g;subst P t;cases(show u=Value.ref b from O);obtain⟨z,hd,N,Z,m⟩:=Ek I.hok e T;have B:N.length<=sizeLine:=by rw[<-Paired.length Z];exact z
 have C:(putD G k b v).length<=sizeLine:=by have:=KE G k b v;lia
 refine wpAny_setItem_heap (hsz:=B) (Bn D) (TV (n:=n+1) (k:=.inr k) I.hok j Y) m λc L F=>h _ ?_;exact Ga I (by rw[e];exact True.intro) F (let⟨q,_,_,S,_⟩:=L;⟨q,S⟩)<|Qt C hd (Z.put k b R) L
def QA(I:Inv X Z U H s)(g:DGd X.prog X.w n hn H a y o):s.TypeIs (.ref a) "dict":=by
 obtain⟨J,k,b,e,G,_⟩:=g;obtain⟨_,_,M,_,L⟩:=Ek I.hok e G;exact L.typeIs
def SF(P:Program)(w:World)(n:Nat)(hn:n+1<=8)(td ty:TE):TE:=λU H Q=>td U H λx J=>ty U J λy Z=>JI x λa=>∃v,DGd P w n hn Z a y (some v)/\Q v Z
def IK(P:Program)(w:World)(n:Nat)(hn:n+1<=8)(ty td:TE):TE:=λU H Q=>ty U H λy J=>td U J λx Z=>JI x λa=>∃o,DGd P w n hn Z a y o/\Q (.bl<|!o.isSome) Z
def Su(P:Program)(w:World)(n:Nat)(hn:n+1<=8)(td ty tv:TE):TS:=λD U H=>tv U H λv L=>td U L λx G=>ty U G λy J=>JI x λa=>∃Z,DPd P w n hn J a y v Z/\D.nx U Z
def SE(P:Program)(w:World)(n:Nat)(hn:n+1<=8):TE:=λU H Q=>∀a,H a=none->Q (.ref a) (upd H a<|ddO P w n hn a [])
def KP(T:X.A.units+16<cLine)(D:PE X o td)(E:PE X i ty)(B:QJ i):PE X (.Subscript o i pos) (SF X.prog X.w n hn td ty):=by
 intro Z s U H Q I h;refine Rn PySem.F.slot_dict_getitem.lookup B<|thn (D Z s U H _ I h) λu M ⟨x,P,S,O,R⟩=>thn (E Z M U P _ S R) λt q ⟨y,C,L,N,J⟩=>?_;replace J:=JI.old J;obtain⟨a,F,v,g,J⟩:=J;subst F;obtain rfl:u=Value.ref a:=O;exact⟨QA L g,Dh T L g N λj z A G=>⟨v,C,A,G,J⟩⟩
def Bq(R:X.A.units+16<cLine)(B:PE X i ty)(T:PE X o td):PC X .NotIn i o (IK X.prog X.w n hn ty td):=by
 intro Z s U H Q I h;refine thn (B Z s U H _ I h) λz G ⟨y,C,A,L,N⟩=>thn (T Z G U C _ A N) λu j ⟨x,S,F,M,J⟩=>?_;replace J:=JI.old J;obtain⟨a,D,O,g,J⟩:=J;subst D;obtain rfl:u=Value.ref a:=M;exact Lu R F g L λP E=>⟨.bl<|!O.isSome,S,E,rfl,J⟩
def KH(E:X.A.units+16<cLine)(A:PE X o td)(S:PE X i ty)(B:PE X value tv)(F:swapsWith value (some<|.Subscript o i pos') pos.line X.env=pure false):
  PS X (.Assign [.Subscript o i pos'] value pos) (Su X.prog X.w n hn td ty tv):=by
 intro Z s U H D I h;refine wpAny_Assign_Subscript (thn (B Z s U H _ I h) λr L ⟨v,m,z,O,T⟩=>thn (A Z L U m _ z T) λu G ⟨x,t,j,N,R⟩=>thn (S Z G U t _ j R) λc p ⟨y,d,Q,M,J⟩=>?_) F;replace J:=JI.old J;obtain⟨a,C,q,g,J⟩:=J;subst C;obtain rfl:u=Value.ref a:=N;exact Dg E Q g M O λk P=>⟨U,q,P,J⟩
def Lv{P:Program}{w:World}(h:Heap)(Z:sysModules<h.objs.size):VS P w H (h.push {cls:=.type "dict",data:=.dict #[]}) h.objs.size (ddO P w n hn h.objs.size []):=by
 refine Qt (Zc _) (beq_eq_false_iff_ne.mpr<|jp Z) .nil ⟨_,#[],_,ZY _ rfl,?_,rfl,rfl,(λx m=>nomatch m),qb⟩;exact⟨Y,Y,Y⟩
def KO:PE X (.Dict [] [] pos) (SE X.prog X.w n hn):=λZ s U H Q I h=>
 wpAny_Dict_empty ⟨.ref s.heap.objs.size,_,I.laid (a:=s.heap.objs.size) (o:=ddO X.prog X.w n hn s.heap.objs.size []) (t':=s.toks) (λ_ _ q=>ZE _ q) (ZG _)<|Lv s.heap I.big,rfl,h _<|I.hok.fresh<|ZG _⟩
def y9(Z:Vu k A):A.units+16<cLine:=by have:=Z.un;lia
end
end L2
namespace L2
open PySem
inductive Tg where
 |tag (t:Str)|cell (n:Nat)|giv (i:Nat)
def Tg.dat:Tg->Dat
 |.tag t=>.tup [.str "tag",.str t]
 |.cell n=>.tup [.str "cell",.int (n:Nat)]
 |.giv i=>Ta i []
def Tg.ti(x:Tg):x.dat.ti=true:=by cases x <;> simp[Tg.dat,Dat.ti,Dat.tis,La]
abbrev Mk1:=Nat×List Int
def hn1:1+1<=8:=by decide
def kyD(c:Mk1):List (DK 1):=[.inl (some<|.inl (c.1:Int)),.inr (c.2.map λi=>some<|.inl i)]
theorem EM:∀Z:kT,List.map (dkD 0) (Z.map λi=>(some (.inl i):WP))=Z.map Dat.int
 |[]=>rfl
 |w::Z=>congrArg (Dat.int w:: ·)<|EM Z
def GS(c:Mk1):keD (kyD c)=.tup [.int (c.1:Nat),Js c.2]:=congrArg (λz=>Dat.tup [Dat.int (c.1:Nat),Dat.tup z])<|EM c.2
def EN{a b:Mk1}(h:kyD a=kyD b):a=b:=by
 obtain⟨G,O⟩:=a;obtain⟨J,N⟩:=b;unfold kyD at h;have Z:=List.cons.inj h;have L:=(List.cons.inj Z.2).1;have R:(G:Int)=J:=Sum.inl.inj<|ZT<|Sum.inl.inj Z.1;have M:O=N:=(List.map_inj_right λi j z=>Sum.inl.inj<|ZT z).mp<|Sum.inr.inj L;rw[show G=J by lia,M]
def L3(bs:ph)(c:Mk1):Dat:=.tup [bs.getD c.1 (.tup []),Js c.2]
def Vi(cs:List Mk1):ph:=cs.foldl (λZ c=>Z++[L3 Z c]) [.tup []]
def UJ:Vi (cs++[c])=Vi cs++[L3 (Vi cs) c]:=by unfold Vi;rw[qi];rfl
theorem Um:∀(n:Nat)(Z:List Mk1),Z.length=n->(Vi Z).length=n+1/\∀d∈Vi Z,d.ti=true
 |0,Z,h=>by
  obtain rfl:=vg h;refine⟨Y,λd hd=>?_⟩;have:d=.tup []:=ZQ.mp hd;subst this;simp[Dat.ti,Dat.tis]
 |n+1,Z,h=>by
  have J:Z≠[]:=λz=>by rw[z]at h;cases h
  rw[<-vf J,UJ];obtain⟨L,G⟩:=Um n Z.dropLast (by rw[jf,h];rfl);refine⟨by rw[ZL,L];rfl,λd hd=>?_⟩;rcases ZX.mp hd with q|q
  .exact G d q
  .rw [ZQ]at q
   subst q
   have:((Vi Z.dropLast)[(Z.getLast J).1]?.getD<|.tup []).ti=true:=by
    cases e:(Vi Z.dropLast)[(Z.getLast J).1]? with
    |none=>simp[Dat.ti,Dat.tis]
    |some x=>exact G x<|ZJ e
   simp[L3,Dat.ti,Dat.tis,this,Rf]
def Ul(Z:List Mk1):(Vi Z).length=Z.length+1:=(Um _ Z rfl).1
def UA(Z:List Mk1):Dat.tis (Vi Z)=true:=U9 (Um _ Z rfl).2
abbrev Rho:=Str->Option Tg
def KnR(A:GA)(H:Hp)(a:Addr)(ρ:Rho)(m:Nat):Prop:=a≠A.st/\∃Z,H a=some (.dK Z)/\Z.length<=m/\∀x J,ρ x=some J->∃v,VH Z (Sum.inr x)=some v/\Has H v J.dat
structure Sta where
 f:Str
 pl:List Int
 ρ:Rho
def Mw(kvs:List (DE 1))(cs:List Mk1):Prop:=kvs.length=cs.length/\∀(k:Nat) p,kvs[k]?=some p->∃c,cs[k]?=some c/\p.1=kyD c/\p.2.2=.int ((k+1:Nat):Int)
def Mw.no(h:Mw Z cs)(n:c∉cs):Rh Z (kyD c)=none:=by
 unfold Rh;rw[qe.mpr ?_]
 .rfl
 intro p J z;obtain⟨k,G⟩:=vp.mp J;obtain⟨N,M,L,_⟩:=h.2 k p G;have e:N=c:=EN<|L.symm.trans<|Zt z;subst e;exact n<|ZJ M
def Mw.at(h:Mw Z cs)(M:cs.Nodup)(L:cs[k]?=some c):Rh Z (kyD c)=some (.int ((k+1:Nat):Int)):=by
 have G:=(ZF.mp L).1;have J:k<Z.length:=by rw[h.1];exact G
 obtain⟨C,O,F,U⟩:=h.2 k _<|ZD J;rw[L]at O;cases O;unfold Rh
 cases e:Z.find? λp=>decide (p.1=kyD c)with
 |none=>
  have:=qe.mp e _<|List.getElem_mem J;exact Zr (decide_eq_true F) this
 |some p=>
  have D:=vt e;have B:p.1=kyD c:=by have:=List.find?_some (p:=λp:DE 1=>decide<|p.1=kyD c) e;exact Zt this
  obtain⟨j,E⟩:=vp.mp D;obtain⟨S,g1,I,A⟩:=h.2 j p E;have:S=c:=EN<|I.symm.trans B;subst this;have N:=(ZF.mp g1).1
  have:j=k:=by
   have T:=(ZF.mp g1).2;have R:=(ZF.mp L).2;rcases kD j k with q|q|q
   .exact Zr (T.trans R.symm) (jc.mp M j k N G q)
   .exact q
   .exact Zr (R.trans T.symm) (jc.mp M k j G N q)
  subst this;rw[show(some p).map (·.2.2)=some p.2.2 from rfl,A]
def Mw.snoc(h:Mw Z cs)(n:c∉cs):Mw (putD Z (kyD c) b<|.int ((cs.length+1:Nat):Int)) (cs++[c]):=by
 unfold putD;rw[h.no n];rw[Zq (by simp)];refine⟨by rw[ZL,ZL,h.1];rfl,λk p J=>?_⟩;rcases jr k Z.length with q|q
 .rw [vd q]at J
  obtain⟨M,L,G⟩:=h.2 k p J;exact⟨M,by rw[vd (by rw[<-h.1];exact q)];exact L,G⟩
 .have kl:=(ZF.mp J).1
  rw[ZL,vc]at kl;have:k=Z.length:=by lia
  subst this;rw[vb (ZG _),vk]at J;cases J;exact⟨c,by rw[h.1,vb<|ZG _,vk];rfl,Y,by rw[h.1]⟩
def FrG(A:GA)(H H':Hp):Prop:=∀b o,b≠A.bs->b≠A.nu->b≠A.st->H b=some o->H' b=some o
def FrG.refl(A:GA)(H:Hp):FrG A H H:=λb o _ _ _ h=>h
def FrG.trans(a:FrG A H M)(b:FrG A M L):FrG A H L:=λc o G J Z e=>b c o G J Z<|a c o G J Z e
def FrG.of(s:Same H Z):FrG A H Z:=λb o _ _ _ h=>s _ _ h
def U5(sts:Nat->Option Sta)(m:Nat):Nat:=((List.range<|m+1).filter λk=>(sts k).isSome).length
def Wt:U5 sts (m+1)=U5 sts m+if(sts<|m+1).isSome then 1 else 0:=by
 unfold U5;rw[jo,qX,ZL]
 congr 1
 cases e:(sts<|m+1).isSome <;> simp[e]
def En:∀m,U5 sts m<=m+1:=λm=>by
 unfold U5;exact Zb (List.length_filter_le _ _) (by rw[vo];exact ZG _)
def Fe(h:m<=m'):U5 sts m<=U5 sts m':=by
 induction h with
 |refl=>exact ZG _
 |step _ ih=>rw[Wt];lia
def stP(sts:Nat->Option Sta)(k:Nat)(s:Sta):Nat->Option Sta:=λn=>if n=k then some s else sts n
def L0(h:(sts k).isSome=true):U5 (stP sts k s) m=U5 sts m:=by
 unfold U5
 congr 1
 refine List.filter_congr λj _=>?_;unfold stP
 by_cases z:j=k
 .rw [Zp z,z,h];rfl
 .rw [Zq z]
theorem Nl(h:sts k=none):∀m,k<=m->U5 (stP sts k s) m=U5 sts m+1
 |0,hk=>by
  obtain rfl:k=0:=by lia
  simp[U5,stP,h]
 |m+1,hk=>by
  rw[Wt,Wt]
  by_cases z:k=m+1
  .subst z
   have J:∀Z,Z<m+1->U5 (stP sts (m+1) s) Z=U5 sts Z:=λZ L=>by
    unfold U5
    congr 1
    refine List.filter_congr λj G=>?_;unfold stP;rw[Zq (by have:=jD.mp G;lia)]
   rw[J m (by lia),h];simp[stP]
  .rw [Nl h m (by lia)]
   rw[show(stP sts k s<|m+1)=sts (m+1) by unfold stP;rw[Zq (by lia)]];lia
structure GG(P:Program)(w:World)(H:Hp)(CG:Addr)(A:GA)(cs:List Mk1)(sts:Nat->Option Sta)(av:Addr->Prop):Prop where
 ins:H A.t=some (.ins CG A.dx (Ut A))
 bs:∃xs,H A.bs=some (.lst xs)/\HasL H xs (Vi cs)
 nu:∃kvs,H A.nu=some (ddO P w 1 hn1 A.nu kvs)/\KOk H kvs/\Mw kvs cs
 nd:cs.Nodup
 gv:H A.gv=some (.tup (A.gs.map V.str))
 st:∃kvs,H A.st=some (.dK kvs)/\kvs.length<=U5 sts cs.length/\∀n s,sts n=some s->∃t p kn,VH kvs (Sum.inl (n:Int))=some (.ref t)/\H t=some (.tup [.str s.f,.ref p,.ref kn])/\H p=some (.tup (s.pl.map V.int))/\KnR A H kn s.ρ (3+s.pl.length)/\ ¬av kn
def GG.tk(g:GG P w H CG A cs sts av)(f:FrG A H M):TK H M:=λa N h=>by
 obtain⟨O,L,_⟩:=g.bs;obtain⟨Z,G,_⟩:=g.nu;obtain⟨R,J,_⟩:=g.st;refine f a _ (λz=>?_) (λz=>?_) (λz=>?_) h
 .rw [z,L]at h;cases h
 .rw [z,G]at h;unfold ddO at h;cases h
 .rw [z,J]at h;cases h
def KnR.le(k:KnR A H a ρ m)(h:m<=m'):KnR A H a ρ m':=let⟨n,Z,L,J,G⟩:=k;⟨n,Z,L,Zb J h,G⟩
def KnR.fr(k:KnR A H a ρ m)(g:GG P w H CG A cs sts av)(f:FrG A H B):KnR A B a ρ m:=by
 obtain⟨n,J,Z,N,O⟩:=k;obtain⟨D,T,_⟩:=g.bs;obtain⟨E,R,_⟩:=g.nu;refine⟨n,J,f a _ (λz=>?_) (λz=>?_) n Z,N,λx G e=>let⟨v,M,L⟩:=O x G e;⟨v,M,VL (g.tk f) _ (Tg.ti G) L⟩⟩
 .rw [z,T]at Z;cases Z
 .rw [z,R]at Z;unfold ddO at Z;cases Z
def KnR.mono(k:KnR A H a ρ m)(s:Same H R):KnR A R a ρ m:=by
 obtain⟨n,Z,O,M,N⟩:=k;exact⟨n,Z,s _ _ O,M,λx L e=>let⟨v,G,J⟩:=N x L e;⟨v,G,J.mono s⟩⟩
def KOk.tk{Z:List (DE 1)}{L:List Mk1}(k:KOk H Z)(n:Mw Z L)(t:TK H M):KOk M Z:=λp m=>by
 obtain⟨j,J⟩:=vp.mp m;obtain⟨c,_,G,_⟩:=n.2 j p J;have:=k p m;rw[G,GS]at this |-;exact VL t _ (by simp[Dat.ti,Dat.tis,Rf]) this
def GG.mono(g:GG P w H CG A cs sts av)(s:Same H X):GG P w X CG A cs sts av:=by
 obtain⟨J,C,U⟩:=g.bs;obtain⟨R,S,I,F⟩:=g.nu;obtain⟨Z,E,D,B⟩:=g.st;refine⟨s _ _ g.ins,⟨J,s _ _ C,U.mono s⟩,⟨R,s _ _ S,λp m=>(I p m).mono s,F⟩,g.nd,s _ _ g.gv,Z,s _ _ E,D,λn st e=>?_⟩;obtain⟨t,p,T,O,N,M,L,G⟩:=B n st e;exact⟨t,p,T,O,s _ _ N,s _ _ M,L.mono s,G⟩
def GG.avoid(g:GG P w H CG A cs sts av)(h:H l=none)(s:Same H F):GG P w F CG A cs sts (λa=>av a\/a=l):=by
 have E:=g.mono s;obtain⟨Z,D,B,T⟩:=g.st;refine{E with st:=⟨Z,s _ _ D,B,λn st e=>?_⟩};obtain⟨t,p,R,O,N,M,J,L⟩:=T n st e;refine⟨t,p,R,O,s _ _ N,s _ _ M,J.mono s,λz=>z.elim L λz=>?_⟩;obtain⟨_,I,G,_,_⟩:=J;rw[z,h]at G;cases G
def GG.less(g:GG P w H CG A cs sts av)(h:∀a,av' a->av a):GG P w H CG A cs sts av':=by
 obtain⟨Z,B,T,R⟩:=g.st;refine{g with st:=⟨Z,B,T,λn st e=>?_⟩};obtain⟨t,p,O,N,M,L,G,J⟩:=R n st e;exact⟨t,p,O,N,M,L,G,λz=>J<|h _ z⟩
def GG.wr(g:GG P w H CG A cs sts av)(J:H l=some (.dK o))(a:av l)(b:SameB l H T)(n:l≠A.st):GG P w T CG A cs sts av:=by
 obtain⟨B,M,r⟩:=g.bs;obtain⟨q,G,u,R⟩:=g.nu;obtain⟨L,f,d,c⟩:=g.st;have Z:TK H T:=λa i h=>b _ _ (λz=>by rw[z,J]at h;cases h) h;refine⟨b _ _ (λz=>by have:=g.ins;rw[z,J]at this;cases this) g.ins,⟨B,b _ _ (λz=>by rw[z,J]at M;cases M) M,Vt Z _ (UA cs) r⟩,⟨q,b _ _ (λz=>by rw[z,J]at G;unfold ddO at G;cases G) G,u.tk R Z,R⟩,g.nd,Z _ _ g.gv,L,b _ _ n.symm f,d,λk st e=>?_⟩;obtain⟨t,p,m,j,Q,X,C,N⟩:=c k st e;obtain⟨I,y,F,D,E⟩:=C;exact⟨t,p,m,j,Z _ _ Q,Z _ _ X,⟨I,y,b _ _ (λz=>N<|z ▸ a) F,D,λx O e=>let⟨v,U,S⟩:=E x O e;⟨v,U,VL Z _ (Tg.ti O) S⟩⟩,N⟩
def XZ(cs:List Mk1)(c:Mk1)(n:Nat)(cs':List Mk1):Prop:=(∃k,cs[k]?=some c/\n=k+1/\cs'=cs)\/(c∉cs/\n=cs.length+1/\cs'=cs++[c])
def Ue:(ddO P w 1 hn1 a Z)≠.lst J:=by unfold ddO;intro z;cases z
def Ws:(ddO P w 1 hn1 a Z)≠.dK J:=by unfold ddO;intro z;cases z
def El:(ddO P w 1 hn1 a Z)≠.tup J:=by unfold ddO;intro z;cases z
def WH:(ddO P w 1 hn1 a Z)≠.ins C d J:=by unfold ddO;intro z;cases z
def Yy{H:Hp}{o p:HO}(h:H a=some o)(g:H b=some p)(n:o≠p):a≠b:=λz=>n (by rw[z,g]at h;exact(ZT h).symm)
end L2
namespace K4
open PySem L2
section
variable{C CK CG CO CW CD:Addr}
def Mo(A:GA):(Ut A).lookup ("births":Str)=some (V.ref A.bs):=rfl
def Mn(A:GA):(Ut A).lookup ("numbers":Str)=some (V.ref A.nu):=rfl
def ya:Yh ["self","maker","place"] ["self","maker","place"] (Yd DZ):=Y2
inductive SNA(P:Program)(w:World)(CG:Addr)(H:Hp)(Q:VK):List V->Prop
 |mk (A:GA) (cs:List Mk1) (sts:Nat->Option Sta) (av:Addr->Prop) (m:Nat) (pl:List Int) (p:Addr) (g:GG P w H CG A cs sts av) (hp:H p=some (.tup (pl.map V.int))) (hm:m<=cs.length) (lc:cs.length<=9000)
  (q:∀n cs' H',XZ cs (m,pl) n cs'->FrG A H H'->GG P w H' CG A cs' sts av->Q (.int (n:Nat)) H'):SNA P w CG H Q [.ref A.t,.int (m:Nat),.ref p]
def IR(P:Program)(w:World)(CG:Addr):Sp:=λZ H Q _=>SNA P w CG H Q Z
def Cz(B:Blt mg)(TG:GCl K CG)(F:Fun K "number_at" "Ground.number_at" DZ f fd):Ye P w K mg base CX0 (n+1) f fd ["self","maker","place"] (IR P w CG):=by
 refine F.oi ya λT6 A R3 s H vs Q E hr h=>?_;obtain⟨R,U,R1,av,m,O,p,g,hp,hm,lc,q⟩:=h;have hu:=y9 hr;refine⟨_,YY (Y3 (Ub<|Bq (n:=1) (hn:=hn1) hu (Yj<|pa2 (pv 1)<|pv 2)<|Yt (pv 0) rfl) (YY (KH (n:=1) (hn:=hn1) hu (Yt (pv 0) rfl) (Yj<|pa2 (pv 1)<|pv 2) (Y9 Yw rfl B.len Zu (pa1<|Yt (pv 0) rfl)) rfl)
  (YZ<|VZ<|Uy Zz Z0 Z1 JM (Yt (pv 0) rfl)<|pa1<|Yj<|pa2 (Yk Y8 (Yt (pv 0) rfl) (pv 1) λ_ _=>rfl)<|pv 2)) Yo)
  (YZ<|Yi<|KP (n:=1) (hn:=hn1) hu (Yt (pv 0) rfl) (Yj<|pa2 (pv 1)<|pv 2) λ_ _=>rfl),?_⟩
 dsimp only[Vf,Cx.nox,Cx.wish];show let T0:=_;let T1:=_;let T2:=Yl _ T1;Yl (VF _ T2 _) T0 _ _ _
 intros
 refine⟨sl 2,λt1 R6=>?_⟩;refine up_in R6 _ λH1 j g1=>?_;have M:=g.mono j;obtain⟨D,J2,l,T⟩:=M.nu
 have I:∀{Hx:Hp}{t:Addr},Hx t=some (.tup [.int (m:Nat),.ref p])->Hx p=some (.tup<|O.map V.int)->Has Hx (.ref t) (keD<|kyD (m,O)):=λh1 h2=>by
  rw[GS];exact Yv h1<|Z4 (by unfold Has;rfl)<|Z5<|Jc h2
 exists CG,_,_,_,M.ins,TG.cl,TG.nu,Mn _,_,⟨D,kyD (m,O),t1,J2,l,Y,I g1<|j _ _ hp,rfl⟩,_,rfl
 by_cases hc:(m,O)∈U
 .obtain ⟨k,hk⟩:=vp.mp hc
  have ev:=T.at g.nd hk;refine Y0 (by rw[ev];simp) ?_;refine⟨CG,_,_,_,M.ins,TG.cl,TG.nu,Mn _,sl 2,λt2 x=>?_⟩;refine up_in x _ λH2 J g2=>?_;exists _,⟨D,kyD (m,O),t2,J _ _ J2,λp m=>(l p m).mono J,Y,I g2<|J _ _<|j _ _ hp,ev.symm⟩;exact q (k+1) U H2 (.inl ⟨k,hk,Y,Y⟩) (.of<|j.trans J)<|M.mono J
 .have ev:=T.no hc
  refine VG (by rw[ev];rfl) ?_;obtain⟨xs,y,i⟩:=M.bs;have lx:=i.length;rw[Ul]at lx;refine⟨CG,_,_,_,M.ins,TG.cl,TG.bs,Mo _,R.bs,_,Y,.inl<|Z3 y,CG,_,_,_,M.ins,TG.cl,TG.nu,Mn _,sl 2,λt2 x=>?_⟩;refine up_in x _ λH2 J g2=>?_;have S:=M.mono J;have G:=J _ _ J2;have v:KOk H2 D:=λp m=>(l p m).mono J;refine⟨_,⟨D,kyD (m,O),t2,G,v,Y,I g2<|J _ _<|j _ _ hp,JH (by rw[T.1];lia),rfl⟩,?_⟩;rw[lx];refine fld_in R.nu _ λH3 b3 g3=>?_;have bn:R.bs≠R.nu:=Yy (J _ _ y) G Ue.symm;have L:=b3 _ _ bn<|J _ _ y;have N:=b3 _ _ (Yy S.ins G WH.symm) S.ins;have R0:TK H2 H3:=λa ys h=>b3 _ _ (Yy h G El.symm) h;have M2:m<xs.length:=by lia
  refine⟨CG,_,_,_,N,TG.cl,TG.bs,Mo _,.inl ⟨Y,_,Z3 L⟩,CG,_,_,_,N,TG.cl,TG.bs,Mo _,_,_,Z3 L,VE<|ZD M2,sl 2,λt4 R5=>?_⟩;refine up_in R5 _ λH4 X g4=>?_;refine⟨R.bs,_,_,Y,Y,X _ _ L,JH<|by lia,?_⟩;refine fld_in R.bs _ λH5 b5 g5=>?_;have G1:=Jx b5<|X _ _ L;have Z:TK H2 H5:=λa ys h=>G1 _ _<|X _ _<|R0 _ _ h;have G2:=b5 _ _ bn.symm<|X _ _ g3;have r:=b5 _ _ (Yy (X _ _ N) (X _ _ L) (by intro z;cases z))<|X _ _ N;have fr:FrG R H H5:=λb o n1 n2 n3 e=>b5 _ _ n1<|X _ _<|b3 _ _ n2<|J _ _<|j _ _ e;have c:=T.snoc (b:=t2) hc
  have u:KOk H5 (putD D (kyD (m,O)) t2<|.int ((U.length+1:Nat):Int)):=(v.tk T Z).put (by
   rw[GS];have:=I g2<|J _ _<|j _ _ hp;rw[GS]at this;exact VL Z _ (by simp[Dat.ti,Dat.tis,Rf]) this)
  have G3:(U++[(m,O)]).Nodup:=by
   rw[vX];exact⟨g.nd,by simp,λa ha b hb z=>by rw[ZQ]at hb;subst hb;subst z;exact hc ha⟩
  have R7:(U++[(m,O)])[U.length]?=some (m,O):=by rw[vb (ZG _),vk];rfl
  have T5:=c.at G3 R7
  have T3:GG P w H5 CG R (U++[(m,O)]) R1 av:=by
   exists r,⟨_,g5,?_⟩,⟨_,G2,u,c⟩,G3,Z _ _ S.gv
   .rw [UJ]
    obtain⟨d,O1,R8⟩:=i.get<|ZD M2;have e:(Vi U).getD m (.tup [])=d:=by rw[ve,O1];rfl
    refine Z7 (Vt Z _ (UA U)<|i.mono J)<|Z5 ?_;have dt:d.ti=true:=(Um _ U rfl).2 d<|ZJ O1;unfold L3;rw[show((m,O):Mk1).1=m from rfl,e];exact Yv (G1 _ _ g4)<|Z4 (VL Z _ dt<|R8.mono J)<|Z5<|Jc<|Z _ _<|J _ _<|j _ _ hp
   .obtain ⟨ks,h6,h7,h8⟩:=S.st
    have sn:R.st≠R.nu:=Yy h6 G Ws.symm;have sb:R.st≠R.bs:=Yy h6 (J _ _ y) (by intro z;cases z);have T4:FrG R H2 H5:=λb o n1 n2 n3 e=>b5 _ _ n1<|X _ _<|b3 _ _ n2 e;refine⟨ks,b5 _ _ sb<|X _ _<|b3 _ _ sn h6,Zb h7 (Fe (by rw[ZL];exact je _ _)),λn st e=>?_⟩;obtain⟨t,p',kn,u1,u2,u3,u4,u5⟩:=h8 n st e;exact⟨t,p',kn,u1,Z _ _ u2,Z _ _ u3,u4.fr S T4,u5⟩
  refine⟨CG,_,_,_,r,TG.cl,TG.nu,Mn _,sl 2,λt6 R4=>?_⟩;refine up_in R4 _ λH6 s6 g6=>?_;exists _,⟨_,kyD (m,O),t6,s6 _ _ G2,λp m=>(u p m).mono s6,Y,I g6<|s6 _ _<|Z _ _<|J _ _<|j _ _ hp,T5.symm⟩;exact q (U.length+1) _ H6 (.inr ⟨hc,Y,Y⟩) (fr.trans<|.of s6)<|T3.mono s6
end
end K4
namespace L2
open PySem
structure OM where
 t:Addr
 dx:Addr
 gr:Addr
 n:Nat
 F:Str
 pl:Addr
 kn:Addr
 bv:V
 wl:Addr
def Ji(A:OM):List (Str×V):=[("ground",.ref A.gr),("number",.int (A.n:Nat)),("f",.str A.F),("place",.ref A.pl),("known",.ref A.kn),("body",A.bv),("waiting",.ref A.wl)]
structure GM(H:Hp)(CO:Addr)(A:GA)(O:OM)(b:Bd):Prop where
 ins:H O.t=some (.ins CO O.dx (Ji O))
 bd:Has H O.bv b.dat
 ok:b.ok
 gr:O.gr=A.t
def GM.mono(g:GM H CO A O b)(s:Same H Z):GM Z CO A O b:=⟨s _ _ g.ins,g.bd.mono s,g.ok,g.gr⟩
def GG.ne(g:GG P w H CG A cs sts av)(h:H a=some o)(L:∀Z,o≠.lst Z)(G:∀Z,o≠.dK Z)(J:∀k,o≠ddO P w 1 hn1 A.nu k):a≠A.bs/\a≠A.nu/\a≠A.st:=by
 obtain⟨Z,R,_⟩:=g.bs;obtain⟨M,O,_⟩:=g.nu;obtain⟨T,N,_⟩:=g.st;exact⟨Yy h R<|L _,Yy h O<|J _,Yy h N<|G _⟩
def GM.fr(m:GM H CO A O b)(g:GG P w H CG A cs sts av)(f:FrG A H L):GM L CO A O b:=by
 obtain⟨G,J,Z⟩:=g.ne m.ins (λ_ z=>by cases z) (λ_ z=>by cases z) λ_=>WH.symm;exact⟨f _ _ G J Z m.ins,VL (g.tk f) _ (Bd.ti _) m.bd,m.ok,m.gr⟩
structure MX(P:Program)(w:World)(Hm H:Hp)(C CK CG:Addr)(A:GA)(ks:List (Str×Shp))(d:Str->Nat)(ds:List Dd)(cs:List Mk1)(sts:Nat->Option Sta)(av:Addr->Prop):Prop where
 sm:Same Hm H
 bi:BI Hm C CK A.bk ks d ds
 f1:Hm A.bs=none
 f2:Hm A.nu=none
 f3:Hm A.st=none
 gg:GG P w H CG A cs sts av
def MX.fr(m:MX P w L H C M CG A J d G cs sts av)(f:FrG A H Z)(g:GG P w Z CG A cs' sts' av):MX P w L Z C M CG A J d G cs' sts' av:=
 ⟨λb o e=>f b o (Yb e m.f1) (Yb e m.f2) (Yb e m.f3)<|m.sm _ _ e,m.bi,m.f1,m.f2,m.f3,g⟩
def MX.mono(m:MX P w G H C M CG A Z d J cs sts av)(s:Same H L):MX P w G L C M CG A Z d J cs sts av:=m.fr (.of s)<|m.gg.mono s
def Nz{Z:Addr->Prop}(O:∀a,Z a->∃o,H a=some o)(f:FrG A H J)(g:GG P w J CG A cs sts av'):∀a,Z a->∃o,J a=some o:=λa h=>by
 obtain⟨o,e⟩:=O a h;obtain⟨R,N,_⟩:=g.bs;obtain⟨G,M,_⟩:=g.nu;obtain⟨T,L,_⟩:=g.st
 by_cases z1:a=A.bs
 .exact ⟨_,by rw[z1];exact N⟩
 by_cases z2:a=A.nu
 .exact ⟨_,by rw[z2];exact M⟩
 by_cases z3:a=A.st
 .exact ⟨_,by rw[z3];exact L⟩
 exact⟨o,f a o z1 z2 z3 e⟩
abbrev Ss:=List Mk1×(Nat->Option Sta)
inductive Thr(R:Nat->Ss->Tg->Ss->Prop):Nat->Ss->List Tg->Ss->Prop
 |nil:Thr R 0 s [] s
 |snoc (h:Thr R i s ths s1) (e:R i s1 th s2):Thr R (i+1) s (ths++[th]) s2
def VP(ns:kQ)(ths:List Tg):Rho:=λx=>(ns.zip ths).lookup x
def KY(ds:List Dd)(f:Str)(ns:kQ):Prop:=∃x∈ds,x.1.1=f/\ns=x.1.2.1.map (·.1)
def MCp(ds:List Dd)(F:Str)(ρ:Rho)(R:Nat->Ss->Tg->Ss->Prop)(c:Bd)(pl:kT)(k:Nat)(s s':Ss):Prop:=match c with
 |.ask f as=>∃ths s2 ns,Thr R as.length s ths s2/\KY ds f ns/\s'=(s2.1,stP s2.2 k ⟨f,[],VP ns ths⟩)
 |_=>s'=(s.1,stP s.2 k ⟨F,pl,ρ⟩)
def TAp(ds:List Dd)(F:Str)(b:Bd)(num:Nat)(ρ:Rho):Nat->List Int->Ss->Tg->Ss->Prop
 |0,_,_,_,_=>False
 |n+1,pl,s,th,s'=>∃c,b.at pl=some c/\match c with
  |.tag t=>th=.tag t/\s'=s
  |.name x=>ρ x=some th/\s'=s
  |c=>∃k cs1,XZ s.1 (num,pl) k cs1/\th=.cell k/\MCp ds F ρ (λi=>TAp ds F b num ρ n<|pl++[(i:Int)]) c pl k (cs1,s.2) s'
def OkT(ds:List Dd)(ρ:Rho):Nat->Bd->Prop
 |0,_=>False
 |n+1,.name x=>∃th,ρ x=some th
 |n+1,.ask f as=>(∃x∈ds,x.1.1=f/\x.1.2.1.length=as.length/\as.length<=3/\(x.1.2.1.map (·.1)).Nodup)/\∀a∈as,OkT ds ρ n a
 |n+1,_=>True
theorem Gs:∀{Z:List Bd}{i:Nat}{a:Bd},Z[i]?=some a->Bd.sizes (Z.take<|i+1)=Bd.sizes (Z.take i)+a.size
 |[],i,a,h=>by simp at h
 |x::Z,0,a,h=>by cases h;simp[Bd.sizes]
 |x::Z,i+1,a,h=>by
  have J:Z[i]?=some a:=h;have:=Gs J;simp only[List.take_succ_cons,Bd.sizes]at this |-;lia
theorem Gu:∀(Z:List Bd)(i:Nat),Bd.sizes (Z.take i)<=Bd.sizes Z
 |[],i=>by simp[Bd.sizes]
 |x::Z,0=>by simp[Bd.sizes]
 |x::Z,i+1=>by
  have:=Gu Z i;simp only[List.take_succ_cons,Bd.sizes];lia
theorem N1:∀{ns:kQ}{G:kZ}{Z:List Tg}{H:Hp}{x:Str}{J:Tg},HasL H G (Z.map Tg.dat)->VP ns Z x=some J->∃v,VH (nmD ns G) (Sum.inr x)=some v/\Has H v J.dat
 |[],G,Z,H,x,J,h,e=>by unfold VP at e;simp at e
 |n::ns,G,[],H,x,J,h,e=>by unfold VP at e;simp at e
 |n::ns,[],_::_,H,x,J,h,e=>by unfold HasL at h;exact h.elim
 |n::ns,u::G,t::Z,H,x,J,h,e=>by
  unfold HasL at h;unfold VP at e;rw[jN,vv]at e
  by_cases z:x=n
  .subst z
   rw[beq_self_eq_true]at e;cases e;exact⟨u,Vn Y,h.1⟩
  .have zb:(x==n)=false:=beq_eq_false_iff_ne.mpr z
   rw[zb]at e;obtain⟨v,M,L⟩:=N1 (ns:=ns) h.2 e;exact⟨v,(Vo λq=>z (Sum.inr.inj q).symm).trans M,L⟩
def GG.put(g:GG P w H CG A cs sts av)(hk:k<=cs.length)(e:H A.st=some (.dK J))(ht:H t=some (.tup [.str s.f,.ref p,.ref kn]))(hp:H p=some (.tup<|s.pl.map V.int))(R:KnR A H kn s.ρ (3+s.pl.length))(na:¬av kn)(b:SameB A.st H M)(x:M A.st=some (.dK<|putK J (Sum.inl (k:Int))<|.ref t)):GG P w M CG A cs (stP sts k s) av:=by
 obtain⟨j,Q,h2⟩:=g.bs;obtain⟨ks,X,h4,C⟩:=g.nu;obtain⟨E,U,S,I⟩:=g.st;rw[e]at U;cases U;have Z:TK H M:=λa ys h=>b _ _ (Yy h e (by intro z;cases z)) h;refine⟨b _ _ (Yy g.ins e (by intro z;cases z)) g.ins,⟨j,b _ _ (Yy Q e (by intro z;cases z)) Q,Vt Z _ (UA cs) h2⟩,⟨ks,b _ _ (Yy X e Ws) X,h4.tk C Z,C⟩,g.nd,Z _ _ g.gv,_,x,?_,λn s' L=>?_⟩
 .cases en:sts k with
  |none=>
   rw[Nl en cs.length hk];exact Zb (Vj _ _ _)<|vV S
  |some s0=>
   rw[L0 (by rw[en];rfl)];obtain⟨B,D,G,N,_⟩:=I k s0 en;have:(J.any λO=>decide<|O.1=Sum.inl (k:Int))=true:=by rw[Jt,N];rfl
   unfold putK;rw[Zp this,ZA];exact S
 .unfold stP at L
  have F:∀{a:Addr}{ρ:Rho}{m:Nat},KnR A H a ρ m->KnR A M a ρ m:=λR=>by
   obtain⟨n,O,i,l,o⟩:=R;exact⟨n,O,b _ _ n i,l,λx T e=>let⟨v,c,y⟩:=o x T e;⟨v,c,VL Z _ (Tg.ti T) y⟩⟩
  by_cases z:n=k
  .subst z
   rw[Zp rfl]at L;cases L;exact⟨t,p,kn,by rw[JA,Zp rfl],Z _ _ ht,Z _ _ hp,F R,na⟩
  .rw [Zq z]at L
   obtain⟨B,D,G,N,r,u,f,d⟩:=I n s' L;exact⟨B,D,G,by rw[JA,Zq (λq=>z (by have:=Sum.inl.inj q;lia))];exact N,Z _ _ r,Z _ _ u,F f,d⟩
end L2
namespace K4
open PySem L2
section
variable{C CK CG CO CW CD:Addr}
def NU(A:OM):(Ji A).lookup ("ground":Str)=some (V.ref A.gr):=rfl
def EL(A:OM):(Ji A).lookup ("number":Str)=some (V.int (A.n:Nat)):=rfl
def yw(A:OM):(Ji A).lookup ("f":Str)=some (V.str A.F):=rfl
def LC(A:OM):(Ji A).lookup ("body":Str)=some A.bv:=rfl
def zF(A:OM):(Ji A).lookup ("place":Str)=some (V.ref A.pl):=rfl
def zG(A:OM):(Ji A).lookup ("known":Str)=some (V.ref A.kn):=rfl
def EK(A:OM):(Ji A).lookup ("waiting":Str)=some (V.ref A.wl):=rfl
def Qf(A:OM):(Ji A).lookup ("thing_at":Str)=none:=rfl
def Qg(A:OM):(Ji A).lookup ("make_cell":Str)=none:=rfl
def Qq(A:GA):(Ut A).lookup ("number_at":Str)=none:=rfl
def DX(A:GA):(Ut A).lookup ("starts":Str)=some (V.ref A.st):=rfl
def Lb(A:GA):(Ut A).lookup ("book":Str)=some (V.ref A.bk):=rfl
abbrev spk:kQ:=["self","place","known"]
abbrev NE:kQ:=["self","number","place","known"]
def Sg:Yh ["self","number","place","known","body","things"] NE (Yd XM):=Y2
def Se:Yh ["self","place","known","body","number"] spk (Yd X3):=Y2
def Ph:List.Nodup [("at":Str),"self","place","known"]:=by decide +kernel
inductive STA(P:Program)(w:World)(C CK CG CO:Addr)(n:Nat)(H:Hp)(Q:VK):List V->Prop
 |mk (Hm:Hp) (A:GA) (ks:List (Str×Shp)) (d:Str->Nat) (ds:List Dd) (cs:List Mk1) (sts:Nat->Option Sta) (av:Addr->Prop) (O:OM) (b c:Bd) (pl:List Int) (p kn:Addr) (ρ:Rho) (mx:MX P w Hm H C CK CG A ks d ds cs sts av) (gm:GM H CO A O b) (hp:H p=some (.tup (pl.map V.int))) (hc:b.at pl=some c) (ok:OkT ds ρ n c) (kr:KnR A H kn ρ (3+pl.length)) (na:¬av kn) (al:∀a,av a->∃o,H a=some o) (on:O.n<=cs.length) (lc:cs.length+c.size<=9000) (lw:pl.length+n<=500)
  (q:∀u th cs' sts' H',TAp ds O.F b O.n ρ n pl (cs,sts) th (cs',sts')->cs.length<=cs'.length->cs'.length<=cs.length+c.size->FrG A H H'->GG P w H' CG A cs' sts' av->Has H' u th.dat->Q u H'):STA P w C CK CG CO n H Q [.ref O.t,.ref p,.ref kn]
def Ez(P:Program)(w:World)(C CK CG CO:Addr)(n:Nat):Sp:=λZ H Q _=>STA P w C CK CG CO n H Q Z
inductive SMC(P:Program)(w:World)(C CK CG CO:Addr)(n:Nat)(H:Hp)(Q:VK):List V->Prop
 |mk (Hm:Hp) (A:GA) (ks:List (Str×Shp)) (d:Str->Nat) (ds:List Dd) (cs:List Mk1) (sts:Nat->Option Sta) (av:Addr->Prop) (O:OM) (b c:Bd) (pl:List Int) (p kn:Addr) (ρ:Rho) (k:Nat) (mx:MX P w Hm H C CK CG A ks d ds cs sts av) (gm:GM H CO A O b) (hp:H p=some (.tup (pl.map V.int))) (hc:b.at pl=some c) (ok:OkT ds ρ (n+1) c) (kr:KnR A H kn ρ (3+pl.length)) (na:¬av kn) (al:∀a,av a->∃o,H a=some o) (on:O.n<=cs.length) (lc:cs.length+c.size<=9001) (lw:pl.length+n+1<=500) (hk:k<=cs.length)
  (q:∀cs' sts' H',MCp ds O.F ρ (λi=>TAp ds O.F b O.n ρ n (pl++[(i:Int)])) c pl k (cs,sts) (cs',sts')->cs.length<=cs'.length->cs'.length+1<=cs.length+c.size->FrG A H H'->GG P w H' CG A cs' sts' av->Q .non H'):SMC P w C CK CG CO n H Q [.ref O.t,.int (k:Nat),.ref p,.ref kn]
def OY(P:Program)(w:World)(C CK CG CO:Addr)(n:Nat):Sp:=λZ H Q _=>SMC P w C CK CG CO n H Q Z
def L6(c:Bd):(∃f Z,c=.ask f Z) \/ ∃wd r,c.dat=.tup (.str wd::r)/\wd≠"ask" /\∀f Z,c≠.ask f Z:=by
 cases c <;> first|exact .inl ⟨_,_,Y⟩|exact .inr ⟨_,_,by unfold Bd.dat;rfl,by decide +kernel,λ_ _ z=>by cases z⟩
def Qa(B:Blt mg)(TG:GCl K CG)(TO:OCl K CO)(F:Fun K "make_cell" "Going.make_cell" XM f fd)(DP:Df P w K mg base L "part_at" ["body","place"] J3)(DN:Df P w K mg base L "named" ["book","f","things"] (IQ C CK))(m1:VJ K CO "thing_at" g1)(G1:Ye P w K mg base CX0 L g1 d1 spk (Ez P w C CK CG CO n))(b1:Binds K d1 spk []):Ye P w K mg base CX0 (L+1) f fd NE (OY P w C CK CG CO n):=by
 refine F.oi Sg λcdv A F3 s H g Q E hr h=>?_;obtain⟨Hm,A',ks,d,ds,cs,sts,av,O,b,c,pl,p,kn,ρ,k,mx,gm,hp,hc,ok,kr,R6,al,on,lc,lw,hk,q⟩:=h;have hu:=JQ hr;refine⟨_,YY (Yz 4 Sg.nd<|VW DP hr<|pa2 (Yt (pv 0) rfl)<|pv 2)
  (YY (Y3 (Yp UF (Yk (r:=VY K) Yq (pv 4)<|Ya) Yr<|Yx _) (YY (V5 hu (Yt (Yt (pv 0) rfl) rfl) (pv 1) (Yj<|pa3 (Yt (pv 0) rfl) (pv 2)<|pv 3) rfl)
  (YZ<|Oy)) Yo)
  (YY (Xy (i0:=5) ["at"] [0,2,3] Sg.nd rfl (Or.inl rfl) (JL rfl B.range (pa1<|Y9 Yw rfl B.len Zu (pa1<|Yk (r:=VY K) Yq (pv 4)<|Ya))) (Vc (i:=0)<|by decide) (λcl C fp s H=>Ym 0 Ph rfl (Or.inl rfl) (Or.inr rfl)) (λcl C fp s H=>Y6 (pv 1) TO.cl m1 G1 hr b1 .nil Y4<|pa2 (VB (r:=λx y H Q=>UT K x y H Q\/US K x y H Q) J0 (pv 2)<|Yj<|pa1<|pv 0)<|pv 3))
  (YZ<|V5 hu (Yt (Yt (pv 0) rfl) rfl) (pv 1) (Yj<|pa3 (Yk (r:=VY K) Yq (pv 4)<|Ya) (Yj<|Vq)<|VW DN hr<|pa3 (Yt (Yt (pv 0) rfl) rfl) (Yk (r:=VY K) Yq (pv 4)<|Ya)<|pv 5) rfl))),?_⟩
 dsimp only[Vf,Cx.nox,Cx.wish];show let T0:=_;let T1:=Yl _ T0;let T2:=_;let T3:=Yl _ T2;let T4:=Yl (VF _ T3 _) T1;Yl _ T4 _ _ _
 intros
 refine⟨CO,_,_,_,gm.ins,TO.cl,TO.bd,LC _,_,p,b,c,pl,gm.bd,gm.ok,hp,hc,λu H1 s1 I=>?_⟩;have J:=mx.mono s1;have X:=gm.mono s1;have R8:=kr.mono s1;have T6:=s1 _ _ hp;have F1:∀a,av a->∃o,H1 a=some o:=λa h=>let⟨o,e⟩:=al a h;⟨o,s1 _ _ e⟩
 have c1:1<=c.size:=by rw[Bd.size_eq];lia
 rcases L6 c with⟨f',as,rfl⟩|⟨wd,r,ed,nw,na⟩
 .have hu2:=I
  unfold Bd.dat at I;obtain⟨ta,ys,rfl,S,hl⟩:=Yu I;obtain⟨x1,r1,rfl,e1,T7⟩:=Yc hl;obtain⟨x2,r2,rfl,e2,I8⟩:=Yc T7;obtain⟨x3,r3,rfl,e3,I7⟩:=Yc I8;obtain rfl:=VC I7;obtain rfl:=has_str e1;obtain rfl:=has_str e2;obtain⟨tb,xs,rfl,I5,I3⟩:=Yu e3;have lx:=I3.length;rw[Z9,ZA]at lx;unfold OkT at ok;obtain⟨⟨df,T8,ef,lf,l3,F5⟩,F4⟩:=ok;refine⟨_,_,Z2 S,at0,Y,_,Y,Y0 (by decide +kernel) ?_⟩;refine⟨_,_,Z2 S,at2,tb,_,Y,.inr<|Z2 I5,xs.length,rfl,by lia,by lia,?_⟩;have esz:(Bd.ask f' as).size=1+Bd.sizes as:=by unfold Bd.size;rfl
  rw[esz]at lc;refine Vd xs.length (JH<|by lia) (λi g H'=>∃M G Z,g.length=i/\Thr (λi=>TAp ds O.F b O.n ρ n<|pl++[(i:Int)]) i (cs,sts) M (G,Z)/\cs.length<=G.length/\G.length<=cs.length+Bd.sizes (as.take i)/\FrG A' H1 H'/\GG P w H' CG A' G Z av/\HasL H' g (M.map Tg.dat)) ⟨[],cs,sts,rfl,.nil,ZG _,je _ _,.refl _ _,J.gg,Z6⟩ (λi g H' z=>by obtain⟨_,_,_,z,_⟩:=z;exact z) (λi g H' hi z=>hi) (λg H' z=>ZG _) ?_ ?_
  .rintro i g H2 y H3 R hi ⟨M,G,Z,z1,z2,z3,z4,z5,z6,z7⟩ ⟨rfl,rfl⟩ hR
   have F2:=J.gg.tk z5;have ia:i<as.length:=by lia
   have T9:as[i]?=some as[i]:=ZD ia;have sz:=Gs T9;have sl1:=Gu as<|i+1;refine⟨_,_,(X.fr J.gg z5).ins,Qf _,sl 1,λt4 O1=>?_⟩;refine up_in O1 _ λH4 D g4=>?_;have I6:Has H4 (.ref p) (Js pl):=Jc<|D _ _<|F2 _ _ T6;refine UI I6 (UG g4) (by simp) (by simp;lia) λu5 H5 s5 h5=>?_;obtain⟨a5,rfl,S2⟩:=Jk h5;have G3:=D.trans s5;have j:FrG A' H1 H5:=z5.trans<|.of G3;have R3:=z6.mono G3;have F7:=J.fr j R3;have gm5:=X.fr J.gg j;have I2:=R8.fr J.gg j;refine⟨Hm,A',ks,d,ds,G,Z,av,O,b,as[i],pl++[0+(i:Int)],a5,kn,ρ,F7,gm5,S2,?_,F4 _<|List.getElem_mem ia,I2.le (by rw[ZL];lia),R6,Nz F1 j R3,by lia,by lia,by rw[ZL,vc];lia,λu6 th cs6 R5 H6 q1 q2 q3 q4 q5 q6=>?_⟩
   .refine Bd.at_snoc pl hc (by lia) ?_
    rw[show(0+(i:Int)).toNat=i by lia];exact T9
   .rw [Int.zero_add]at q1
    refine hR _ _ ⟨M++[th],cs6,R5,by rw[ZL,z1];rfl,z2.snoc q1,by lia,by lia,j.trans q4,q5,?_⟩;rw[ZK];exact Z7 (Vt (λb ys h=>R3.tk q4 _ _<|G3 _ _ h) _ (U9 λd hd=>by obtain⟨t,_,rfl⟩:=ZW.mp hd;exact Tg.ti t) z7)<|Z5 q6
  rintro g H2 tl ⟨M,G,Z,z1,z2,z3,z4,z5,z6,z7⟩ I4;rw[lx]at z2;have sle:=Gu as xs.length;refine up_in I4 _ λH3 s3 g3=>?_;have m:FrG A' H1 H3:=z5.trans<|.of s3;have D3:=z6.mono s3;have F8:=J.fr m D3;have gm3:=X.fr J.gg m;have G2:=J.gg.tk m _ _ S;refine⟨_,_,Z2 G2,at1,sl 0,λt4 O1=>?_⟩;refine up_in O1 _ λH4 D g4=>?_;have D0:=gm3.mono D;have J2:=D3.mono D;exists CO,_,_,_,D0.ins,TO.cl,TO.gr,NU _;rw[gm.gr];exists CG,_,_,_,J2.ins,TG.cl,TG.bk,Lb _,_,_,Z2<|D _ _ G2,at1;rw[<-ef];have I9:=z7.length;rw[ZA]at I9;have R7:=F8.mono D;refine⟨A'.bk,tl,g,ks,d,ds,df,R7.bi.mono R7.sm,T8,D _ _ g3,by lia,by lia,F5,λl H5 s5 R4 S1=>⟨sl 3,λt6 M2=>?_⟩⟩;refine up_in M2 _ λH6 s6 g6=>?_;have T:=s5.trans s6;have N:=J2.mono T;have R0:=D0.mono T;exists CO,_,_,_,R0.ins,TO.cl,TO.gr,NU _;rw[gm.gr];obtain⟨F9,U,lst,_⟩:=N.st;refine⟨CG,_,_,_,N.ins,TG.cl,TG.st,DX _,_,Uq.k (k:=Sum.inl (k:Int)) U<|JH (by have:=En (sts:=Z) G.length;lia),?_⟩;refine fld_in A'.st _ λH7 b7 g7=>?_;obtain⟨kv4,T5,_⟩:=J2.st
  have I1:KnR A' H6 l (VP (df.1.2.1.map (·.1)) M) (3+([]:kT).length):=by
   refine⟨λz=>?_,_,s6 _ _ S1,by unfold nmD;rw[ZA,List.length_zip,ZA,qy];lia,λx th e=>?_⟩
   .rw [z,T5]at R4;cases R4
   .obtain ⟨v,h1,h2⟩:=N1 (z7.mono<|(s3.trans D).trans T) e
    exact⟨v,h1,h2⟩
  have F6:¬av l:=λz=>by
   obtain⟨o,e⟩:=Nz F1 (m.trans<|.of D) J2 l z;rw[R4]at e;cases e
  have R1:=N.put (s:=⟨df.1.1,[],VP (df.1.2.1.map (·.1)) M⟩) (k:=k) (by lia) U g6 (T _ _ g4) I1 F6 b7 g7;refine q G _ H7 ?_ z3 (by lia) ?_ R1
  .show ∃M s2 ns,_
   exact⟨M,(G,Z),_,z2,⟨df,T8,ef,Y⟩,by rw[<-ef]⟩
  .exact λb o n1 n2 n3 e=>b7 _ _ n3<|(D.trans T) _ _<|m _ _ n1 n2 n3<|s1 _ _ e
 .rw [ed]at I
  obtain⟨ta,ys,rfl,S,hl⟩:=Yu I;obtain⟨x1,r1,rfl,e1,T7⟩:=Yc hl;obtain rfl:=has_str e1;refine⟨_,_,Z2 S,at0,Y,_,Y,VG (by simp;exact nw) ?_⟩;refine⟨CO,_,_,_,X.ins,TO.cl,TO.f,yw _,sl 3,λt6 M2=>?_⟩;refine up_in M2 _ λH6 s6 g6=>?_;have N:=J.gg.mono s6;have R0:=X.mono s6;exists CO,_,_,_,R0.ins,TO.cl,TO.gr,NU _;rw[gm.gr];obtain⟨F9,U,lst,_⟩:=N.st;refine⟨CG,_,_,_,N.ins,TG.cl,TG.st,DX _,_,Uq.k (k:=Sum.inl (k:Int)) U<|JH (by have:=En (sts:=sts) cs.length;lia),?_⟩;refine fld_in A'.st _ λH7 b7 g7=>?_;have R1:=N.put (s:=⟨O.F,pl,ρ⟩) (k:=k) hk U g6 (s6 _ _ T6) (R8.mono s6) R6 b7 g7;refine q cs _ H7 ?_ (ZG _) (by lia) ?_ R1
  .cases c <;> first|rfl|exact Zr Y (na _ _)
  .exact λb o n1 n2 n3 e=>b7 _ _ n3<|s6 _ _<|s1 _ _ e
def OQ(c:Bd):(∃t,c=.tag t)\/(∃x,c=.name x) \/ ∃wd r,c.dat=.tup (.str wd::r)/\wd≠"tag" /\wd≠"name" /\(∀t,c≠.tag t)/\∀x,c≠.name x:=by
 cases c <;> first|exact .inl ⟨_,Y⟩|exact .inr (.inl ⟨_,Y⟩)|exact .inr<|.inr ⟨_,_,by unfold Bd.dat;rfl,by decide +kernel,by decide +kernel,λ_ z=>(by cases z),λ_ z=>by cases z⟩
def XZ.le(h:XZ cs c n cs'):n<=cs'.length/\cs.length<=cs'.length/\cs'.length<=cs.length+1:=by
 rcases h with⟨k,Z,rfl,rfl⟩|⟨_,rfl,rfl⟩
 .have:=(ZF.mp Z).1
  lia
 .rw [ZL,vc]
  lia
def Ct(TG:GCl K CG)(TO:OCl K CO)(F:Fun K "thing_at" "Going.thing_at" X3 f fd)(DP:Df P w K mg base L "part_at" ["body","place"] J3)(m1:VJ K CG "number_at" g1)(G1:Ye P w K mg base CX0 L g1 d1 ["self","maker","place"] (IR P w CG))(b1:Binds K d1 ["self","maker","place"] [])(m2:VJ K CO "make_cell" i)(G2:Ye P w K mg base CX0 L i d2 NE (OY P w C CK CG CO n))(b2:Binds K d2 NE []):Ye P w K mg base CX0 (L+1) f fd spk (Ez P w C CK CG CO<|n+1):=by
 refine F.oi Se λR8 A J2 s H vs Q E l h=>?_;obtain⟨Hm,A',ks,d,ds,cs,M,av,O,b,c,pl,p,kn,ρ,mx,z,hp,j,ok,kr,M2,al,on,lc,lw,q⟩:=h;have hu:=JQ l;refine⟨_,YY (Yz 3 Se.nd<|VW DP l<|pa2 (Yt (pv 0) rfl)<|pv 1)
  (YY (Y3 (Yp VX (Yk (r:=VY K) Yq (pv 3)<|Ya) Yr<|Yx _) (YZ<|Yi<|pv 3) Yo)
  (YY (Y3 (Yp VX (Yk (r:=VY K) Yq (pv 3)<|Ya) Yr<|Yx _) (YZ<|Yi<|JX hu (pv 2) (Yk (r:=VY K) Yq (pv 3)<|Ya) λ_ _=>rfl) Yo)
  (YY (Yz 4 Se.nd<|Y6 (Yt (pv 0) rfl) TG.cl m1 G1 l b1 .nil Y4<|pa2 (Yt (pv 0) rfl)<|pv 1)
  (YY (VZ<|Y6 (pv 0) TO.cl m2 G2 l b2 .nil Y4<|pa3 (pv 4) (pv 1)<|pv 2)
  (YZ<|Yi<|Yj<|pa2 (Yr)<|pv 4))))),?_⟩
 dsimp only[Vf,Cx.nox,Cx.wish];show let T0:=_;let T1:=Yl _ T0;let T2:=Yl _ T1;let T3:=_;let T4:=Yl (VF _ T3 _) T2;let T5:=_;let T6:=Yl (VF _ T5 _) T4;Yl _ T6 _ _ _
 intros
 refine⟨CO,_,_,_,z.ins,TO.cl,TO.bd,LC _,_,p,b,c,pl,z.bd,z.ok,hp,j,λu H1 N G=>?_⟩;have Z:=mx.mono N;have T:=z.mono N;have I:=kr.mono N;have U:=N _ _ hp;have R4:∀a,av a->∃o,H1 a=some o:=λa h=>let⟨o,e⟩:=al a h;⟨o,N _ _ e⟩
 have c1:1<=c.size:=by rw[Bd.size_eq];lia
 rcases OQ c with⟨t,rfl⟩|⟨x,rfl⟩|⟨wd,r,ed,n1,n2,n3,n4⟩
 .have hu2:=G
  unfold Bd.dat at G;obtain⟨ta,ys,rfl,J,X⟩:=Yu G;obtain⟨x1,r1,rfl,m,R⟩:=Yc X;obtain rfl:=has_str m;refine⟨_,_,Z2 J,at0,Y,_,Y,VG (by decide +kernel) ?_⟩;exact q _ (.tag t) cs M H1 ⟨_,j,Y,Y⟩ (ZG _) (je _ _) (.of N) Z.gg hu2
 .unfold Bd.dat at G
  obtain⟨ta,ys,rfl,J,X⟩:=Yu G;obtain⟨x1,r1,rfl,m,R⟩:=Yc X;obtain⟨x2,r2,rfl,e2,R1⟩:=Yc R;obtain rfl:=VC R1;obtain rfl:=has_str m;obtain rfl:=has_str e2;unfold OkT at ok;obtain⟨th,S⟩:=ok;refine⟨_,_,Z2 J,at0,Y,_,Y,Y0 (by decide +kernel) ?_⟩;refine⟨_,_,Z2 J,at0,Y,_,Y,VG (by decide +kernel) ?_⟩;obtain⟨_,R7,k1,_,k2⟩:=id I;obtain⟨v,v1,v2⟩:=k2 x th S;refine⟨_,_,Z2 J,at1,v,by rw[<-v1];exact JG.k (k:=Sum.inr x) k1,?_⟩;exact q _ th cs M H1 ⟨_,j,S,Y⟩ (ZG _) (je _ _) (.of N) Z.gg v2
 .rw [ed]at G
  obtain⟨ta,ys,rfl,J,X⟩:=Yu G;obtain⟨x1,r1,rfl,m,R⟩:=Yc X;obtain rfl:=has_str m;refine⟨_,_,Z2 J,at0,Y,_,Y,Y0 (Ro n1) ?_⟩;refine⟨_,_,Z2 J,at0,Y,_,Y,Y0 (Ro n2) ?_⟩;exists CO,_,_,_,T.ins,TO.cl,TO.gr,NU _;rw[z.gr];refine⟨_,_,Z.gg.ins,Qq _,CO,_,_,_,T.ins,TO.cl,TO.nu,EL _,A',cs,M,av,O.n,pl,p,Z.gg,U,on,by lia,λk g H2 na B i=>?_⟩;obtain⟨G3,R6,R5⟩:=XZ.le na;have O1:=Z.fr B i;have y:=T.fr Z.gg B;refine⟨_,_,y.ins,Qg _,Hm,A',ks,d,ds,g,M,av,O,b,c,pl,p,kn,ρ,k,O1,y,Z.gg.tk B _ _ U,j,ok,I.fr Z.gg B,M2,Nz R4 B i,by lia,by lia,by lia,G3,λR3 D H3 mc l1 l2 f3 g3=>⟨sl 2,λt4 R0=>?_⟩⟩;refine up_in R0 _ λH4 s4 g4=>?_;refine q _ (.cell k) R3 D H4 ⟨c,j,?_⟩ (by lia) (by lia) ((FrG.of N).trans<|B.trans<|f3.trans<|.of s4) (g3.mono s4) ?_
  .cases c <;> first|exact Zr Y (n3 _)|exact Zr Y (n4 _)|exact⟨k,g,na,Y,mc⟩
  .unfold Tg.dat
   exact Yv g4<|Z4 Y5<|Z5 (by unfold Has;rfl)
theorem QS(B:Blt Z)(TG:GCl K CG)(TO:OCl K CO)(y:Fun K "thing_at" "Going.thing_at" X3 f J)(R:Fun K "make_cell" "Going.make_cell" XM f' fd')(G:Df P w K Z base L "part_at" ["body","place"] J3)(T:Df P w K Z base L "named" ["book","f","things"] (IQ C CK))(A:VJ K CG "number_at" g1)(j:Ye P w K Z base CX0 L g1 g ["self","maker","place"] (IR P w CG))(X:Binds K g ["self","maker","place"] [])(M:VJ K CO "thing_at" f)(N:Binds K J spk [])(F:VJ K CO "make_cell" f')(U:Binds K fd' NE []):∀n:Nat,Ye P w K Z base CX0 (L+2*n) f J spk (Ez P w C CK CG CO n)/\Ye P w K Z base CX0 (L+2*n+1) f' fd' NE (OY P w C CK CG CO n)
 |0=>by
  have S:Ye P w K Z base CX0 (L+2*0) f J spk (Ez P w C CK CG CO 0):=.none λk H Q E h=>by
   obtain⟨Hm,A',o,d,ds,cs,z,av,O,b,c,u,p,s,ρ,r,gm,a,x,D,i,t,al,v,e,l,q⟩:=h;unfold OkT at D;exact D
  exact⟨S,Qa B TG TO R G T M S N⟩
 |n+1=>by
  obtain⟨_,m⟩:=QS B TG TO y R G T A j X M N F U n;have I:Ye P w K Z base CX0 (L+2*(n+1)) f J spk (Ez P w C CK CG CO<|n+1):=Ct (L:=L+2*n+1) TG TO y (G.up<|by lia) A (j.mono<|by lia) X F m U;exact⟨I,Qa B TG TO R (G.up<|by lia) (T.up<|by lia) M I N⟩
end
end K4
namespace L2
open PySem
def UR(ρ:Rho)(x:Str)(th:Tg):Rho:=λy=>if y=x then some th else ρ y
def Bd.cellB:Bd->Prop
 |.tag _=>False
 |.name _=>False
 |_=>True
def Ff{c:Bd}(h:c.cellB):∃wd r,c.dat=.tup (.str wd::r)/\wd≠"tag" /\wd≠"name":=by
 cases c <;> first|exact h.elim|exact⟨_,_,by unfold Bd.dat;rfl,by decide +kernel,by decide +kernel⟩
end L2
namespace K4
open PySem L2
section
variable{C CK CG CO CW CD:Addr}
def AW(A:OM):(Ji A).lookup ("ground":Str)=some (V.ref A.gr):=rfl
def Al(A:GA):(Ut A).lookup ("head_given":Str)=none:=rfl
theorem XA:∀Z:kQ,HasL H (Z.map V.str)<|(Z.map W.tag).map W.dat
 |[]=>Z6
 |g::Z=>Z4 (by unfold W.dat Has;rfl)<|XA Z
inductive yA(CG CO:Addr)(H:Hp)(Q:VK):List V->Prop
 |mk (A:GA) (O:OM) (b:Bd) (y:V) (th:Tg) (gm:GM H CO A O b) (ins:H A.t=some (.ins CG A.dx (Ut A))) (gv:H A.gv=some (.tup (A.gs.map V.str))) (l3:A.gs.length<=3) (hy:Has H y th.dat) (q1:∀n,th=.cell n->∀u H',Same H H'->Has H' u (.tup [.str "want",.int (n:Nat)])->Q u H') (q2:∀t,th=.tag t->∀u H',Same H H'->Has H' u (.tup [.str "head",tagD t])->Q u H') (q3:∀i,th=.giv i->∃t,A.gs[i]?=some t/\∀u H',Same H H'->Has H' u (.tup [.str "head",tagD t])->Q u H'):yA CG CO H Q [.ref O.t,y]
def IS(CG CO:Addr):Sp:=λZ H Q _=>yA CG CO H Q Z
def AH(TG:GCl K CG)(TO:OCl K CO)(F:Fun K "from_thing" "Going.from_thing" Xj f fd)(m:VJ K CG "head_given" g)(G:Ye P w K mg base CX0 n g gd iwy (SX CG))(bG:Binds K gd iwy []):Ye P w K mg base CX0 (n+1) f fd ["self","thing"] (IS CG CO):=by
 refine F.oi ye λJ2 A U s H vs Q E hr h=>?_;obtain⟨x,O,b,y,th,a,ins,gv,l3,L,q1,q2,S⟩:=h;refine⟨_,YY (Y3 (Yp VX (Yk (r:=VY K) Yq (pv 1)<|Ya) Yr<|Yx _) (YZ<|Yi<|Yj<|pa2 (Yr)<|Yk (r:=VY K) Yq (pv 1)<|Ya) Yo)
  (YY (Y3 (Yp VX (Yk (r:=VY K) Yq (pv 1)<|Ya) Yr<|Yx _) (YZ<|Yi<|Y6 (Yt (pv 0) rfl) TG.cl m G hr bG .nil Y4<|pa2 (Yk (r:=VY K) Yq (pv 1)<|Ya)<|Yk (r:=VY K) Yq (pv 1)<|Ya) Yo)
  (YZ<|Yi<|Yj<|pa2 (Yr)<|pv 1)),?_⟩
 dsimp only[Vf,Cx.nox,Cx.wish];show let T0:=_;let T1:=_;let T2:=Yl (VF _ T1 _) T0;let T3:=_;Yl (VF _ T3 _) T2 _ _ _
 intros
 cases th with
 |giv i=>
  obtain⟨I,j,S⟩:=S i rfl;unfold Tg.dat Ta at L;obtain⟨t,d,rfl,M,R⟩:=Yu L;obtain⟨l,e,rfl,T,Z⟩:=Yc R;obtain⟨v,r2,rfl,D,N⟩:=Yc Z;obtain⟨x3,r3,rfl,e3,q⟩:=Yc N;obtain rfl:=VC q;obtain rfl:=has_str T;obtain rfl:v=.int (i:Nat):=by unfold Has at D;exact D
  have B:=Z2 (K:=K) M;refine⟨_,_,B,at0,Y,_,Y,Y0 (by decide +kernel) ?_⟩;refine⟨_,_,B,at0,Y,_,Y,VG (by decide +kernel) ?_⟩;exists CO,_,_,_,a.ins,TO.cl,TO.gr,AW _;rw[a.gr];refine⟨_,_,ins,Al _,_,_,B,at1,_,_,B,at2,x,x.gs.map W.tag,i,.tag I,_,[],⟨ins,_,gv,XA _⟩,by rw[ZH,j];rfl,by rw[ZA];exact l3,e3,λk h=>(by cases h),by decide,λu c J o=>S u c J ?_⟩;have ep:(W.tag I).part []=.tag I:=by unfold W.part;rfl
  rw[ep]at o;exact o
 |cell n'=>
  unfold Tg.dat at L;obtain⟨t,d,rfl,M,R⟩:=Yu L;obtain⟨l,e,rfl,T,Z⟩:=Yc R;obtain⟨v,r2,rfl,D,N⟩:=Yc Z;obtain rfl:=VC N;obtain rfl:=has_str T;refine⟨_,_,Z2 M,at0,Y,_,Y,VG (by decide +kernel) ⟨_,_,Z2 M,at1,sl 2,λp z=>?_⟩⟩;refine up_in z _ λc J g1=>q1 n' Y _ _ J ?_;exact Yv g1<|Z4 Y5<|Z5<|D.mono J
 |tag t'=>
  have X:=L;unfold Tg.dat at L;obtain⟨t,d,rfl,M,R⟩:=Yu L;obtain⟨l,e,rfl,T,Z⟩:=Yc R;obtain rfl:=has_str T;refine⟨_,_,Z2 M,at0,Y,_,Y,Y0 (by decide +kernel) ?_⟩;refine⟨_,_,Z2 M,at0,Y,_,Y,Y0 (by decide +kernel) ⟨sl 2,λp z=>?_⟩⟩;refine up_in z _ λc J g1=>q2 t' Y _ _ J ?_;exact Yv g1<|Z4 Y5<|Z5<|X.mono J
def NF:Yh ["self","body","place","known","word","name","kind","own","rest","within","number"] ["self","body","place","known"] (Yd TJ):=Y2
inductive SWL(P:Program)(w:World)(C CK CG CO:Addr)(n:Nat)(H:Hp)(Q:VK):List V->Prop
 |mk (Hm:Hp) (A:GA) (ks:List (Str×Shp)) (d:Str->Nat) (ds:List Dd) (cs:List Mk1) (sts:Nat->Option Sta) (av:Addr->Prop) (O:OM) (b:Bd) (x k':Str) (e r:Bd) (pl:List Int) (y:V) (p kn:Addr) (ρ:Rho) (mx:MX P w Hm H C CK CG A ks d ds cs sts av) (gm:GM H CO A O b) (hp:H p=some (.tup (pl.map V.int))) (hc:b.at pl=some (.letb x k' e r)) (hy:Has H y (Bd.letb x k' e r).dat) (ce:e.cellB) (ok:∀k,OkT ds (UR ρ x (.cell k)) (n+1) e) (kr:KnR A H kn ρ (3+pl.length)) (al:∀a,av a->∃o,H a=some o) (on:O.n<=cs.length) (lc:cs.length+e.size<=9000) (lw:pl.length+n+2<=500)
  (q:∀kn' k cs1 s2 H',XZ cs (O.n,pl++[0]) k cs1->MCp ds O.F (UR ρ x (.cell k)) (λi=>TAp ds O.F b O.n (UR ρ x (.cell k)) n (pl++[0]++[(i:Int)])) e (pl++[0]) k (cs1,sts) s2->cs.length<=s2.1.length->s2.1.length<=cs.length+e.size->FrG A H H'->GG P w H' CG A s2.1 s2.2 av->H kn'=none->KnR A H' kn' (UR ρ x (.cell k)) (3+(pl++[1]).length)->Q (.ref kn') H'):SWL P w C CK CG CO n H Q [.ref O.t,y,.ref p,.ref kn]
def SO(P:Program)(w:World)(C CK CG CO:Addr)(n:Nat):Sp:=λZ H Q _=>SWL P w C CK CG CO n H Q Z
def Cr(B:Blt mg)(TG:GCl K CG)(TO:OCl K CO)(F:Fun K "with_let" "Going.with_let" TJ f fd)(m1:VJ K CG "number_at" g1)(G1:Ye P w K mg base CX0 L g1 d1 ["self","maker","place"] (IR P w CG))(b1:Binds K d1 ["self","maker","place"] [])(m2:VJ K CO "make_cell" g2)(G2:Ye P w K mg base CX0 L g2 d2 NE (OY P w C CK CG CO n))(b2:Binds K d2 NE []):Ye P w K mg base CX0 (L+1) f fd ["self","body","place","known"] (SO P w C CK CG CO n):=by
 refine F.oi NF λcdv A T9 s H vs Q E hr h=>?_;obtain⟨Hm,N,ks,d,ds,cs,R,av,O,b,x,k',e,r,m,y,p,kn,ρ,J,gm,hp,hc,hy,ce,ok,kr,al,on,lc,lw,q⟩:=h;have hu:=JQ hr;refine⟨_,YY (Jw (pv 1)<|Ve (n:=5) rfl (Yn (Ym 4 NF.nd)<|Yn (Ym 5 NF.nd)<|Yn (Ym 6 NF.nd)<|Yn (Ym 7 NF.nd)<|Yn (Ym 8 NF.nd) VM))
  (YY (Yz 9 NF.nd<|VT Dn rfl B.dict Uk (pa1<|pv 3))
  (YY (Y3 (PW.pt<|UD (Yp VX (Yk (r:=VY K) Yq (pv 7)<|Ya) Yr<|Yx _)<|Jn<|PW.pt<|MN (Yp VX (Yk (r:=VY K) Yq (pv 7)<|Ya) Yr<|Yx _)<|GO<|Yp UF (Yk (r:=VY K) Yq (pv 7)<|Ya) (pv 5)<|Yx _) J4 Yo)
  (YY (Yz 10 NF.nd<|Y6 (Yt (pv 0) rfl) TG.cl m1 G1 hr b1 .nil Y4<|pa2 (Yt (pv 0) rfl)<|VB (r:=λx y H Q=>UT K x y H Q\/US K x y H Q) J0 (pv 2)<|Yj<|pa1<|Ya)
  (YY (V5 hu (pv 9) (pv 5) (Yj<|pa2 (Yr)<|pv 10) rfl)
  (YY (VZ<|Y6 (pv 0) TO.cl m2 G2 hr b2 .nil Y4<|pa3 (pv 10) (VB (r:=λx y H Q=>UT K x y H Q\/US K x y H Q) J0 (pv 2)<|Yj<|pa1<|Ya)<|pv 9)
  (YZ<|Yi<|pv 9)))))),?_⟩
 dsimp only[Vf,Cx.nox,Cx.wish];show let T0:=_;let T1:=Yl _ T0;let T2:=Yl _ T1;let T3:=Yl _ T2;let T4:=Yl (VF _ _ _) T3;let T5:=Yl _ T4;Yl _ T5 _ _ _
 intros
 unfold Bd.dat at hy;obtain⟨ta,ys,rfl,F4,hl⟩:=Yu hy;obtain⟨x1,r1,rfl,e1,R1⟩:=Yc hl;obtain⟨x2,r2,rfl,e2,R0⟩:=Yc R1;obtain⟨x3,r3,rfl,e3,O1⟩:=Yc R0;obtain⟨x4,r4,rfl,e4,M2⟩:=Yc O1;obtain⟨x5,r5,rfl,e5,G3⟩:=Yc M2;obtain rfl:=VC G3;obtain rfl:=has_str e1;obtain rfl:=has_str e2;obtain rfl:=has_str e3;clear hl R1 R0 O1 M2 G3;exists _,Z2 F4,Y;obtain⟨I8,F3,R3,lk,F9⟩:=id kr;refine⟨kn,F3,Y,R3,λl D=>?_⟩;refine up_in D _ λH1 I g1=>?_;obtain⟨wd,rr,ed,n1,n2⟩:=Ff ce;have R4:=e4.mono I;rw[ed]at R4;obtain⟨te,I4,rfl,J2,F8⟩:=Yu R4;obtain⟨z1,rz,rfl,X,_⟩:=Yc F8;obtain rfl:=has_str X;refine⟨_,_,Z2 J2,at0,Y,_,Y,Y0 (Ro n1) ?_⟩;refine⟨_,_,Z2 J2,at0,Y,_,Y,Y0 (Ro n2)<|Y0 (by simp) ?_⟩;have T6:=J.gg.avoid D I
 let T7:Addr->Prop:=λa=>av a\/a=l
 have F2:MX P w Hm H1 C CK CG N ks d ds cs R T7:=⟨J.sm.trans I,J.bi,J.f1,J.f2,J.f3,T6⟩;have S:=gm.mono I;exists CO,_,_,_,S.ins,TO.cl,TO.gr,NU _;rw[gm.gr];refine⟨_,_,T6.ins,Qq _,CO,_,_,_,S.ins,TO.cl,TO.nu,EL _,sl 1,λt2 F7=>?_⟩;refine up_in F7 _ λH2 s2 g2=>?_;refine UI (Jc<|s2 _ _<|I _ _ hp) (UG g2) (by simp) (by simp;lia) λu3 H3 s3 h3=>?_;obtain⟨a3,rfl,I3⟩:=Jk h3;have G:=s2.trans s3;have T:=F2.mono G;refine⟨N,cs,R,T7,O.n,m++[0],a3,T.gg,I3,on,by lia,λk t H4 na f4 R8=>?_⟩;obtain⟨D3,I6,I5⟩:=XZ.le na;have I7:=T.fr f4 R8;have gm4:=(S.mono G).fr T.gg f4
 have M:l≠N.bs/\l≠N.nu/\l≠N.st:=by
  obtain⟨xs,h1,_⟩:=J.gg.bs;obtain⟨S1,h2,_⟩:=J.gg.nu;obtain⟨I9,h3,_⟩:=J.gg.st;exact⟨(Yb h1 D).symm,(Yb h2 D).symm,(Yb h3 D).symm⟩
 have R7:=f4 _ _ M.1 M.2.1 M.2.2<|G _ _ g1;refine⟨sl 2,λt5 F6=>?_⟩;refine up_in F6 _ λH5 u g5=>?_;refine⟨_,Uq.k (k:=Sum.inr x) (u _ _ R7)<|JH<|by lia,?_⟩;refine fld_in l _ λH6 b6 g6=>?_;have R6:=u _ _ R7;have T8:TK H5 H6:=λa ys h=>b6 _ _ (Yy h R6 (by intro z;cases z)) h;have knl:kn≠l:=Yb R3 D;have S2:KnR N H5 kn ρ (3+m.length):=((kr.mono<|I.trans G).fr T.gg f4).mono u;have U:GG P w H6 CG N t R av:=((R8.mono u).wr R6 (.inr rfl) b6 M.2.2).less λa h=>.inl h;have g:FrG N H H6:=λb o n1 n2 n3 h=>b6 _ _ (Yb h D)<|u _ _<|f4 _ _ n1 n2 n3<|G _ _<|I _ _ h;have F1:=J.fr g U;have R5:=gm.fr J.gg g
 have i:KnR N H6 l (UR ρ x<|.cell k) (3+m.length+1):=by
  refine⟨M.2.2,_,g6,Zb (Vj _ _ _)<|vV lk,λz th X=>?_⟩;unfold UR at X
  by_cases zx:z=x
  .rw [Zp zx]at X
   cases X;refine⟨.ref t5,by rw[JA,Zp (by rw[zx])],?_⟩;unfold Tg.dat;exact Yv (T8 _ _ g5)<|Z4 Y5<|Z5 (by unfold Has;rfl)
  .rw [Zq zx]at X
   obtain⟨v,v1,v2⟩:=F9 z th X;exact⟨v,by rw[JA,Zq (λq=>zx<|Sum.inr.inj q)];exact v1,VL (J.gg.tk g) _ (Tg.ti th) v2⟩
 refine⟨_,_,R5.ins,Qg _,sl 1,λt7 F5=>?_⟩;refine up_in F5 _ λH7 s7 g7=>?_;refine UI (Jc<|s7 _ _<|J.gg.tk g _ _ hp) (UG g7) (by simp) (by simp;lia) λu8 H8 s8 h8=>?_;obtain⟨a8,rfl,I2⟩:=Jk h8;have Z:=s7.trans s8;have I1:b.at (m++[0])=some e:=Bd.at_snoc m hc (by decide) rfl
 have D0:¬av l:=λz=>by
  obtain⟨o,e⟩:=al l z;rw[D]at e;cases e
 refine⟨Hm,N,ks,d,ds,t,R,av,O,b,e,m++[0],a8,l,UR ρ x<|.cell k,k,F1.mono Z,R5.mono Z,I2,I1,ok k,(i.mono Z).le (by rw[ZL,vc];lia),D0,Nz al (g.trans<|.of Z)<|U.mono Z,by lia,by lia,by rw[ZL,vc];lia,D3,λj c H9 mc l1 l2 f9 g9=>?_⟩;refine q l k t (j,c) H9 na mc (by show cs.length<=j.length;lia) (by show j.length<=_;lia) (g.trans<|(FrG.of Z).trans f9) g9 D<|((i.mono Z).fr (U.mono Z) f9).le (by rw[ZL,vc];lia)
end
end K4
namespace L2
open PySem
abbrev av0:Addr->Prop:=λ_=>False
abbrev WEn:=Bd×List Int×Rho
def StB(A:GA)(av:Addr->Prop)(H:Hp)(u:V)(pl:kT)(ρ:Rho):Prop:=∃t p Z,u=.ref t/\H t=some (.tup [.str "body",.ref p,.ref Z])/\H p=some (.tup<|pl.map V.int)/\KnR A H Z ρ (3+pl.length)/\ ¬av Z
def WEm(A:GA)(av:Addr->Prop)(H:Hp)(z:V)(c:WEn):Prop:=∃t J p Z,z=.ref t/\H t=some (.tup [J,.ref p,.ref Z])/\Has H J c.1.dat/\H p=some (.tup<|c.2.1.map V.int)/\KnR A H Z c.2.2 (3+c.2.1.length)/\ ¬av Z
def OkB(ds:List Dd)(ρ:Rho)(n:Nat):Bd->Prop
 |.tag _=>True
 |.name x=>∃th,ρ x=some th
 |.ask f as=>OkT ds ρ (n+1)<|.ask f as
 |.letb x _ e _=>e.cellB/\∀k,OkT ds (UR ρ x<|.cell k) (n+1) e
 |.choose _ _ _=>True
 |_=>False
def GG.lb(g:GG P w H CG A cs sts av)(J:H l=some (.lst o))(n:l≠A.bs)(b:SameB l H r):GG P w r CG A cs sts av:=by
 obtain⟨T,u,f⟩:=g.bs;obtain⟨y,R,d,O⟩:=g.nu;obtain⟨G,N,c,m⟩:=g.st;have Z:=Jx b J;refine⟨b _ _ (Yy g.ins J (by intro z;cases z)) g.ins,⟨T,b _ _ n.symm u,Vt Z _ (UA cs) f⟩,⟨y,b _ _ (Yy R J Ue) R,d.tk O Z,O⟩,g.nd,Z _ _ g.gv,G,b _ _ (Yy N J (by intro z;cases z)) N,c,λk st e=>?_⟩;obtain⟨t,p,q,Q,X,C,U,S⟩:=m k st e;obtain⟨E,j,L,B,D⟩:=U;exact⟨t,p,q,Q,Z _ _ X,Z _ _ C,⟨E,j,b _ _ (Yy L J (by intro z;cases z)) L,B,λx M e=>let⟨v,I,F⟩:=D x M e;⟨v,I,VL Z _ (Tg.ti M) F⟩⟩,S⟩
def KnR.lb(k:KnR A H a ρ m)(G:H l=some (.lst B))(b:SameB l H T):KnR A T a ρ m:=by
 obtain⟨n,Z,L,O,R⟩:=k;exact⟨n,Z,b _ _ (Yy L G (by intro z;cases z)) L,O,λx J e=>let⟨v,N,M⟩:=R x J e;⟨v,N,VL (Jx b G) _ (Tg.ti J) M⟩⟩
end L2
namespace K4
open PySem L2
section
variable{C CK CG CO CW CD:Addr}
def zD(A:OM):(Ji A).lookup ("with_let":Str)=none:=rfl
inductive yC(P:Program)(w:World)(C CK CG CO:Addr)(n:Nat)(H:Hp)(Q:VK):List V->Prop
 |mk (Hm:Hp) (A:GA) (ks:List (Str×Shp)) (d:Str->Nat) (ds:List Dd) (cs:List Mk1) (sts:Nat->Option Sta) (av:Addr->Prop) (O:OM) (b c:Bd) (pl:List Int) (p kn:Addr) (ρ:Rho) (zs:List V) (mx:MX P w Hm H C CK CG A ks d ds cs sts av) (gm:GM H CO A O b) (hz:H O.wl=some (.lst zs)) (wb:O.wl≠A.bs) (hp:H p=some (.tup (pl.map V.int))) (hc:b.at pl=some c) (ok:OkB ds ρ n c) (kr:KnR A H kn ρ (3+pl.length)) (nk:¬av kn) (al:∀a,av a->∃o,H a=some o) (on:O.n<=cs.length) (lc:cs.length+c.size<=9000) (lw:pl.length+n<=400) (lz:zs.length<=400)
  (q1:∀t,c=.tag t->∀u H',Same H H'->Has H' u (.tup [.str "head",tagD t])->Q u H') (q2:∀x th,c=.name x->ρ x=some th->∀u H',Same H H'->Has H' u (.tup [.str "thing",th.dat])->Q u H')
  (q3:∀f as,c=.ask f as->∀u th cs' sts' H',TAp ds O.F b O.n ρ (n+1) pl (cs,sts) th (cs',sts')->cs.length<=cs'.length->cs'.length<=cs.length+c.size->FrG A H H'->GG P w H' CG A cs' sts' av->Has H' u (.tup [.str "thing",th.dat])->Q u H')
  (q4:∀x k' e r,c=.letb x k' e r->∀u k cs1 s2 H',XZ cs (O.n,pl++[0]) k cs1->MCp ds O.F (UR ρ x (.cell k)) (λi=>TAp ds O.F b O.n (UR ρ x (.cell k)) n (pl++[0]++[(i:Int)])) e (pl++[0]) k (cs1,sts) s2->cs.length<=s2.1.length->s2.1.length<=cs.length+c.size->FrG A H H'->GG P w H' CG A s2.1 s2.2 av->StB A av H' u (pl++[1]) (UR ρ x (.cell k))->Q u H')
  (q5:∀e ts bs,c=.choose e ts bs->∀u z H',SameB O.wl H H'->H' O.wl=some (.lst (zs++[z]))->WEm A av H' z (c,pl,ρ)->StB A av H' u (pl++[0]) ρ->Q u H'):yC P w C CK CG CO n H Q [.ref O.t,.ref p,.ref kn]
def IU(P:Program)(w:World)(C CK CG CO:Addr)(n:Nat):Sp:=λZ H Q _=>yC P w C CK CG CO n H Q Z
def AJ(TO:OCl K CO)(F:Fun K "from_body" "Going.from_body" Wl f fd)(DP:Df P w K mg base L "part_at" ["body","place"] J3)(m1:VJ K CO "thing_at" g1)(G1:Ye P w K mg base CX0 L g1 d1 spk (Ez P w C CK CG CO<|n+1))(b1:Binds K d1 spk [])(m2:VJ K CO "with_let" I)(G2:Ye P w K mg base CX0 L I d2 ["self","body","place","known"] (SO P w C CK CG CO n))(b2:Binds K d2 ["self","body","place","known"] []):Ye P w K mg base CX0 (L+1) f fd ["self","place","known"] (IU P w C CK CG CO n):=by
 refine F.oi Ca λF9 A R5 s H vs Q E hr h=>?_;obtain⟨Hm,A',ks,d,ds,cs,G3,av,O,b,c,pl,p,kn,ρ,zs,mx,gm,hz,wb,hp,hc,g,kr,nk,al,on,lc,lw,lz,q1,q2,q3,q4,q5⟩:=h;have hu:=JQ hr;refine⟨_,YY (Yz 3 Ca.nd<|VW DP hr<|pa2 (Yt (pv 0) rfl)<|pv 1)
  (YY (Y3 (Yp VX (Yk (r:=VY K) Yq (pv 3)<|Ya) Yr<|Yx _) (YZ<|Yi<|Yj<|pa2 (Yr)<|pv 3) Yo)
  (YY (Y3 (Yp VX (Yk (r:=VY K) Yq (pv 3)<|Ya) Yr<|Yx _) (YZ<|Yi<|Yj<|pa2 (Yr)<|JX hu (pv 2) (Yk (r:=VY K) Yq (pv 3)<|Ya) λ_ _=>rfl) Yo)
  (YY (Y3 (Yp VX (Yk (r:=VY K) Yq (pv 3)<|Ya) Yr<|Yx _) J4 Yo)
  (YY (Y3 (Yp VX (Yk (r:=VY K) Yq (pv 3)<|Ya) Yr<|Yx _) (YZ<|Yi<|Yj<|pa2 (Yr)<|Y6 (pv 0) TO.cl m1 G1 hr b1 .nil Y4<|pa2 (pv 1)<|pv 2) Yo)
  (YY (Y3 (Yp VX (Yk (r:=VY K) Yq (pv 3)<|Ya) Yr<|Yx _) (YZ<|Yi<|Yj<|pa3 (Yr) (VB (r:=λx y H Q=>UT K x y H Q\/US K x y H Q) J0 (pv 1)<|Yj<|pa1<|Ya)<|Y6 (pv 0) TO.cl m2 G2 hr b2 .nil Y4<|pa3 (pv 3) (pv 1)<|pv 2) Yo)
  (YY (VZ<|Uy Zz Z0 Z1 JM (Yt (pv 0) rfl)<|pa1<|Yj<|pa3 (pv 3) (pv 1)<|pv 2)
  (YZ<|Yi<|Yj<|pa3 (Yr) (VB (r:=λx y H Q=>UT K x y H Q\/US K x y H Q) J0 (pv 1)<|Yj<|pa1<|Ya)<|pv 2))))))),?_⟩
 dsimp only[Vf,Cx.nox,Cx.wish];show let T0:=_;let T1:=Yl _ T0;let T2:=_;let T3:=Yl (VF _ T2 _) T1;let T4:=_;let T5:=Yl (VF _ T4 _) T3;let T6:=Yl (VF _ _ _) T5;let T7:=_;let T8:=Yl (VF _ T7 _) T6;let T9:=_;let F6:=Yl (VF _ T9 _) T8;Yl _ F6 _ _ _
 intros
 refine⟨CO,_,_,_,gm.ins,TO.cl,TO.bd,LC _,_,p,b,c,pl,gm.bd,gm.ok,hp,hc,λu H1 T Z=>?_⟩;have l:=mx.mono T;have D:=gm.mono T;have S:=kr.mono T;have R4:∀a,av a->∃o,H1 a=some o:=λa h=>let⟨o,e⟩:=al a h;⟨o,T _ _ e⟩
 have X:=T _ _ hp;have U:=Z
 cases c with
 |pair=>exact g.elim
 |one=>exact g.elim
 |other=>exact g.elim
 |tag t=>
  unfold Bd.dat at Z;obtain⟨a,ys,rfl,J,j⟩:=Yu Z;obtain⟨x1,r1,rfl,q,B⟩:=Yc j;obtain rfl:=has_str q;refine⟨_,_,Z2 J,at0,Y,_,Y,VG (by decide +kernel) ⟨sl 2,λr R=>?_⟩⟩;refine up_in R _ λH2 N I=>q1 t Y _ _ (T.trans N) ?_;unfold Bd.dat at U;exact Yv I<|Z4 Y5<|Z5<|U.mono N
 |name x=>
  unfold Bd.dat at Z;obtain⟨a,ys,rfl,J,j⟩:=Yu Z;obtain⟨x1,r1,rfl,q,B⟩:=Yc j;obtain⟨x2,r2,rfl,e2,F1⟩:=Yc B;obtain rfl:=VC F1;obtain rfl:=has_str q;obtain rfl:=has_str e2;obtain⟨th,R0⟩:=g;refine⟨_,_,Z2 J,at0,Y,_,Y,Y0 (by decide +kernel) ?_⟩;refine⟨_,_,Z2 J,at0,Y,_,Y,VG (by decide +kernel) ?_⟩;obtain⟨_,F7,k1,_,k2⟩:=id S;obtain⟨v,v1,v2⟩:=k2 x th R0;refine⟨_,_,Z2 J,at1,v,by rw[<-v1];exact JG.k (k:=Sum.inr x) k1,⟨sl 2,λr R=>?_⟩⟩;refine up_in R _ λH2 N I=>q2 x th Y R0 _ _ (T.trans N) ?_;exact Yv I<|Z4 Y5<|Z5<|v2.mono N
 |ask f' as=>
  unfold Bd.dat at Z;obtain⟨a,ys,rfl,J,j⟩:=Yu Z;obtain⟨x1,r1,rfl,q,B⟩:=Yc j;obtain rfl:=has_str q;refine⟨_,_,Z2 J,at0,Y,_,Y,Y0 (by decide +kernel) ?_⟩;refine⟨_,_,Z2 J,at0,Y,_,Y,Y0 (by decide +kernel) ?_⟩;refine⟨_,_,Z2 J,at0,Y,_,Y,Y0 (by decide +kernel) ?_⟩;refine⟨_,_,Z2 J,at0,Y,_,Y,VG (by decide +kernel) ?_⟩;refine⟨_,_,D.ins,Qf _,Hm,A',ks,d,ds,cs,G3,av,O,b,_,pl,p,kn,ρ,l,D,X,hc,g,S,nk,R4,on,lc,by lia,λu2 th F4 J2 H2 ta l1 l2 f2 I hu=>⟨sl 2,λr R=>?_⟩⟩;refine up_in R _ λH3 s3 g3=>q3 f' as Y _ th F4 J2 H3 ta l1 l2 ((FrG.of T).trans<|f2.trans<|.of s3) (I.mono s3) ?_;exact Yv g3<|Z4 Y5<|Z5<|hu.mono s3
 |letb x k' e r=>
  unfold Bd.dat at Z;obtain⟨a,ys,rfl,J,j⟩:=Yu Z;obtain⟨x1,r1,rfl,q,B⟩:=Yc j;obtain rfl:=has_str q;refine⟨_,_,Z2 J,at0,Y,_,Y,Y0 (by decide +kernel) ?_⟩;refine⟨_,_,Z2 J,at0,Y,_,Y,Y0 (by decide +kernel) ?_⟩;refine⟨_,_,Z2 J,at0,Y,_,Y,Y0 (by decide +kernel) ?_⟩;refine⟨_,_,Z2 J,at0,Y,_,Y,Y0 (by decide +kernel) ?_⟩;refine⟨_,_,Z2 J,at0,Y,_,Y,VG (by decide +kernel) ⟨sl 1,λt2 D3=>?_⟩⟩;refine up_in D3 _ λH2 N I=>?_;refine UI (Jc<|N _ _ X) (UG I) (by simp) (by simp;lia) λu3 H3 s3 h3=>?_;obtain⟨a3,rfl,F3⟩:=Jk h3;have G:=N.trans s3;have R3:∀a,av a->∃o,H3 a=some o:=λa h=>let⟨o,e⟩:=R4 a h;⟨o,G _ _ e⟩
  have F8:(Bd.letb x k' e r).size=1+(e.size+r.size):=by conv=>lhs;unfold Bd.size
  refine⟨_,_,(D.mono G).ins,zD _,Hm,A',ks,d,ds,cs,G3,av,O,b,x,k',e,r,pl,_,p,kn,ρ,l.mono G,D.mono G,G _ _ X,hc,U.mono G,g.1,g.2,S.mono G,R3,on,by lia,by lia,λR7 k F5 s4 H4 na mc l1 l2 f4 g4 fk R6=>⟨sl 3,λt5 D0=>?_⟩⟩;refine up_in D0 _ λH5 i g5=>q4 x k' e r Y _ k F5 s4 H5 na mc l1 (by lia) ((FrG.of<|T.trans G).trans<|f4.trans<|.of i) (g4.mono i) ⟨t5,a3,R7,rfl,g5,i _ _<|(l.mono G).gg.tk f4 _ _ F3,R6.mono i,λz=>let⟨o,e⟩:=R3 _ z;by rw[fk]at e;cases e⟩
 |choose e ts bs=>
  unfold Bd.dat at Z;obtain⟨a,ys,rfl,J,j⟩:=Yu Z;obtain⟨x1,r1,rfl,q,B⟩:=Yc j;obtain rfl:=has_str q;refine⟨_,_,Z2 J,at0,Y,_,Y,Y0 (by decide +kernel) ?_⟩;refine⟨_,_,Z2 J,at0,Y,_,Y,Y0 (by decide +kernel) ?_⟩;refine⟨_,_,Z2 J,at0,Y,_,Y,Y0 (by decide +kernel) ?_⟩;refine⟨_,_,Z2 J,at0,Y,_,Y,Y0 (by decide +kernel) ?_⟩;refine⟨_,_,Z2 J,at0,Y,_,Y,Y0 (by decide +kernel) ?_⟩;refine⟨CO,_,_,_,D.ins,TO.cl,TO.wt,EK _,.inl ⟨Y,_,Z3<|T _ _ hz⟩,sl 3,λr R=>?_⟩;refine up_in R _ λH2 N I=>⟨O.wl,_,_,Y,Y,N _ _<|T _ _ hz,JH<|by lia,?_⟩;have O1:=N _ _<|T _ _ hz;refine fld_in O.wl _ λH3 b3 g3=>⟨sl 1,λo ho=>?_⟩;have m:=Jx b3 O1;refine up_in ho _ λH4 s4 g4=>?_;have R1:=m _ _<|N _ _ X;refine UI (Jc<|s4 _ _ R1) (UG g4) (by simp) (by simp;lia) λu5 H5 i h5=>⟨sl 3,λt6 R8=>?_⟩;refine up_in R8 _ λH6 s6 g6=>?_;have M:=(s4.trans i).trans s6;obtain⟨a5,rfl,F2⟩:=Jk h5;have M2:KnR A' H3 kn ρ (3+pl.length):=(S.mono N).lb O1 b3;refine q5 e ts bs Y _ (.ref r) H6 (((T.trans N).sb.trans b3).trans M.sb) (M _ _ g3) ⟨r,_,p,kn,Y,M _ _<|m _ _ I,(VL m _ (Bd.ti _)<|U.mono N).mono M,M _ _ R1,M2.mono M,nk⟩ ⟨t6,a5,kn,rfl,g6,s6 _ _ F2,(M2.mono M).le (by rw[ZL];lia),nk⟩
end
end K4
namespace L2
open PySem
def WEm.fr(h:WEm A av H z c)(g:GG P w H CG A cs sts av')(f:FrG A H T):WEm A av T z c:=by
 obtain⟨t,R,p,J,e,O,N,M,L,G⟩:=h;have Z:=g.tk f;exact⟨t,R,p,J,e,Z _ _ O,VL Z _ (Bd.ti _) N,Z _ _ M,L.fr g f,G⟩
def WEm.lb(h:WEm A av H z c)(J:H l=some (.lst D))(b:SameB l H B):WEm A av B z c:=by
 obtain⟨t,T,p,G,e,R,O,N,M,L⟩:=h;have Z:=Jx b J;exact⟨t,T,p,G,e,Z _ _ R,VL Z _ (Bd.ti _) O,Z _ _ N,M.lb J b,L⟩
def WLm(A:GA)(av:Addr->Prop)(H:Hp)(zs:kZ)(l:List WEn):Prop:=zs.length=l.length/\∀(k:Nat) z c,zs[k]?=some z->l[k]?=some c->WEm A av H z c
def WLm.fr(h:WLm A av H Z l)(g:GG P w H CG A cs sts av')(f:FrG A H L):WLm A av L Z l:=⟨h.1,λk z c G J=>(h.2 k z c G J).fr g f⟩
def WLm.lb(h:WLm A av H Z l)(J:H a=some (.lst N))(b:SameB a H M):WLm A av M Z l:=⟨h.1,λk z c L G=>(h.2 k z c L G).lb J b⟩
def WLm.snoc(h:WLm A av H L l)(e:WEm A av H z c):WLm A av H (L++[z]) (l++[c]):=by
 refine⟨by rw[ZL,ZL,h.1];rfl,λk y d Z J=>?_⟩;rcases jr k L.length with G|G
 .rw [vd G]at Z
  rw[vd (by rw[<-h.1];exact G)]at J;exact h.2 k y d Z J
 .rw [vb G]at Z
  rw[vb (by rw[<-h.1];exact G)]at J;rw[<-h.1]at J
  cases hz:k-L.length with
  |zero=>
   rw[hz]at Z J;cases Z;cases J;exact e
  |succ m=>rw[hz]at Z;simp at Z
def WLm.last(h:WLm A av H Z (l++[c])):∃J z,Z=J++[z]/\WLm A av H J l/\WEm A av H z c:=by
 have e:=h.1;rw[ZL,vc]at e;have G:Z≠[]:=λz=>by rw[z]at e;simp at e
 exists Z.dropLast,Z.getLast G,(vf G).symm,⟨by rw[jf];lia,λk z d M L=>?_⟩
 .have kl:=(ZF.mp L).1
  rw[List.getElem?_dropLast,Zp (by lia)]at M;exact h.2 k z d M (by rw[vd kl];exact L)
 .refine h.2 l.length _ _ ?_ (by rw[vb (ZG _),vk];rfl)
  rw[List.getLast_eq_getElem];rw[show l.length=Z.length-1 by lia];exact ZD _
inductive Stp where
 |body (pl:List Int) (ρ:Rho)|thing (th:Tg)|head (t:Str)|want (k:Nat)
def Stp.on(A:GA)(av:Addr->Prop)(H:Hp)(u:V):Stp->Prop
 |.body pl ρ=>StB A av H u pl ρ
 |.thing th=>Has H u<|.tup [.str "thing",th.dat]
 |.head t=>Has H u<|.tup [.str "head",K4.tagD t]
 |.want k=>Has H u<|.tup [.str "want",.int (k:Nat)]
inductive Gos(ds:List Dd)(gs:List Str)(F:Str)(b:Bd)(num n:Nat):Nat->Stp->List WEn->Ss->Stp->List WEn->Ss->Prop
 |stopW:Gos ds gs F b num n 0 (.want k) l s (.want k) l s
 |stopH:Gos ds gs F b num n 0 (.head t) [] s (.head t) [] s
 |thC (g:Gos ds gs F b num n m (.want k) l s r l' s'):Gos ds gs F b num n (m+1) (.thing (.cell k)) l s r l' s'
 |thT (g:Gos ds gs F b num n m (.head t) l s r l' s'):Gos ds gs F b num n (m+1) (.thing (.tag t)) l s r l' s'
 |thG (h:gs[i]?=some t) (g:Gos ds gs F b num n m (.head t) l s r l' s'):Gos ds gs F b num n (m+1) (.thing (.giv i)) l s r l' s'
 |tag (h:b.at pl=some (.tag t)) (lc:s.1.length+1<=9000) (lw:pl.length+n<=400) (ll:l.length<=400) (g:Gos ds gs F b num n m (.head t) l s r l' s'):Gos ds gs F b num n (m+1) (.body pl ρ) l s r l' s'
 |name (h:b.at pl=some (.name x)) (e:ρ x=some th) (lc:s.1.length+1<=9000) (lw:pl.length+n<=400) (ll:l.length<=400) (g:Gos ds gs F b num n m (.thing th) l s r l' s'):Gos ds gs F b num n (m+1) (.body pl ρ) l s r l' s'
 |ask (h:b.at pl=some (.ask f as)) (ok:OkT ds ρ (n+1) (.ask f as)) (lc:s.1.length+(Bd.ask f as).size<=9000) (lw:pl.length+n<=400) (ll:l.length<=400) (g:∀th s1,TAp ds F b num ρ (n+1) pl s th s1->Gos ds gs F b num n m (.thing th) l s1 r l' s'):Gos ds gs F b num n (m+1) (.body pl ρ) l s r l' s'
 |letb (h:b.at pl=some (.letb x k' e q)) (ce:e.cellB) (ok:∀k,OkT ds (UR ρ x (.cell k)) (n+1) e) (lc:s.1.length+(Bd.letb x k' e q).size<=9000) (lw:pl.length+n<=400) (ll:l.length<=400)
   (g:∀k cs1 s2,XZ s.1 (num,pl++[0]) k cs1->MCp ds F (UR ρ x (.cell k)) (λi=>TAp ds F b num (UR ρ x (.cell k)) n (pl++[0]++[(i:Int)])) e (pl++[0]) k (cs1,s.2) s2->Gos ds gs F b num n m (.body (pl++[1]) (UR ρ x (.cell k))) l s2 r l' s'):Gos ds gs F b num n (m+1) (.body pl ρ) l s r l' s'
 |push (h:b.at pl=some (.choose e ts bs)) (lc:s.1.length+(Bd.choose e ts bs).size<=9000) (lw:pl.length+n<=400) (ll:l.length<=400) (g:Gos ds gs F b num n m (.body (pl++[0]) ρ) (l++[(.choose e ts bs,pl,ρ)]) s r l' s'):Gos ds gs F b num n (m+1) (.body pl ρ) l s r l' s'
 |cho {j:Nat}(nt:ts.Nodup) (lt:ts.length<=50) (lb:bs.length=ts.length) (ht:ts[j]?=some t) (lp:pl.length<=400) (g:Gos ds gs F b num n m (.body (pl++[1+(j:Int)]) ρ) l s r l' s'):Gos ds gs F b num n (m+1) (.head t) (l++[(.choose e ts bs,pl,ρ)]) s r l' s'
def FrW(A:GA)(l:Addr)(H H':Hp):Prop:=∀b o,b≠A.bs->b≠A.nu->b≠A.st->b≠l->H b=some o->H' b=some o
def FrW.refl(A:GA)(l:Addr)(H:Hp):FrW A l H H:=λb o _ _ _ _ h=>h
def FrW.trans(a:FrW A l H N)(b:FrW A l N M):FrW A l H M:=λc o L G J Z e=>b c o L G J Z<|a c o L G J Z e
def FrW.of(f:FrG A H L):FrW A l H L:=λb o G J Z _ e=>f b o G J Z e
def FrW.sb(f:SameB l H J):FrW A l H J:=λb o _ _ _ Z e=>f b o Z e
end L2
namespace K4
open PySem L2
section
variable{C CK CG CO CW CD:Addr}
inductive yB(CO:Addr)(H:Hp)(Q:VK):List V->Prop
 |mk (A:GA) (av:Addr->Prop) (O:OM) (b:Bd) (y:V) (t:Str) (e:Bd) (ts:List Str) (bs:List Bd) (j:Nat) (pl:List Int) (ρ:Rho) (ys:List V) (z:V) (g:GM H CO A O b) (hz:H O.wl=some (.lst (ys++[z]))) (we:WEm A av H z (.choose e ts bs,pl,ρ)) (hy:Has H y (tagD t)) (nt:ts.Nodup) (lt:ts.length<=50) (lb:bs.length=ts.length) (ht:ts[j]?=some t) (lp:pl.length<=400)
  (q:∀u H',SameB O.wl H H'->H' O.wl=some (.lst ys)->StB A av H' u (pl++[1+(j:Int)]) ρ->Q u H'):yB CO H Q [.ref O.t,y]
def IT(CO:Addr):Sp:=λZ H Q _=>yB CO H Q Z
def AI(me:mg "enumerate"=none)(TO:OCl K CO)(F:Fun K "from_head" "Going.from_head" Wj f fd):Ye P w K mg base CX0 (n+4) f fd ["self","head"] (IT CO):=by
 refine F.oi BN λT7 A m s H vs Q E hr h=>?_;refine⟨_,YY (Jw (KW Zz PySem.F.slot_list_pop PySem.F.type_list_pop K9<|Yt (pv 0) rfl)<|Ve (n:=3) rfl (Yn (Ym 2 BN.nd)<|Yn (Ym 3 BN.nd)<|Yn (Ym 4 BN.nd) VM))
  (YY (Y3 (Yp VX (Yk (r:=VY K) Yq (pv 2)<|Ya) Yr<|Yx _) (YZ (Ja Zv rfl (Xz rfl me (pa1<|Yk (r:=VY K) Yq (pv 2)<|Ya)) (Ve (n:=2) rfl (Yn (Ym 5 BN.nd)<|Yn (Ve (n:=2) rfl (Yn (Ym 6 BN.nd)<|Yn (Ym 7 BN.nd) VM)) VM))
   (YZ<|Y3 (Yp (MS hr) (pv 1) (Yj<|pa2 (Yr)<|pv 6)<|Yx _) (YZ<|Yi<|Yj<|pa3 (Yr) (VB (r:=λx y H Q=>UT K x y H Q\/US K x y H Q) J0 (pv 3)<|Yj<|pa1<|VB V9 Ya<|pv 5)<|pv 4) Yo))) J4)
  J4),?_⟩
 dsimp only[Vf,Cx.nox,Cx.wish];show let T0:=_;let T1:=VF _ T0 _;let T2:=XS _ _ T1;let T3:=Yl (VF _ T2 _) _;Yl _ T3 _ _ _
 intros
 obtain⟨A',av,O,b,y,t,e,ts,bs,j,pl,ρ,ys,z,g,S,we,hy,nt,lt,lb,ht,lp,q⟩:=h;obtain⟨tz,bv,p,kn,rfl,J2,i,o,l,u⟩:=we;refine⟨CO,_,_,_,g.ins,TO.cl,TO.wt,EK _,.inl ⟨Y,_,Z3 S⟩,O.wl,_,_,Y,Y,S,by rw[ZL,vc,Nat.add_sub_cancel,vb<|ZG _,vk];rfl,?_⟩;rw[List.dropLast_concat];refine fld_in O.wl _ λH1 b1 g1=>?_;have D:=Jx b1 S;exists _,Z2<|D _ _ J2,rfl;have hb:=VL D _ (Bd.ti _) i;unfold Bd.dat at hb;obtain⟨a,T8,rfl,T,hl⟩:=Yu hb;obtain⟨x1,r1,rfl,e1,R5⟩:=Yc hl;obtain⟨x2,r2,rfl,e2,R4⟩:=Yc R5;obtain⟨x3,r3,rfl,e3,R3⟩:=Yc R4;obtain rfl:=VC R3;obtain rfl:=has_str e1;obtain⟨tb,xs,rfl,R,N⟩:=Yu e3;have lx:=N.length;rw[brs_len lb]at lx;have jl:=(ZF.mp ht).1;refine⟨_,_,Z2 T,at0,Y,_,Y,VG (by decide +kernel) ?_⟩;exists _,_,Z2 T,at2,tb,true,xs,Y,Z2 R;have G1:Has H1 y (tagD t):=VL D _ (by simp[tagD,Dat.ti,Dat.tis]) hy;have O1:Has H1 (.ref p) (Js pl):=Jc<|D _ _ o;have c:=l.lb S b1
 let I:pc:=λk U X=>Same H1 X/\k<=j/\∃z5 z6 z7,U=[some (.ref O.t),some y,some<|.ref a,some<|.ref p,some<|.ref kn,z5,z6,z7]
 refine Te (tp:=true) (xs:=xs) I ⟨Z8 _,Zc _,_,_,_,Y⟩ (λk U X _ z=>Z2<|z.1 _ _ R) ?_ ?_
 .rintro k v U X r hv ⟨s1,kj,z5,z6,z7,rfl⟩ hr'
  refine up_in hr' _ λH2 s2 g2=>?_;have M:=s1.trans s2;obtain⟨d,T4,R8⟩:=N.get hv;obtain⟨Z,bk,G,rfl⟩:=L4 T4;have R7:=R8.mono M;obtain⟨aw,us,rfl,T5,R6⟩:=Yu R7;obtain⟨y1,r1,rfl,f1,R1⟩:=Yc R6;obtain⟨y2,r2,rfl,f2,R0⟩:=Yc R1;obtain rfl:=VC R0;obtain rfl:=has_str f1;refine⟨_,Z2 g2,Y,⟨_,Z2 T5,Y,sl 2,λtq G2=>?_⟩⟩;refine up_in G2 _ λH3 s3 g3=>?_;have J:=M.trans s3;have dd:(tagD t).dep<=n+2:=by simp[tagD,Dat.dep,Dat.deps]
  exists tagD t,tagD Z,G1.mono J,D1 g3,dd,_,Y
  have B:(tagD t).pq (tagD Z)=decide (t=Z):=by
   simp only[tagD,Dat.pq,Dat.pqs,Bool.and_true,beq_self_eq_true,Bool.true_and];rw[jz];simp
  by_cases ej:k=j
  .subst ej
   rw[ht]at G;cases G;refine VG (by rw[B];simp) ?_;refine⟨sl 1,λto G3=>?_⟩;refine up_in G3 _ λH4 s4 g4=>?_;refine UI (O1.mono<|J.trans s4) (UG g4) (by simp) (by simp;lia) λu5 H5 s5 h5=>⟨sl 3,λt6 M2=>?_⟩;refine up_in M2 _ λH6 s6 g6=>?_;obtain⟨a5,rfl,T6⟩:=Jk h5;have L:=((J.trans s4).trans s5).trans s6;exact q _ _ (b1.trans L.sb) (L _ _ g1) ⟨t6,a5,kn,Y,g6,s6 _ _ T6,(c.mono L).le (by show 3+pl.length<=_;rw[ZL];lia),u⟩
  .have ne:¬t=Z:=λz=>by
    subst z;have kl:=(ZF.mp G).1;exact jc.mp nt k j kl jl (by lia)<|(ZF.mp G).2.trans (ZF.mp ht).2.symm
   refine Y0 (by rw[B];simp[ne]) ⟨J,by lia,_,_,_,Y⟩
 .rintro U X ⟨s1,kj,_⟩
  exact Zr kj<|by lia
end
end K4
namespace L2
open PySem
structure RG(P:Program)(w:World)(Hm H:Hp)(C CK CG CO:Addr)(A:GA)(ks:List (Str×Shp))(d:Str->Nat)(ds:List Dd)(av:Addr->Prop)(O:OM)(b:Bd)(l:List WEn)(s:Ss):Prop where
 mx:MX P w Hm H C CK CG A ks d ds s.1 s.2 av
 al:∀a,av a->∃o,H a=some o
 gm:GM H CO A O b
 wl:∃zs,H O.wl=some (.lst zs)/\WLm A av H zs l
 wb:O.wl≠A.bs
 fw:Hm O.wl=none
 on:O.n<=s.1.length
def RG.same(g:RG P w N H C T CG CO A J d M av O b l s)(e:Same H R):RG P w N R C T CG CO A J d M av O b l s:=by
 obtain⟨Z,L,G⟩:=g.wl;exact⟨g.mx.mono e,λa h=>let⟨o,q⟩:=g.al a h;⟨o,e _ _ q⟩,g.gm.mono e,⟨Z,e _ _ L,G.fr g.mx.gg<|.of e⟩,g.wb,g.fw,g.on⟩
def RG.fr(g:RG P w F H C I CG CO A G d E av O b l s)(f:FrG A H M)(L:GG P w M CG A Z.1 Z.2 av)(h:s.1.length<=Z.1.length):RG P w F M C I CG CO A G d E av O b l Z:=by
 obtain⟨N,J,T⟩:=g.wl
 have n:O.wl≠A.nu/\O.wl≠A.st:=by
  obtain⟨R,D,_⟩:=g.mx.gg.nu;obtain⟨G,B,_⟩:=g.mx.gg.st;exact⟨Yy J D Ue.symm,Yy J B (by intro z;cases z)⟩
 exact⟨g.mx.fr f L,Nz g.al f L,g.gm.fr g.mx.gg f,⟨N,f _ _ g.wb n.1 n.2 J,T.fr g.mx.gg f⟩,g.wb,g.fw,Zb g.on h⟩
def RG.lb(g:RG P w T H C B CG CO A M d R av O b l s)(f:SameB O.wl H J)(h:J O.wl=some (.lst zs'))(G:WLm A av J zs' l'):RG P w T J C B CG CO A M d R av O b l' s:=by
 obtain⟨D,Z,E⟩:=g.wl;have L:=Jx f Z;refine⟨⟨λa o e=>f a o (Yb e g.fw)<|g.mx.sm _ _ e,g.mx.bi,g.mx.f1,g.mx.f2,g.mx.f3,g.mx.gg.lb Z g.wb f⟩,λa N=>?_,⟨f _ _ (Yy g.gm.ins Z (by intro z;cases z)) g.gm.ins,VL L _ (Bd.ti _) g.gm.bd,g.gm.ok,g.gm.gr⟩,⟨zs',h,G⟩,g.wb,g.fw,g.on⟩
 by_cases z:a=O.wl
 .exact ⟨_,by rw[z];exact h⟩
 .obtain ⟨o,q⟩:=g.al a N
  exact⟨o,f a o z q⟩
end L2
namespace K4
open PySem L2
section
variable{C CK CG CO CW CD:Addr}
def NV(A:OM):(Ji A).lookup ("from_body":Str)=none:=rfl
def LB(A:OM):(Ji A).lookup ("from_thing":Str)=none:=rfl
def zH(A:OM):(Ji A).lookup ("from_head":Str)=none:=rfl
def Qh(A:OM):(Ji A).lookup ("go_on":Str)=none:=rfl
inductive zw(P:Program)(w:World)(C CK CG CO:Addr)(n:Nat)(H:Hp)(Q:VK):List V->Prop
 |mk (Hm:Hp) (A:GA) (ks:List (Str×Shp)) (d:Str->Nat) (ds:List Dd) (av:Addr->Prop) (O:OM) (b:Bd) (l:List WEn) (s:Ss) (u:V) (m:Nat) (x r:Stp) (l':List WEn) (s':Ss) (rg:RG P w Hm H C CK CG CO A ks d ds av O b l s) (hx:x.on A av H u) (gs:Gos ds A.gs O.F b O.n n m x l s r l' s') (l3:A.gs.length<=3)
  (q:∀v H',FrW A O.wl H H'->RG P w Hm H' C CK CG CO A ks d ds av O b l' s'->r.on A av H' v->Q v H'):zw P w C CK CG CO n H Q [.ref O.t,u]
def D7(P:Program)(w:World)(C CK CG CO:Addr)(n:Nat):Sp:=λZ H Q _=>zw P w C CK CG CO n H Q Z
def AF(B:Blt mg)(TO:OCl K CO)(F:Fun K "go_on" "Going.go_on" K3 f fd)(mB:VJ K CO "from_body" fB)(GB:Ye P w K mg base CX0 L fB fBd ["self","place","known"] (IU P w C CK CG CO n))(bB:Binds K fBd ["self","place","known"] [])(mT:VJ K CO "from_thing" fT)(GT:Ye P w K mg base CX0 L fT fTd ["self","thing"] (IS CG CO))(bT:Binds K fTd ["self","thing"] [])(mH:VJ K CO "from_head" fH)(GH:Ye P w K mg base CX0 L fH fHd ["self","head"] (IT CO))(bH:Binds K fHd ["self","head"] []):Ye P w K mg base CX0 (L+1) f fd ["self","state"] (D7 P w C CK CG CO n):=by
 refine F.oi EC λR7 A R1 s H vs Q E hr h=>?_;obtain⟨Hm,c,ks,d,ds,av,O,b,l,s0,u,m,x,r,l',s',rg,hx,gs,l3,q⟩:=h;exists _,YZ<|NI Zv (Vz X0)<|YZ<|Y3 (Yp VX (Yk (r:=VY K) Yq (pv 1)<|Ya) Yr<|Yx _) (YZ<|Yz 1 EC.nd<|Y6 (pv 0) TO.cl mB GB hr bB .nil Y4<|pa2 (Yk (r:=VY K) Yq (pv 1)<|Ya)<|Yk (r:=VY K) Yq (pv 1)<|Ya)<|YZ<|Y3 (Yp VX (Yk (r:=VY K) Yq (pv 1)<|Ya) Yr<|Yx _) (YZ<|Yz 1 EC.nd<|Y6 (pv 0) TO.cl mT GT hr bT .nil Y4<|pa1<|Yk (r:=VY K) Yq (pv 1)<|Ya)<|YZ<|Y3 (PW.pt<|MN (Yp VX (Yk (r:=VY K) Yq (pv 1)<|Ya) Yr<|Yx _)<|GO<|Yp RD (Y9 Yw rfl B.len Zu (pa1<|Yt (pv 0) rfl)) Ya<|Yx _) (YZ<|Yz 1 EC.nd<|Y6 (pv 0) TO.cl mH GH hr bH .nil Y4<|pa1<|Yk (r:=VY K) Yq (pv 1)<|Ya)<|YZ<|Yi<|pv 1;dsimp only[Vf,Cx.nox,Cx.wish];show let T0:=_;let T1:=_;let T2:=_;let T3:=_;let T4:=VF _ T2 T3;let T5:=VF _ T1 T4;let T6:=VF _ T0 T5;N6 _ T6 _ _ _
 intros
 let W:pc:=λm U H'=>∃x l s u,U=[some (.ref O.t),some u]/\FrW c O.wl H H'/\RG P w Hm H' C CK CG CO c ks d ds av O b l s/\x.on c av H' u/\Gos ds c.gs O.F b O.n n m x l s r l' s'
 exists W,⟨m,x,l,s0,u,Y,.refl _ _ _,rg,hx,gs⟩;rintro m U H1 ⟨x,l,I,u,rfl,a,Z,G,R4⟩;refine⟨true,Y,VG Y ⟨λU H'=>∃m',m'<m/\W m' U H',λU' H' z=>z,?_⟩⟩;obtain⟨zs,hz,wl⟩:=Z.wl
 cases R4 with
 |stopW=>
  have N:Has H1 u (.tup [.str "want",.int (k:Nat)]):=G;obtain⟨t,ys,rfl,J,o⟩:=Yu N;obtain⟨x1,r1,rfl,g,R⟩:=Yc o;obtain rfl:=has_str g;refine⟨_,_,Z2 J,at0,Y,_,Y,Y0 (by decide +kernel) ?_⟩;refine⟨_,_,Z2 J,at0,Y,_,Y,Y0 (by decide +kernel) ?_⟩;refine⟨_,_,Z2 J,at0,Y,_,Y,Y0 (by decide +kernel)<|Y0 (by simp) ?_⟩;exact q _ _ a Z G
 |stopH=>
  have N:Has H1 u (.tup [.str "head",tagD t]):=G;obtain⟨t',ys,rfl,J,o⟩:=Yu N;obtain⟨x1,r1,rfl,g,R⟩:=Yc o;obtain rfl:=has_str g;have z0:zs=[]:=vg wl.1;subst z0;refine⟨_,_,Z2 J,at0,Y,_,Y,Y0 (by decide +kernel) ?_⟩;refine⟨_,_,Z2 J,at0,Y,_,Y,Y0 (by decide +kernel) ?_⟩;refine⟨_,_,Z2 J,at0,Y,_,Y,VG (by decide +kernel) ?_⟩;refine⟨CO,_,_,_,Z.gm.ins,TO.cl,TO.wt,EK _,O.wl,_,Y,.inl<|Z3 hz,_,rfl,Y0 (by decide +kernel)<|q _ _ a Z G⟩
 |thC X=>
  have N:Has H1 u (.tup [.str "thing",(Tg.cell k).dat]):=G;obtain⟨t',ys,rfl,J,o⟩:=Yu N;obtain⟨x1,r1,rfl,g,R⟩:=Yc o;obtain⟨v,r2,rfl,M,y⟩:=Yc R;obtain rfl:=VC y;obtain rfl:=has_str g;refine⟨_,_,Z2 J,at0,Y,_,Y,Y0 (by decide +kernel) ?_⟩;refine⟨_,_,Z2 J,at0,Y,_,Y,VG (by decide +kernel) ?_⟩;refine⟨_,_,Z.gm.ins,LB _,_,_,Z2 J,at1,c,O,b,v,.cell k,Z.gm,Z.mx.gg.ins,Z.mx.gg.gv,l3,M,λn' e T H2 D S=>?_,λt e=>(nomatch e),λi e=>nomatch e⟩;cases e;exact⟨_,vj _,.want k,l,I,T,Y,a.trans<|.of<|.of D,Z.same D,S,X⟩
 |thT X=>
  have N:Has H1 u (.tup [.str "thing",(Tg.tag t).dat]):=G;obtain⟨t',ys,rfl,J,o⟩:=Yu N;obtain⟨x1,r1,rfl,g,R⟩:=Yc o;obtain⟨v,r2,rfl,M,y⟩:=Yc R;obtain rfl:=VC y;obtain rfl:=has_str g;refine⟨_,_,Z2 J,at0,Y,_,Y,Y0 (by decide +kernel) ?_⟩;refine⟨_,_,Z2 J,at0,Y,_,Y,VG (by decide +kernel) ?_⟩;refine⟨_,_,Z.gm.ins,LB _,_,_,Z2 J,at1,c,O,b,v,.tag t,Z.gm,Z.mx.gg.ins,Z.mx.gg.gv,l3,M,λn' e=>(nomatch e),λt2 e T H2 D S=>?_,λi e=>nomatch e⟩;cases e;exact⟨_,vj _,.head t,l,I,T,Y,a.trans<|.of<|.of D,Z.same D,S,X⟩
 |thG hi X=>
  have N:Has H1 u (.tup [.str "thing",(Tg.giv i).dat]):=G;obtain⟨t',ys,rfl,J,o⟩:=Yu N;obtain⟨x1,r1,rfl,g,R⟩:=Yc o;obtain⟨v,r2,rfl,M,y⟩:=Yc R;obtain rfl:=VC y;obtain rfl:=has_str g;refine⟨_,_,Z2 J,at0,Y,_,Y,Y0 (by decide +kernel) ?_⟩;refine⟨_,_,Z2 J,at0,Y,_,Y,VG (by decide +kernel) ?_⟩;refine⟨_,_,Z.gm.ins,LB _,_,_,Z2 J,at1,c,O,b,v,.giv i,Z.gm,Z.mx.gg.ins,Z.mx.gg.gv,l3,M,λn' e=>(nomatch e),λt2 e=>(nomatch e),λi2 e=>?_⟩;cases e;exact⟨t,hi,λT H2 D S=>⟨_,vj _,.head t,l,I,T,Y,a.trans<|.of<|.of D,Z.same D,S,X⟩⟩
 |tag h lc lw ll X=>
  obtain⟨t',p,kn,rfl,J,hp,kr,nk⟩:=G;refine⟨_,_,Z2 J,at0,Y,_,Y,VG (by decide +kernel) ?_⟩;have lz:=wl.1;refine⟨_,_,Z.gm.ins,NV _,_,_,Z2 J,at1,_,_,Z2 J,at2,Hm,c,ks,d,ds,I.1,I.2,av,O,b,_,pl,p,kn,ρ,zs,Z.mx,Z.gm,hz,Z.wb,hp,h,trivial,kr,nk,Z.al,Z.on,by simpa[Bd.size]using lc,lw,by lia,λt2 e T H2 D S=>?_,λx th e=>(nomatch e),λf as e=>(nomatch e),λx k e r M=>(nomatch M),λe ts bs M=>(nomatch M)⟩;cases e;exact⟨_,vj _,.head t,l,I,T,Y,a.trans<|.of<|.of D,Z.same D,S,X⟩
 |name h e lc lw ll X=>
  obtain⟨t',p,kn,rfl,J,hp,kr,nk⟩:=G;refine⟨_,_,Z2 J,at0,Y,_,Y,VG (by decide +kernel) ?_⟩;have lz:=wl.1;refine⟨_,_,Z.gm.ins,NV _,_,_,Z2 J,at1,_,_,Z2 J,at2,Hm,c,ks,d,ds,I.1,I.2,av,O,b,_,pl,p,kn,ρ,zs,Z.mx,Z.gm,hz,Z.wb,hp,h,⟨_,e⟩,kr,nk,Z.al,Z.on,by simpa[Bd.size]using lc,lw,by lia,λt2 e=>(nomatch e),λv G1 g M T H2 D S=>?_,λf as e=>(nomatch e),λx k e r M=>(nomatch M),λe ts bs M=>(nomatch M)⟩;cases g;rw[e]at M;cases M;exact⟨_,vj _,.thing th,l,I,T,Y,a.trans<|.of<|.of D,Z.same D,S,X⟩
 |ask h ok lc lw ll X=>
  obtain⟨t',p,kn,rfl,J,hp,kr,nk⟩:=G;refine⟨_,_,Z2 J,at0,Y,_,Y,VG (by decide +kernel) ?_⟩;have lz:=wl.1;refine⟨_,_,Z.gm.ins,NV _,_,_,Z2 J,at1,_,_,Z2 J,at2,Hm,c,ks,d,ds,I.1,I.2,av,O,b,_,pl,p,kn,ρ,zs,Z.mx,Z.gm,hz,Z.wb,hp,h,ok,kr,nk,Z.al,Z.on,lc,lw,by lia,λt2 e=>(nomatch e),λv G1 e=>(nomatch e),λf2 O1 e T th M2 J2 H2 ta l1 l2 G3 g2 S=>?_,λx k e r M=>(nomatch M),λe ts bs M=>(nomatch M)⟩;exact⟨_,vj _,.thing th,l,(M2,J2),T,Y,a.trans<|.of G3,Z.fr G3 g2 l1,S,X th (M2,J2) ta⟩
 |letb h ce ok lc lw ll X=>
  obtain⟨t',p,kn,rfl,J,hp,kr,nk⟩:=G;refine⟨_,_,Z2 J,at0,Y,_,Y,VG (by decide +kernel) ?_⟩;have lz:=wl.1;refine⟨_,_,Z.gm.ins,NV _,_,_,Z2 J,at1,_,_,Z2 J,at2,Hm,c,ks,d,ds,I.1,I.2,av,O,b,_,pl,p,kn,ρ,zs,Z.mx,Z.gm,hz,Z.wb,hp,h,⟨ce,ok⟩,kr,nk,Z.al,Z.on,lc,lw,by lia,λt2 e=>(nomatch e),λv G1 e=>(nomatch e),λf2 O1 e=>(nomatch e),λx3 k3 e3 r3 e4 T k4 R5 D H2 na mc l1 l2 f2 g2 S=>?_,λe ts bs M=>(nomatch M)⟩;cases e4;exact⟨_,vj _,.body _ _,l,D,T,Y,a.trans<|.of f2,Z.fr f2 g2 l1,S,X k4 R5 D na mc⟩
 |push h lc lw ll X=>
  obtain⟨t',p,kn,rfl,J,hp,kr,nk⟩:=G;refine⟨_,_,Z2 J,at0,Y,_,Y,VG (by decide +kernel) ?_⟩;have lz:=wl.1;refine⟨_,_,Z.gm.ins,NV _,_,_,Z2 J,at1,_,_,Z2 J,at2,Hm,c,ks,d,ds,I.1,I.2,av,O,b,_,pl,p,kn,ρ,zs,Z.mx,Z.gm,hz,Z.wb,hp,h,trivial,kr,nk,Z.al,Z.on,lc,lw,by lia,λt2 e=>(nomatch e),λv G1 e=>(nomatch e),λf2 O1 e=>(nomatch e),λx k e r M=>(nomatch M),λe3 R6 R8 e4 T z H2 b2 G2 we S=>?_⟩;exact⟨_,vj _,.body _ _,l++[_],I,T,Y,a.trans<|.sb b2,Z.lb b2 G2<|(wl.lb hz b2).snoc we,S,X⟩
 |cho nt lt lb R3 lp X=>
  have N:Has H1 u (.tup [.str "head",tagD t]):=G;obtain⟨t',ys,rfl,J,o⟩:=Yu N;obtain⟨x1,r1,rfl,g,R⟩:=Yc o;obtain⟨v,r2,rfl,M,y⟩:=Yc R;obtain rfl:=VC y;obtain rfl:=has_str g;obtain⟨ys,z,rfl,R0,we⟩:=wl.last;refine⟨_,_,Z2 J,at0,Y,_,Y,Y0 (by decide +kernel) ?_⟩;refine⟨_,_,Z2 J,at0,Y,_,Y,Y0 (by decide +kernel) ?_⟩;refine⟨_,_,Z2 J,at0,Y,_,Y,VG (by decide +kernel) ?_⟩;refine⟨CO,_,_,_,Z.gm.ins,TO.cl,TO.wt,EK _,O.wl,_,Y,.inl<|Z3 hz,_,rfl,VG (by rw[ZL,vc];exact decide_eq_true<|by lia) ?_⟩;refine⟨_,_,Z.gm.ins,zH _,_,_,Z2 J,at1,c,av,O,b,v,t,_,ts,bs,j,pl,ρ,ys,z,Z.gm,hz,we,M,nt,lt,lb,R3,lp,λT H2 b2 G2 S=>?_⟩;exact⟨_,vj _,.body _ _,_,I,T,Y,a.trans<|.sb b2,Z.lb b2 G2<|R0.lb hz b2,S,X⟩
end
section
variable{C CK CG CO CW CD:Addr}
def yW:Yh ["self","head"] ["self","head"] (Yd Wi):=Y2
inductive Qx(P:Program)(w:World)(C CK CG CO:Addr)(n:Nat)(H:Hp)(Q:VK):List V->Prop
 |mk (Hm:Hp) (A:GA) (ks:List (Str×Shp)) (d:Str->Nat) (ds:List Dd) (av:Addr->Prop) (O:OM) (b:Bd) (pl:List Int) (ρ:Rho) (s:Ss) (m:Nat) (r:Stp) (l':List WEn) (s':Ss) (rg:RG P w Hm H C CK CG CO A ks d ds av O b [] s) (hp:H O.pl=some (.tup (pl.map V.int))) (kr:KnR A H O.kn ρ (3+pl.length)) (nk:¬av O.kn) (gs:Gos ds A.gs O.F b O.n n m (.body pl ρ) [] s r l' s') (l3:A.gs.length<=3)
  (q:∀v H',FrW A O.wl H H'->RG P w Hm H' C CK CG CO A ks d ds av O b l' s'->r.on A av H' v->Q v H'):Qx P w C CK CG CO n H Q [.ref O.t]
def BH(P:Program)(w:World)(C CK CG CO:Addr)(n:Nat):Sp:=λZ H Q _=>Qx P w C CK CG CO n H Q Z
def Pc(TO:OCl K CO)(F:Fun K "begin" "Going.begin" B2 f e)(m:VJ K CO "go_on" g)(G:Ye P w K I base CX0 L g l ["self","state"] (D7 P w C CK CG CO n))(a:Binds K l ["self","state"] []):Ye P w K I base CX0 (L+1) f e ["self"] (BH P w C CK CG CO n):=by
 refine F.oi Cc λi A N s H vs Q E p h=>?_;obtain⟨Hm,A',j,d,o,x,O,b,B,ρ,R,S,r,X,T,J,c,y,D,u,U,q⟩:=h;exists _,YZ<|Yi<|Y6 (pv 0) TO.cl m G p a .nil Y4<|pa1<|Yj<|pa3 (Yr) (Yt (pv 0) rfl)<|Yt (pv 0) rfl;dsimp only[Vf,Cx.nox,Cx.wish];refine⟨_,_,J.gm.ins,Qh _,CO,_,_,_,J.gm.ins,TO.cl,TO.pl,zF _,CO,_,_,_,J.gm.ins,TO.cl,TO.kn,zG _,sl 3,λt k=>?_⟩;refine up_in k _ λH1 Z g1=>?_;exact⟨Hm,A',j,d,o,x,O,b,[],R,_,S,.body B ρ,r,X,T,J.same Z,⟨t,_,_,Y,g1,Z _ _ c,y.mono Z,D⟩,u,U,λv H' f M z=>q v H' ((FrW.of<|.of Z).trans f) M z⟩
inductive zo(P:Program)(w:World)(C CK CG CO:Addr)(n:Nat)(H:Hp)(Q:VK):List V->Prop
 |mk (Hm:Hp) (A:GA) (ks:List (Str×Shp)) (d:Str->Nat) (ds:List Dd) (av:Addr->Prop) (O:OM) (b:Bd) (l:List WEn) (s:Ss) (y:V) (t:Str) (m:Nat) (r:Stp) (l':List WEn) (s':Ss) (rg:RG P w Hm H C CK CG CO A ks d ds av O b l s) (hy:Has H y (tagD t)) (gs:Gos ds A.gs O.F b O.n n m (.head t) l s r l' s') (l3:A.gs.length<=3)
  (q:∀v H',FrW A O.wl H H'->RG P w Hm H' C CK CG CO A ks d ds av O b l' s'->r.on A av H' v->Q v H'):zo P w C CK CG CO n H Q [.ref O.t,y]
def IO(P:Program)(w:World)(C CK CG CO:Addr)(n:Nat):Sp:=λZ H Q _=>zo P w C CK CG CO n H Q Z
def AB(TO:OCl K CO)(F:Fun K "take_head" "Going.take_head" Wi f e)(m:VJ K CO "go_on" g)(G:Ye P w K D base CX0 L g u ["self","state"] (D7 P w C CK CG CO n))(a:Binds K u ["self","state"] []):Ye P w K D base CX0 (L+1) f e ["self","head"] (IO P w C CK CG CO n):=by
 refine F.oi yW λi A M s H vs Q E p h=>?_;obtain⟨Hm,A',X,d,o,x,O,b,l,T,y,R,I,r,U,B,N,j,c,S,q⟩:=h;exists _,YZ<|Yi<|Y6 (pv 0) TO.cl m G p a .nil Y4<|pa1<|Yj<|pa2 (Yr)<|pv 1;refine⟨_,_,N.gm.ins,Qh _,sl 2,λt k=>?_⟩;refine up_in k _ λH1 Z g1=>?_;exact⟨Hm,A',X,d,o,x,O,b,l,T,_,I,.head R,r,U,B,N.same Z,Yv g1<|Z4 Y5<|Z5<|j.mono Z,c,S,λv H' f J z=>q v H' ((FrW.of<|.of Z).trans f) J z⟩
inductive zp(P:Program)(w:World)(C CK CG CO:Addr)(H:Hp)(Q:VK):List V->Prop
 |mk (Hm Hx:Hp) (x dx:Addr) (A:GA) (ks:List (Str×Shp)) (d:Str->Nat) (ds:List Dd) (av:Addr->Prop) (s:Ss) (k:Nat) (sta:Sta) (df:Dd) (h0:Hx x=none) (sm:Same Hx H) (hx:H x=some (.ins CO dx [])) (mx:MX P w Hm Hx C CK CG A ks d ds s.1 s.2 av) (al:∀a,av a->∃o,Hx a=some o) (hs:s.2 k=some sta) (hd:df∈ds) (ef:df.1.1=sta.f) (ok:df.2.ok) (hk:k<=s.1.length)
  (q:∀(O:OM) H',O.t=x->O.n=k->O.F=sta.f->Same Hx H'->Hx O.wl=none->RG P w Hm H' C CK CG CO A ks d ds av O df.2 [] s->H' O.pl=some (.tup (sta.pl.map V.int))->KnR A H' O.kn sta.ρ (3+sta.pl.length)->¬av O.kn->Q .non H'):zp P w C CK CG CO H Q [.ref x,.ref A.t,.int (k:Nat)]
def IP(P:Program)(w:World)(C CK CG CO:Addr):Sp:=λZ H Q _=>zp P w C CK CG CO H Q Z
def AC(TB:BCl K C)(TG:GCl K CG)(TO:OCl K CO)(F:Fun K "__init__" "Going.__init__" K2 f fd)(m:VJ K C "body_of" g)(G:Ye P w K mg base CX0 L g gd ["self","F"] (Rw C CK))(bG:Binds K gd ["self","F"] []):Ye P w K mg base CX0 (L+1) f fd ["self","ground","number"] (IP P w C CK CG CO):=by
 refine F.oi yZ λG2 A u s H vs Q E hr h=>?_;obtain⟨Hm,S,x,O,i,ks,d,ds,av,s0,k,B,df,l,sm,hx,N,al,hs,hd,ef,ok,hk,q⟩:=h;have hu:=JQ hr;refine⟨_,YY (Va (pv 0) (pv 1) Y)
  (YY (Va (pv 0) (pv 2) rfl)
  (YY (Jw (JX hu (Yt (pv 1) rfl) (pv 2) λ_ _=>rfl)<|Ve (n:=3) rfl (Yn (Bp<|pv 0)<|Yn (Bp<|pv 0)<|Yn (Bp<|pv 0) VM))
  (YY (Va (pv 0) (Y6 (Yt (pv 1) rfl) TB.cl m G hr bG .nil Y4<|pa1<|Yt (pv 0) rfl) rfl)
  (YZ<|Va (pv 0) (JJ Vq) rfl)))),?_⟩
 dsimp only[Vf,Cx.nox,Cx.wish];show let T0:=_;let T1:=Yl _ T0;let T2:=Yl _ T1;let T3:=Yl _ T2;Yl _ T3 _ _ _
 intros
 obtain⟨G1,r,lst,D⟩:=N.gg.st;obtain⟨tt,pp,kn,v1,v2,v3,v4,v5⟩:=D k B hs;refine⟨x,CO,O,_,Y,hx,TO.cl,TO.gr,by decide,?_⟩;refine fld_in x _ λH1 b1 x1=>⟨x,CO,O,_,Y,x1,TO.cl,TO.nu,(by show 1<1000;decide),?_⟩;refine fld_in x _ λH2 b2 x2=>?_;have M:Same S H2:=UM l sm<|b1.trans b2;refine⟨CG,_,_,_,M _ _ N.gg.ins,TG.cl,TG.st,DX _,_,by rw[<-v1];exact JG.k (k:=Sum.inl (k:Int))<|M _ _ r,?_⟩;refine⟨_,Z2<|M _ _ v2,rfl,x,CO,O,_,rfl,x2,TO.cl,TO.f,(by show 2<1000;decide),?_⟩;refine fld_in x _ λH3 b3 x3=>⟨x,CO,O,_,Y,x3,TO.cl,TO.pl,(by show 3<1000;decide),?_⟩;refine fld_in x _ λH4 b4 x4=>⟨x,CO,O,_,Y,x4,TO.cl,TO.kn,(by show 4<1000;decide),?_⟩;refine fld_in x _ λH5 b5 X=>?_;have J:Same S H5:=UM l M<|(b3.trans b4).trans b5;have I:=N.bi.mono<|N.sm.trans J;obtain⟨A',kv,ea,b'⟩:=id I;exists CG,_,_,_,J _ _ N.gg.ins,TG.cl,TG.bk,Lb _,_,_,by rw[<-ea];exact b'.ins,vG _;exists CO,_,_,_,X,TO.cl,TO.f,Y;rw[<-ef];refine⟨i.bk,ks,d,ds,df,I,hd,λv hv=>?_⟩;refine⟨x,CO,O,_,Y,X,TO.cl,TO.bd,(by show 5<1000;decide),?_⟩;refine fld_in x _ λH6 b6 U=>⟨sl 0,λT R=>?_⟩;have xw:T≠x:=(Yb U R).symm;have t:TK H5 H6:=λb ys h=>b6 _ _ (λz=>by rw[z,X]at h;cases h) h;refine up_in R _ λH7 p g7=>⟨x,CO,O,_,Y,p _ _ U,TO.cl,TO.wt,(by show 6<1000;decide),?_⟩;refine fld_in x _ λH8 b8 x8=>?_;have y:TK H6 H8:=λb ys h=>b8 _ _ (λz=>by rw[z,U]at h;cases h)<|p _ _ h;have Z:Same S H8:=UM l J<|(b6.trans p.sb).trans b8
 have fw:S T=none:=by
  cases e:S T with
  |none=>rfl
  |some o=>have:=b6 _ _ xw<|J _ _ e;rw[R]at this;cases this
 have wb:T≠i.bs:=λz=>by
  obtain⟨xs,h1,_⟩:=N.gg.bs;rw[<-z,fw]at h1;cases h1
 have J2:Hm T=none:=N.sm.free fw
 let O':OM:=⟨x,O,i.t,k,B.f,pp,kn,v,T⟩
 refine q O' H8 Y Y Y Z fw ⟨N.mono Z,λa h=>let⟨o,e⟩:=al a h;⟨o,Z _ _ e⟩,⟨x8,?_,ok,Y⟩,⟨[],b8 _ _ xw g7,Y,λj z c h=>by simp at h⟩,wb,J2,hk⟩ (Z _ _ v3) (v4.mono Z) v5;exact VL (λb ys h=>y _ _<|t _ _ h) _ (Bd.ti _) hv
end
end K4
namespace L2
open PySem PySem.Spec PyProof.Rows
def GG.avoids(g:GG P w H CG A cs sts av)(h:∀a,av' a->H a=none)(s:Same H E):GG P w E CG A cs sts av':=by
 have D:=g.mono s;obtain⟨Z,B,T,R⟩:=g.st;refine{D with st:=⟨Z,s _ _ B,T,λn st e=>?_⟩};obtain⟨t,p,O,N,M,L,J,F⟩:=R n st e;refine⟨t,p,O,N,s _ _ M,s _ _ L,J.mono s,λz=>?_⟩;obtain⟨_,I,G,_,_⟩:=J;rw[h _ z]at G;cases G
def Iz(ns:kQ)(n:Nat):Rho:=VP ns<|(List.range n).map Tg.giv
def N9(F:Str)(ρ:Rho):Nat->Option Sta:=stP (λ_=>none) 0 ⟨F,[],ρ⟩
def LZ(n:Nat):((List.range n).map Tg.giv).map Tg.dat=(List.range n).map λi=>Ta i []:=by rw[vi];rfl
end L2
namespace K4
open PySem L2
section
variable{C CK CG:Addr}
inductive zy(P:Program)(w:World)(C CK CG:Addr)(H:Hp)(Q:VK):List V->Prop
 |mk (Hm:Hp) (x dx bk gv:Addr) (ks:List (Str×Shp)) (d:Str->Nat) (ds:List Dd) (df:Dd) (gs:List Str) (h0:Hm x=none) (sm:Same Hm H) (hx:H x=some (.ins CG dx [])) (bi:BI Hm C CK bk ks d ds) (hd:df∈ds) (hg:Hm gv=some (.tup (gs.map V.str))) (ln:gs.length=df.1.2.1.length) (l3:df.1.2.1.length<=3) (nd:(df.1.2.1.map (·.1)).Nodup)
  (q:∀(A:GA) H',A.t=x->A.bk=bk->A.gs=gs->MX P w Hm H' C CK CG A ks d ds [] (N9 df.1.1 (Iz (df.1.2.1.map (·.1)) gs.length)) av0->Q .non H'):zy P w C CK CG H Q [.ref x,.ref bk,.str df.1.1,.ref gv]
def D8(P:Program)(w:World)(C CK CG:Addr):Sp:=λZ H Q _=>zy P w C CK CG H Q Z
def AG(B:Blt mg)(TG:GCl K CG)(F:Fun K "__init__" "Ground.__init__" Le f fd)(DN:Df P w K mg base n "named" ["book","f","things"] (IQ C CK)):Ye P w K mg base CX0 (n+1) f fd ["self","book","F","worths"] (D8 P w C CK CG):=by
 refine F.oi yd λD0 A R3 s H L Q E hr h=>?_;obtain⟨t,x,j,bk,gv,ks,d,ds,df,gs,h0,sm,hx,bi,hd,hg,ln,l3,nd,q⟩:=h;refine⟨_,YY (Va (pv 0) (pv 1) Y)
  (YY (Va (pv 0) (pv 3) rfl)
  (YY (Va (pv 0) (JJ<|pa1<|Yj Vq) rfl)
  (YY (Va (pv 0) (KO (n:=1) (hn:=hn1)) rfl)
  (YZ<|Va (pv 0) (PB (KL Ya (Yj<|pa3 (pv 2) (Yj Vq)<|VW DN hr<|pa3 (pv 1) (pv 2)<|JF ["i"] [] (JL rfl B.range (pa1<|Y9 Yw rfl B.len Zu (pa1<|pv 3))) (Vc (i:=0)<|by decide) (λcl C fp s H=>Ym 0 yu rfl (Or.inl rfl) (Or.inr rfl)) λcl C fp s H=>Yj<|pa3 (Yr) (pv 0)<|Yj Vq) O4) rfl rfl (by simp) (by decide)) rfl)))),?_⟩
 dsimp only[Vf,Cx.nox,Cx.wish];show let T0:=_;let T1:=Yl _ T0;let T2:=Yl _ T1;let T3:=Yl _ T2;Yl _ T3 _ _ _
 intros
 have nx:∀{b o},t b=some o->b≠x:=λh=>Yb h h0;refine⟨x,CG,j,_,Y,hx,TG.cl,TG.bk,by decide,?_⟩;refine fld_in x _ λH1 b1 x1=>?_;refine⟨x,CG,j,_,Y,x1,TG.cl,TG.gv,(by show 1<1000;decide),?_⟩;refine fld_in x _ λH2 b2 x2=>⟨sl 0,λe he=>?_⟩;refine up_in he _ λH3 s3 g3=>⟨sl 1,λl hl=>?_⟩;have xe:e≠x:=(Yb x2 he).symm;have x3:=s3 _ _ x2;have xl:l≠x:=(Yb x3 hl).symm;refine up_in hl _ λH4 s4 g4=>⟨x,CG,j,_,Y,s4 _ _ x3,TG.cl,TG.bs,(by show 2<1000;decide),?_⟩;refine fld_in x _ λH5 b5 x5=>λnu S=>?_;have xn:nu≠x:=(Yb x5 S).symm;refine up_in S _ λH6 s6 g6=>⟨x,CG,j,_,Y,s6 _ _ x5,TG.cl,TG.nu,(by show 3<1000;decide),?_⟩;refine fld_in x _ λX b7 x7=>λst O=>?_;have g:st≠x:=(Yb x7 O).symm;refine up_in O _ λH8 s8 g8=>⟨sl 0,λe2 R6=>?_⟩;have G3:SameB x H X:=(((((b1.trans b2).trans s3.sb).trans s4.sb).trans b5).trans s6.sb).trans b7;have T7:SameB x H H8:=G3.trans s8.sb;have r:Same t X:=UM h0 sm G3;have v:Same t H8:=UM h0 sm T7;refine up_in R6 _ λH9 s9 g9=>?_;refine⟨gv,_,Y,.inr<|Z2<|s9 _ _<|v _ _ hg,gs.length,by rw[ZA],by lia,by lia,?_⟩;refine Vd gs.length (JH<|by lia) (λi L m=>Same H9 m/\L.length=i/\HasL m L ((List.range i).map λi=>Ta i [])) ⟨Z8 _,rfl,Z6⟩ (λi L m z=>z.2.1) (λi L m hi z=>hi) (λL m z=>ZG _) ?_ ?_
 .rintro i L m y H'' R hi ⟨z1,z2,z3⟩ ⟨rfl,rfl⟩ hR
  refine⟨sl 0,λa ha=>?_⟩;refine up_in ha _ λHa sa ga=>⟨sl 3,λc hc=>?_⟩;refine up_in hc _ λHc sc gc=>hR _ _ ⟨(z1.trans sa).trans sc,by rw[ZL,z2];rfl,?_⟩;rw[jo,ZK];refine Z7 (z3.mono<|sa.trans sc)<|Z5<|Mm (k:=i) (by rw[gc];simp)<|Pf<|sc _ _ ga
 rintro L F3 tl ⟨z1,z2,z3⟩ R5;refine up_in R5 _ λF2 J2 T6=>?_;have Z:=z1.trans J2;refine⟨bk,tl,L,ks,d,ds,df,bi.mono<|v.trans<|s9.trans Z,hd,T6,by lia,l3,nd,λkn F1 I T R8=>⟨sl 3,λtt R4=>?_⟩⟩;refine up_in R4 _ λM2 N T5=>?_;have J:=((s9.trans Z).trans I).trans N;refine⟨J _ _ g8,[(Sum.inl 0,.ref tt)],Y,(by show 1<=15;decide),?_⟩;have u:=J _ _<|s8 _ _ x7;refine fld_in st _ λD3 G2 T4=>⟨x,CG,j,_,Y,G2 _ _ g.symm u,TG.cl,TG.st,(by show 4<1000;decide),?_⟩;refine fld_in x _ λG G1 O1=>?_;have U:∀{b o},M2 b=some o->b≠x->b≠st->G b=some o:=λh n1 n2=>G1 _ _ n1<|G2 _ _ n2 h;have tk:TK M2 G:=λb ys h=>U h (λz=>by rw[z,u]at h;cases h) (λz=>by rw[z,J _ _ g8]at h;cases h);have R7:∀{b o},X b=some o->b≠st:=λh=>Yb h O;have M:∀{b o},X b=some o->b≠x->G b=some o:=λh n=>U (J _ _<|s8 _ _ h) n<|R7 h;have e4:X e=some (.tup []):=b7 _ _ xe<|s6 _ _<|b5 _ _ xe<|s4 _ _ g3;have l7:X l=some (.lst [.ref e]):=b7 _ _ xl<|s6 _ _<|b5 _ _ xl g4;have n7:X nu=some (ddO P w 1 hn1 nu []):=b7 _ _ xn g6;have D:Same t G:=λb o h=>M (r _ _ h)<|nx h;have xk:kn≠x/\kn≠st:=⟨λz=>(by rw[z,Z _ _ (s9 _ _<|s8 _ _ x7)]at T;cases T),λz=>(by rw[z,Z _ _ (s9 _ _ g8)]at T;cases T)⟩;have T8:SameB x H H5:=(((b1.trans b2).trans s3.sb).trans s4.sb).trans b5;have R0:Same t H5:=UM h0 sm T8;have T9:SameB x H H3:=(b1.trans b2).trans s3.sb;have R1:Same t H3:=UM h0 sm T9
 let A':GA:=⟨x,j,bk,gv,l,nu,st,gs⟩
 refine q A' G Y Y Y ⟨D,bi,R1.free hl,R0.free S,r.free O,?_⟩;refine⟨O1,⟨_,M l7 xl,Z5<|Yv (M e4 xe) Z6⟩,⟨[],M n7 xn,(λp h=>(by cases h)),rfl,λk p h=>(by simp at h)⟩,qb,D _ _ hg,_,G1 _ _ g T4,(by show(1:Nat)<=1;exact ZG 1),λn s hs=>?_⟩;unfold N9 stP at hs
 by_cases n0:n=0
 .subst n0
  rw[Zp rfl]at hs;cases hs;refine⟨tt,e2,kn,Y,tk _ _ T5,tk _ _<|(Z.trans<|I.trans N) _ _ g9,⟨xk.2,_,U (N _ _ R8) xk.1 xk.2,?_,λx th e=>?_⟩,id⟩
  .unfold nmD;rw[ZA,List.length_zip,ZA];show _<=3;lia
  .refine N1 ?_ e
   rw[LZ];exact Vt tk _ (Py _)<|z3.mono<|J2.trans<|I.trans N
 .rw [Zq n0]at hs;cases hs
end
end K4
namespace L2
open PySem PySem.Spec PyProof.Rows
structure Qz(K:W.Frag)(C:Addr)(m:Str)(f:Addr):Prop where
 gt:W.specialIn K (.ref C) "__getattribute__"=some (some (.builtin "type.__getattribute__"))
 rd:W.readsIn K C (.type "type")=true
 fc:W.findCls K (.ref C) (.type "type") m=some (.val (.ref f))
 kp:W.keepIn K (.ref f)=true
def KQ{C f:Addr}(d:Gl X x)(g:X.mg x=some (.ref C))(c:Qz X.K C m f)(F:Ye X.prog X.w X.K X.mg X.base CX k f b S R)(z:Vu k X.A)(w:Binds X.K b S i)(hd:Vals dvs i)(P:Up CX X E)(l:PA X (e::J) t)(M:(x==("__debug__":Str))=false:=by decide)(G:starEach (e::J) X.env=(false,eval e X.env)::starEach J X.env:=by rfl)(L:(backTo pos<|starEach J X.env).any (·.1)=false:=by rfl)(j:eval (.Call (.Attribute (.Name x p) m apos) (e::J) [] pos) X.env=(do
   let ov <-eval (.Name x p) X.env
   standAt apos.atName
   let(f,first) <-holding [ov] (getMethod ov m pl)
   callWith pos f first (backTo pos<|starEach (e::J) X.env) (backToKw pos<|keywordEach [] X.env)):=by rfl):
  PE X (.Call (.Attribute (.Name x p) m apos) (e::J) [] pos) (M8 R dvs E t):=by
 intro Z s U H Q I h;refine W.methodCall_KW (pl:=pl) (thn ((JW (v:=.ref C) d g Y M) Z s U H (λx O=>x=.ref C/\M8 R dvs E t U O Q) I ⟨Y,h⟩) λu B ⟨y,O,N,D,o,q⟩=>?_) j;subst o;obtain rfl:u=Value.ref C:=D;refine W.method_cls N.kIn c.gt<|W.cls_value N.kIn c.rd c.fc rfl ?_;have n:=N.tok<|B.toks+1;refine qM (first:=[]) (h₀:=X.base) I.ok.mod.kin c.kp (thn (l pos Z _ U O _ n q) λus s2 ⟨a,H2,T,r,A⟩=>⟨T.kIn,?_⟩) G L;exact G4 F z w hd P T r A
structure WA where
 t:Addr
 dx:Addr
 gr:Addr
 uw:Addr
 wr:Addr
 wn:Addr
 hs:Addr
def V3(bw:Bool)(A:WA)(mo bg:Int):List (Str×V):=("ground",.ref A.gr)::("most",.int mo)::("begun",.int bg)::("under_way",.ref A.uw)::if bw=true then[("wanters",.ref A.wr),("wants",.ref A.wn),("heads",.ref A.hs)]else[]
structure DCl(K:W.Frag)(C:Addr):Prop where
 cl:Cls K C
 gr:VI K C "ground"
 mo:VI K C "most"
 bg:VI K C "begun"
 uw:VI K C "under_way"
structure WCl(K:W.Frag)(C:Addr):Prop extends DCl K C where
 wr:VI K C "wanters"
 wn:VI K C "wants"
 hs:VI K C "heads"
structure WS(bw:Bool)(H:Hp)(C:Addr)(A:WA)(mo bg:Int)(us:List V)(r n h:List (Key×V)):Prop where
 ins:H A.t=some (.ins C A.dx (V3 bw A mo bg))
 uw:H A.uw=some (.lst us)
 wr:bw=true->H A.wr=some (.dK r)
 wn:bw=true->H A.wn=some (.dK n)
 hs:bw=true->H A.hs=some (.dK h)
def WS.mono(g:WS bw H C A mo bg Z r n h)(s:Same H J):WS bw J C A mo bg Z r n h:=⟨s _ _ g.ins,s _ _ g.uw,λz=>s _ _<|g.wr z,λz=>s _ _<|g.wn z,λz=>s _ _<|g.hs z⟩
structure WF(bw:Bool)(Hm:Hp)(A:WA):Prop where
 t:Hm A.t=none
 uw:Hm A.uw=none
 wr:bw=true->Hm A.wr=none
 wn:bw=true->Hm A.wn=none
 hs:bw=true->Hm A.hs=none
 d1:bw=true->A.wr≠A.wn
 d2:bw=true->A.wr≠A.hs
 d3:bw=true->A.wn≠A.hs
end L2
namespace K4
open PySem L2
section
variable{C CK CG CO CW CD:Addr}
def yf:Yh ["self","ground","most"] ["self","ground","most"] (Yd Lx):=Y2
def yV:Yh ["self","ground","most"] ["self","ground","most"] (Yd Ft):=Y2
inductive SDI(CW:Addr)(H:Hp)(Q:VK):List V->Prop
 |mk (x dx gr:Addr) (mo:Int) (hx:H x=some (.ins CW dx []))
  (q:∀uw H',H uw=none->SameB x H H'->H' x=some (.ins CW dx [("ground",.ref gr),("most",.int mo),("begun",.int 0),("under_way",.ref uw)])->H' uw=some (.lst [])->Q .non H'):SDI CW H Q [.ref x,.ref gr,.int mo]
def IV(CW:Addr):Sp:=λZ H Q _=>SDI CW H Q Z
def Qb(Z:DCl K CW)(F:Fun K "__init__" "Doing.__init__" Lx f j):Ye P w K v base CX0 (n+1) f j ["self","ground","most"] (IV CW):=by
 refine F.oi yf λy A M s H d Q E r h=>?_;obtain⟨x,L,l,u,U,q⟩:=h;refine⟨_,YY (Va (pv 0) (pv 1) Y)
  (YY (Va (pv 0) (pv 2) rfl)
  (YY (Va (pv 0) (Ya) rfl)
  (YZ<|Va (pv 0) (JJ Vq) rfl))),?_⟩
 dsimp only[Vf,Cx.nox,Cx.wish];show let p:=_;let k:=Yl _ p;let g:=Yl _ k;Yl _ g _ _ _
 intros
 refine⟨x,CW,L,_,Y,U,Z.cl,Z.gr,by decide,?_⟩;refine fld_in x _ λi m S=>⟨x,CW,L,_,Y,S,Z.cl,Z.mo,(by show 1<1000;decide),?_⟩;refine fld_in x _ λo t I=>⟨x,CW,L,_,Y,I,Z.cl,Z.bg,(by show 2<1000;decide),?_⟩;refine fld_in x _ λe z O=>⟨sl 0,λR J=>?_⟩;have N:R≠x:=(Yb O J).symm;refine up_in J _ λb T X=>⟨x,CW,L,_,Y,T _ _ O,Z.cl,Z.uw,(by show 3<1000;decide),?_⟩;refine fld_in x _ λc B D=>?_;have G:=(m.trans t).trans z;exact q R c (G.free N J) ((G.trans T.sb).trans B) D<|B _ _ N X
inductive SWI(CW:Addr)(H:Hp)(Q:VK):List V->Prop
 |mk (Hm:Hp) (x dx gr:Addr) (mo:Int) (h0:Hm x=none) (sm:Same Hm H) (hx:H x=some (.ins CW dx []))
  (q:∀(A:WA) H',A.t=x->A.gr=gr->WF true Hm A->Same Hm H'->WS true H' CW A mo 0 [] [] [] []->Q .non H'):SWI CW H Q [.ref x,.ref gr,.int mo]
def SQ(CW:Addr):Sp:=λZ H Q _=>SWI CW H Q Z
def Cs(M:WCl K CW)(F:Fun K "__init__" "Walk.__init__" Ft f fd)(mD:e "Doing"=some (.ref CD))(cD:Qz K CD "__init__" g)(k:Ye P w K e base CX0 n g gd ["self","ground","most"] (IV CW))(bD:Binds K gd ["self","ground","most"] []):Ye P w K e base CX0 (n+1) f fd ["self","ground","most"] (SQ CW):=by
 refine F.oi yV λJ2 A z s H vs Q E hr h=>?_;obtain⟨Hm,x,T,a,mo,t,l,o,q⟩:=h;refine⟨_,YY (VZ<|KQ rfl mD cD k hr bD .nil Y4 (pa3 (pv 0) (pv 1)<|pv 2))
  (YY (Va (pv 0) (JB) rfl)
  (YY (Va (pv 0) (JB) rfl)
  (YZ<|Va (pv 0) (JB) rfl))),?_⟩
 dsimp only[Vf,Cx.nox,Cx.wish];show let T0:=_;let T1:=Yl _ T0;let T2:=Yl _ T1;Yl _ T2 _ _ _
 intros
 refine⟨x,T,a,mo,o,λr H1 R b1 u g1=>?_⟩;have xu:r≠x:=(Yb o R).symm;intro wr L;have X:wr≠x:=(Yb u L).symm;refine up_in L _ λH2 b g2=>⟨x,CW,T,_,Y,b _ _ u,M.cl,M.wr,(by show 4<1000;decide),?_⟩;refine fld_in x _ λH3 b3 d=>?_;intro v G;have j:v≠x:=(Yb d G).symm;have g3:=b3 _ _ X g2;refine up_in G _ λH4 y g4=>⟨x,CW,T,_,Y,y _ _ d,M.cl,M.wn,(by show 5<1000;decide),?_⟩;refine fld_in x _ λH5 m c=>?_;intro i Z;have p:i≠x:=(Yb c Z).symm;refine up_in Z _ λH6 S g6=>⟨x,CW,T,_,Y,S _ _ c,M.cl,M.hs,(by show 6<1000;decide),?_⟩;refine fld_in x _ λH7 U x7=>?_;have I:=b.sb.trans b3;have D:=(I.trans y.sb).trans m;have B:=(D.trans S.sb).trans U;have J:Same Hm H1:=UM t l b1;have N:=m _ _ X<|y _ _ g3;have O:=m _ _ j g4
 let A':WA:=⟨x,T,a,r,wr,v,i⟩
 refine q A' H7 Y Y ⟨t,?_,λ_=>?_,λ_=>?_,λ_=>?_,λ_=>?_,λ_=>?_,λ_=>?_⟩ (UM t J B) ⟨x7,B _ _ xu g1,λ_=>U _ _ X<|S _ _ N,λ_=>U _ _ j<|S _ _ O,λ_=>U _ _ p g6⟩
 .exact l.free R
 .exact J.free L
 .exact J.free (I.free j G)
 .exact J.free (D.free p Z)
 .exact Yb g3 G
 .exact Yb N Z
 .exact Yb O Z
end
end K4
namespace L2
open PySem
def Us{H:Hp}{o p:HO}(h:H a=some o)(g:H b=some p)(n:o≠p):a≠b:=λz=>n (by rw[z,g]at h;exact(ZT h).symm)
def WS.tb(g:WS bw H C A mo bg J r n h)(s:SameB A.t H Z)(x:Z A.t=some (.ins C A.dx<|V3 bw A mo bg')):WS bw Z C A mo bg' J r n h:=
 have k:∀{c kvs},H c=some (.dK kvs)->Z c=some (.dK kvs):=λe=>s _ _ (Us e g.ins (by intro z;cases z)) e
 ⟨x,s _ _ (Us g.uw g.ins (by intro z;cases z)) g.uw,λz=>k<|g.wr z,λz=>k<|g.wn z,λz=>k<|g.hs z⟩
def WS.ub(g:WS bw H C A mo bg J r n h)(s:SameB A.uw H Z)(x:Z A.uw=some (.lst us')):WS bw Z C A mo bg us' r n h:=
 have k:∀{c kvs},H c=some (.dK kvs)->Z c=some (.dK kvs):=λe=>s _ _ (Us e g.uw (by intro z;cases z)) e
 ⟨s _ _ (Us g.ins g.uw (by intro z;cases z)) g.ins,x,λz=>k<|g.wr z,λz=>k<|g.wn z,λz=>k<|g.hs z⟩
def WS.rb(g:WS true H C A mo bg J r n h)(f:WF true G A)(b:SameB A.wr H Z)(x:Z A.wr=some (.dK r')):WS true Z C A mo bg J r' n h:=
 ⟨b _ _ (Us g.ins (g.wr rfl) (by intro z;cases z)) g.ins,b _ _ (Us g.uw (g.wr rfl) (by intro z;cases z)) g.uw,λ_=>x,λz=>b _ _ (f.d1 z).symm<|g.wn z,λz=>b _ _ (f.d2 z).symm<|g.hs z⟩
def WS.nb(g:WS true H C A mo bg J r n h)(f:WF true G A)(b:SameB A.wn H Z)(x:Z A.wn=some (.dK n')):WS true Z C A mo bg J r n' h:=
 ⟨b _ _ (Us g.ins (g.wn rfl) (by intro z;cases z)) g.ins,b _ _ (Us g.uw (g.wn rfl) (by intro z;cases z)) g.uw,λz=>b _ _ (f.d1 z)<|g.wr z,λ_=>x,λz=>b _ _ (f.d3 z).symm<|g.hs z⟩
def WS.hb(g:WS true H C A mo bg J r n h)(f:WF true L A)(b:SameB A.hs H Z)(x:Z A.hs=some (.dK G)):WS true Z C A mo bg J r n G:=
 ⟨b _ _ (Us g.ins (g.hs rfl) (by intro z;cases z)) g.ins,b _ _ (Us g.uw (g.hs rfl) (by intro z;cases z)) g.uw,λz=>b _ _ (f.d2 z)<|g.wr z,λz=>b _ _ (f.d3 z)<|g.wn z,λ_=>x⟩
def WS.lb(g:WS bw H C A mo bg J r n h)(e:H l=some (.lst L))(G:l≠A.uw)(s:SameB l H Z):WS bw Z C A mo bg J r n h:=
 have k:∀{c kvs},H c=some (.dK kvs)->Z c=some (.dK kvs):=λq=>s _ _ (Us q e (by intro z;cases z)) q
 ⟨s _ _ (Us g.ins e (by intro z;cases z)) g.ins,s _ _ G.symm g.uw,λz=>k<|g.wr z,λz=>k<|g.wn z,λz=>k<|g.hs z⟩
def P1:Ji O≠V3 bw B mo bg:=λz=>by
 have Z:some ("number":Str)=some ("most":Str):=congrArg (λl:List (Str×V)=>(l.map (·.1))[1]?) z;exact Zr Z<|by decide +kernel
def P2:Ut G≠V3 bw B mo bg:=λz=>by
 have Z:some ("given":Str)=some ("most":Str):=congrArg (λl:List (Str×V)=>(l.map (·.1))[1]?) z;exact Zr Z<|by decide +kernel
structure UE where
 k:Nat
 F:Str
 b:Bd
 l:List WEn
structure WSt where
 u:List UE
 r:List (Nat×Option Nat)
 h:List (Nat×Str)
 bg:Nat
 wc:Nat
 s:Ss
def oV:Option Nat->V
 |none=>.non
 |some k=>.int (k:Nat)
def kK(k:Nat):Key:=Sum.inl (k:Int)
def rK(r:List (Nat×Option Nat)):kY:=r.map λp=>(kK p.1,oV p.2)
def avW(bw:Bool)(B:WA):Addr->Prop:=λa=>bw=true/\(a=B.wr\/a=B.wn\/a=B.hs)
def hdT(t:Str):Dat:=.tup [.str "tag",.str t]
def Mg:(hdT t).ti=true:=by simp[hdT,Dat.ti,Dat.tis]
def HdV(H:Hp)(hK:kY)(h:List (Nat×Str)):Prop:=hK.map (·.1)=h.map (λp=>kK p.1)/\HasL H (hK.map (·.2)) (h.map λp=>hdT p.2)
def WLs(Hm H:Hp)(A:GA)(B:WA)(wc:Nat)(Os:List OM)(v:V):Prop:=∃l Z,v=.ref l/\H l=some (.lst Z)/\Z.all U4=true/\Z.length<=wc/\l≠B.uw/\l≠A.bs/\Hm l=none/\∀O∈Os,l≠O.wl
structure WK(bw:Bool)(P:Program)(w:World)(Hm H:Hp)(C CK CG CO CW:Addr)(A:GA)(ks:List (Str×Shp))(d:Str->Nat)(ds:List Dd)(B:WA)(mo:Nat)(S:WSt)(Os:List OM):Prop where
 mx:MX P w Hm H C CK CG A ks d ds S.s.1 S.s.2 (avW bw B)
 gr:B.gr=A.t
 wf:WF bw Hm B
 n1:¬avW bw B A.st
 n2:A.bs≠B.uw
 l3:A.gs.length<=3
 ws:∃nK hK,WS bw H CW B (mo:Nat) (S.bg:Nat) (Os.map λO=>.ref O.t) (rK S.r) nK hK/\HdV H hK S.h/\nK.map (·.1)=S.r.map (λp=>kK p.1)/\∀p∈nK,WLs Hm H A B S.wc Os p.2
 ul:Os.length=S.u.length
 us:∀(i:Nat) O e,Os[i]?=some O->S.u[i]?=some e->RG P w Hm H C CK CG CO A ks d ds (avW bw B) O e.b e.l S.s/\O.n=e.k/\O.F=e.F
 nd:(Os.map (·.wl)).Nodup
 nu:∀O∈Os,O.wl≠B.uw
def WLs.mono(h:WLs G H A B wc Os v)(s:Same H L):WLs G L A B wc Os v:=let⟨l,Z,e,J,r⟩:=h;⟨l,Z,e,s _ _ J,r⟩
def EY(h:List (Nat×Str)):Dat.tis (h.map λp=>hdT p.2)=true:=U9 λd hd=>by obtain⟨p,_,rfl⟩:=ZW.mp hd;exact Mg
def HdV.tk(h:HdV H hK l)(t:TK H Z):HdV Z hK l:=⟨h.1,Vt t _ (EY l) h.2⟩
def Same.tk0(s:Same H Z):TK H Z:=λ_ _ e=>s _ _ e
def WK.mono(k:WK bw P w D H C F CG CO CW A J d T B mo S Os)(s:Same H E):WK bw P w D E C F CG CO CW A J d T B mo S Os:=by
 obtain⟨Z,G,R,N,M,L⟩:=k.ws;exact⟨k.mx.mono s,k.gr,k.wf,k.n1,k.n2,k.l3,⟨Z,G,R.mono s,N.tk s.tk0,M,λp m=>(L p m).mono s⟩,k.ul,λi O e a b=>let⟨r,q⟩:=k.us i O e a b;⟨r.same s,q⟩,k.nd,k.nu⟩
def WK.al(k:WK bw P w O H C R CG CO CW A L d N B mo S Os):∀a,avW bw B a->∃o,H a=some o:=by
 obtain⟨G,M,J,_⟩:=k.ws;rintro a ⟨Z,rfl|rfl|rfl⟩
 .exact ⟨_,J.wr Z⟩
 .exact ⟨_,J.wn Z⟩
 .exact ⟨_,J.hs Z⟩
structure Fo(Hm H H':Hp)(A:GA)(av:Addr->Prop)(l:Addr):Prop where
 b:SameB l H H'
 x:∃o,H' l=some o
 m:Hm l=none
 t:l≠A.t
 bs:l≠A.bs
 nu:l≠A.nu
 st:l≠A.st
 tk:TK H H'
 kn:∀kn ρ m,KnR A H kn ρ m->¬av kn->kn≠l
def KnR.fo(k:KnR A H kn ρ m)(f:Fo B H T A av l)(M:¬av kn):KnR A T kn ρ m:=by
 obtain⟨n,Z,R,N,O⟩:=id k;exact⟨n,Z,f.b _ _ (f.kn _ _ _ k M) R,N,λx J e=>let⟨v,L,G⟩:=O x J e;⟨v,L,VL f.tk _ (Tg.ti J) G⟩⟩
def GG.fo(g:GG P w H CG A cs sts av)(f:Fo Q H X A av l):GG P w X CG A cs sts av:=by
 obtain⟨L,C,U⟩:=g.bs;obtain⟨T,S,I,G⟩:=g.nu;obtain⟨Z,F,E,D⟩:=g.st;refine⟨f.b _ _ f.t.symm g.ins,⟨L,f.b _ _ f.bs.symm C,Vt f.tk _ (UA cs) U⟩,⟨T,f.b _ _ f.nu.symm S,I.tk G f.tk,G⟩,g.nd,f.tk _ _ g.gv,Z,f.b _ _ f.st.symm F,E,λk st e=>?_⟩;obtain⟨t,p,B,R,O,N,M,J⟩:=D k st e;exact⟨t,p,B,R,f.tk _ _ O,f.tk _ _ N,M.fo f J,J⟩
def MX.fo(m:MX P w Z H C M CG A J d G cs sts av)(f:Fo Z H L A av l):MX P w Z L C M CG A J d G cs sts av:=
 ⟨λa o e=>f.b a o (Yb e f.m)<|m.sm _ _ e,m.bi,m.f1,m.f2,m.f3,m.gg.fo f⟩
def WEm.fo(h:WEm A av H z c)(f:Fo T H R A av l):WEm A av R z c:=by
 obtain⟨t,O,p,J,e,N,M,L,G,Z⟩:=h;exact⟨t,O,p,J,e,f.tk _ _ N,VL f.tk _ (Bd.ti _) M,f.tk _ _ L,G.fo f Z,Z⟩
def RG.fo(g:RG P w J H C E CG CO A N d B av O b l s)(f:Fo J H D A av p)(M:p≠O.t)(L:p≠O.wl):RG P w J D C E CG CO A N d B av O b l s:=by
 obtain⟨G,R,Z⟩:=g.wl;refine⟨g.mx.fo f,λa T=>?_,⟨f.b _ _ M.symm g.gm.ins,VL f.tk _ (Bd.ti _) g.gm.bd,g.gm.ok,g.gm.gr⟩,⟨G,f.b _ _ L.symm R,Z.1,λk z c a b=>(Z.2 k z c a b).fo f⟩,g.wb,g.fw,g.on⟩
 by_cases z:a=p
 .exact z ▸ f.x
 .obtain ⟨o,q⟩:=g.al a T
  exact⟨o,f.b a o z q⟩
def Lh(g:GG P w H CG A cs sts av)(L:H l=some (.lst N))(f:FrW A l H M):TK H M:=λa O h=>by
 obtain⟨G,J,Z⟩:=g.ne h (λ_ z=>by cases z) (λ_ z=>by cases z) λ_=>El.symm;exact f a _ G J Z (Yy h L (by intro z;cases z)) h
def RG.frw(g:RG P w U H C Q CG CO A M d S av O1 b1 l1 s)(I:RG P w U X C Q CG CO A M d S av O b l E)(N:H O.wl=some (.lst zs0))(ne:O1.wl≠O.wl)(f:FrW A O.wl H X)(h:s.1.length<=E.1.length):RG P w U X C Q CG CO A M d S av O1 b1 l1 E:=by
 obtain⟨j,R,F⟩:=g.wl;have Z:=Lh g.mx.gg N f;have L:=g.mx.gg.ne g.gm.ins (λ_ z=>by cases z) (λ_ z=>by cases z) λ_=>WH.symm
 have n:O1.wl≠A.nu/\O1.wl≠A.st:=by
  obtain⟨J,T,_⟩:=g.mx.gg.nu;obtain⟨M,e3,_⟩:=g.mx.gg.st;exact⟨Yy R T Ue.symm,Yy R e3 (by intro z;cases z)⟩
 refine⟨I.mx,I.al,⟨f _ _ L.1 L.2.1 L.2.2 (Yy g.gm.ins N (by intro z;cases z)) g.gm.ins,VL Z _ (Bd.ti _) g.gm.bd,g.gm.ok,g.gm.gr⟩,⟨j,f _ _ g.wb n.1 n.2 ne R,F.1,λk z c a b=>?_⟩,g.wb,g.fw,Zb g.on h⟩;obtain⟨t,bv,p,kn,e,u1,u2,i,⟨B,J,G,y,m⟩,o⟩:=F.2 k z c a b;obtain⟨xs,e1,_⟩:=g.mx.gg.bs;obtain⟨J2,T,_⟩:=g.mx.gg.nu;exact⟨t,bv,p,kn,e,Z _ _ u1,VL Z _ (Bd.ti _) u2,Z _ _ i,⟨B,J,f _ _ (Yy G e1 (by intro z;cases z)) (Yy G T Ws.symm) B (Yy G N (by intro z;cases z)) G,y,λx D q=>let⟨v,r,u⟩:=m x D q;⟨v,r,VL Z _ (Tg.ti D) u⟩⟩,o⟩
def Q2(h:∀p∈nK,WLs M H A B wc Os p.2)(k:List.map (·.1) nK=List.map (λp:Nat×Option Nat=>kK p.1) r)(m:x∈r.map (·.1)):∃v,VH nK (kK x)=some v/\WLs M H A B wc Os v:=by
 have:(nK.any λG=>decide<|G.1=kK x)=true:=by
  obtain⟨p,L,rfl⟩:=ZW.mp m;have:kK p.1∈List.map (·.1) nK:=by rw[k];exact ZW.mpr ⟨p,L,Y⟩
  obtain⟨y,Z,e⟩:=ZW.mp this;exact qr.mpr ⟨y,Z,decide_eq_true e⟩
 rw[Jt]at this;obtain⟨v,J⟩:=qj.mp this;exists v,J;unfold VH at J;obtain⟨y,Z,rfl⟩:=Zj.mp J;exact h y<|vt Z
section
variable{P:Program}{w:World}{bw:Bool}{C CK CG CO CW:Addr}
def WK.get(k:WK bw P w M H C CK CG CO CW A G d L B mo S Os)(h:O∈Os):∃e:UE,RG P w M H C CK CG CO A G d L (avW bw B) O e.b e.l S.s:=by
 obtain⟨i,J⟩:=vp.mp h;have Z:=(ZF.mp J).1;rw[k.ul]at Z;exact⟨_,(k.us i O _ J<|ZD Z).1⟩
def WK.usf(k:WK bw P w Z H C CK CG CO CW A M d N B mo S Os)(f:Fo Z H R A (avW bw B) l)(J:∀O∈Os,l≠O.t/\l≠O.wl):∀(i:Nat) O e,Os[i]?=some O->S.u[i]?=some e->RG P w Z R C CK CG CO A M d N (avW bw B) O e.b e.l S.s/\O.n=e.k/\O.F=e.F:=λi O e a b=>by
 obtain⟨r,q⟩:=k.us i O e a b;obtain⟨L,G⟩:=J O<|ZJ a;exact⟨r.fo f L G,q⟩
def WLs.fo(h:WLs G H A B wc Os v)(b:SameB l H L)(n:∀Z,H l≠some (.lst Z)):WLs G L A B wc Os v:=by
 obtain⟨a,Z,e,J,r⟩:=h;exact⟨a,Z,e,b _ _ (λz=>n Z<|z ▸ J) J,r⟩
def WK.foI(k:WK bw P w N H C CK CG CO CW A R d D B mo S Os)(h:H B.t=some (.ins CW B.dx<|V3 bw B mo bg))(b:SameB B.t H Z)(x:Z B.t=some o):Fo N H Z A (avW bw B) B.t:=by
 obtain⟨L,G,J⟩:=k.mx.gg.ne h (λ_ z=>by cases z) (λ_ z=>by cases z) λ_=>WH.symm;refine⟨b,⟨_,x⟩,k.wf.t,λz=>?_,L,G,J,λa O e=>b _ _ (Yy e h (by intro z;cases z)) e,λT ρ m M _=>?_⟩
 .exact (Yy h k.mx.gg.ins (λz=>by injection z with _ _ z;exact P2 z.symm)) z
 .obtain ⟨_,kvs,e,_⟩:=M
  exact Yy e h (by intro z;cases z)
def WK.foD(k:WK bw P w Z H C CK CG CO CW A D d I B mo S Os)(a:avW bw B l)(h:H l=some (.dK O))(m:Z l=none)(b:SameB l H J)(x:J l=some o):Fo Z H J A (avW bw B) l:=by
 obtain⟨T,N,_⟩:=k.mx.gg.bs;obtain⟨L,M,_⟩:=k.mx.gg.nu;exact⟨b,⟨_,x⟩,m,Yy h k.mx.gg.ins (by intro z;cases z),Yy h N (by intro z;cases z),Yy h M Ws.symm,λz=>k.n1<|z ▸ a,λa R e=>b _ _ (Yy e h (by intro z;cases z)) e,λF ρ m E G z=>G<|z ▸ a⟩
def WK.foL(k:WK bw P w Z H C CK CG CO CW A F d U B mo S Os)(h:H l=some (.lst D))(m:Z l=none)(G:l≠A.bs)(b:SameB l H J)(x:J l=some o):Fo Z H J A (avW bw B) l:=by
 obtain⟨N,T,_⟩:=k.mx.gg.nu;obtain⟨M,R,_⟩:=k.mx.gg.st;refine⟨b,⟨_,x⟩,m,Yy h k.mx.gg.ins (by intro z;cases z),G,Yy h T Ue.symm,Yy h R (by intro z;cases z),λa E e=>b _ _ (Yy e h (by intro z;cases z)) e,λI ρ m O _=>?_⟩;obtain⟨_,L,e,_⟩:=O;exact Yy e h (by intro z;cases z)
def WK.nD(k:WK bw P w M H C CK CG CO CW A G d L B mo S Os)(h:H l=some (.dK Z)):∀O∈Os,l≠O.t/\l≠O.wl:=λO m=>by
 obtain⟨e,r⟩:=k.get m;obtain⟨Z,J,_⟩:=r.wl;exact⟨Yy h r.gm.ins (by intro z;cases z),Yy h J (by intro z;cases z)⟩
def WK.bg(k:WK bw P w I H C CK CG CO CW A M d F B J S Os)(b:SameB B.t H G)(x:G B.t=some (.ins CW B.dx<|V3 bw B (J:Nat) (bg':Nat))):WK bw P w I G C CK CG CO CW A M d F B J {S with bg:=bg'} Os:=by
 obtain⟨L,N,Z,E,D,T⟩:=k.ws;have f:=k.foI Z.ins b x;refine⟨k.mx.fo f,k.gr,k.wf,k.n1,k.n2,k.l3,⟨L,N,Z.tb b x,E.tk f.tk,D,λp m=>(T p m).fo b (λX z=>by rw[Z.ins]at z;cases z)⟩,k.ul,k.usf f λO m=>?_,k.nd,k.nu⟩;obtain⟨e,r⟩:=k.get m;obtain⟨U,R,_⟩:=r.wl;exact⟨(Yy r.gm.ins Z.ins (λz=>by injection z with _ _ z;exact P1 z)).symm,Yy Z.ins R (by intro z;cases z)⟩
def WK.wr(k:WK true P w M H C CK CG CO CW A N d R B T S Os)(U:VH nK' (kK c)=none->True)(b:SameB B.wr H Z)(x:Z B.wr=some (.dK<|rK<|S.r++[(c,o)])):∃J G,TK H Z/\MX P w M Z C CK CG A N d R S.s.1 S.s.2 (avW true B)/\WS true Z CW B (T:Nat) (S.bg:Nat) (Os.map λO=>.ref O.t) (rK<|S.r++[(c,o)]) J G/\HdV Z G S.h/\J.map (·.1)=S.r.map (λp=>kK p.1)/\(∀p∈J,WLs M Z A B S.wc Os p.2)/\(∀(i:Nat) O e,Os[i]?=some O->S.u[i]?=some e->RG P w M Z C CK CG CO A N d R (avW true B) O e.b e.l S.s/\O.n=e.k/\O.F=e.F):=by
 obtain⟨J,G,L,F,E,D⟩:=k.ws;have f:=k.foD ⟨rfl,.inl rfl⟩ (L.wr rfl) (k.wf.wr rfl) b x;exact⟨J,G,f.tk,k.mx.fo f,L.rb k.wf b x,F.tk f.tk,E,λp m=>(D p m).fo b (λI z=>by rw[L.wr rfl]at z;cases z),k.usf f<|k.nD<|L.wr rfl⟩
def WK.wn(k:WK true P w N H C CK CG CO CW A j d g B mo S Os)(bR:SameB B.wr H T)(n:T B.wr=some (.dK<|rK<|S.r++[(c,o)]))(M:T l=none)(s:Same T R)(U:R l=some (.lst []))(b:SameB B.wn R H3)(nn:∀L:kY,R B.wn=some (.dK L)->H3 B.wn=some (.dK<|L++[(kK c,.ref l)])):WK true P w N H3 C CK CG CO CW A j d g B mo {S with r:=S.r++[(c,o)]} Os:=by
 obtain⟨L,hK,x,J,Q,h2,h3,h4,G⟩:=k.wr (nK':=[]) (λ_=>trivial) bR n;have k1:WK true P w N T C CK CG CO CW A j d g B mo {S with r:=S.r} Os->True:=λ_=>trivial;have Z:=Q.mono s;have X:=nn L<|Z.wn rfl;obtain⟨h,e1,_⟩:=(J.mono s).gg.bs;obtain⟨J2,e2,_⟩:=(J.mono s).gg.nu;have f:Fo N R H3 A (avW true B) B.wn:=⟨b,⟨_,X⟩,k.wf.wn rfl,Yy (Z.wn rfl) (J.mono s).gg.ins (by intro z;cases z),Yy (Z.wn rfl) e1 (by intro z;cases z),Yy (Z.wn rfl) e2 Ws.symm,λz=>k.n1<|z ▸ ⟨rfl,.inr<|.inl rfl⟩,λa ys e=>b _ _ (Yy e (Z.wn rfl) (by intro z;cases z)) e,λkn ρ m kr nk z=>nk<|z ▸ ⟨rfl,.inr<|.inl rfl⟩⟩;have D:H3 l=some (.lst []):=b _ _ (Yy U (Z.wn rfl) (by intro z;cases z)) U;have G1:=J.gg.bs;obtain⟨v,e3,_⟩:=J.gg.bs;have F:N l=none:=J.sm.free M;refine⟨(J.mono s).fo f,k.gr,k.wf,k.n1,k.n2,k.l3,⟨_,hK,Z.nb k.wf b X,(h2.tk s.tk0).tk f.tk,by rw[ZK,ZK,h3];rfl,λp m=>?_⟩,k.ul,λi O e a b'=>?_,k.nd,k.nu⟩
 .rcases ZX.mp m with m|m
  .exact ((h4 p m).mono s).fo b (λh z=>by rw[Z.wn rfl]at z;cases z)
  .rw [ZQ]at m
   subst m;refine⟨l,[],Y,D,Y,Zc _,(Yb Q.uw M).symm,(Yb e3 M).symm,F,λO m=>?_⟩;obtain⟨i,t⟩:=vp.mp m;have y:=(ZF.mp t).1;rw[k.ul]at y;obtain⟨u,I,_⟩:=(G i O _ t<|ZD y).1.wl;exact(Yb I M).symm
 .obtain ⟨r,q⟩:=G i O e a b'
  have E:=r.same s;obtain⟨u,I,_⟩:=E.wl;exact⟨E.fo f (Yy (Z.wn Y) E.gm.ins (by intro z;cases z)) (Yy (Z.wn Y) I (by intro z;cases z)),q⟩
def WK.wl(k:WK true P w J H C CK CG CO CW A I d c B mo S Os)(h:WLs J H A B S.wc Os (.ref l))(e:H l=some (.lst M))(b:SameB l H G)(x:G l=some (.lst<|M++[y]))(t:U4 y=true):WK true P w J G C CK CG CO CW A I d c B mo {S with wc:=S.wc+1} Os:=by
 obtain⟨F,U,q,j,Q,X⟩:=k.ws;obtain⟨o,L,g,Z,E,v,D,T,R,N⟩:=h;cases g;rw[e]at Z;cases Z;have f:=k.foL e R T b x;refine⟨k.mx.fo f,k.gr,k.wf,k.n1,k.n2,k.l3,⟨F,U,q.lb e D b,j.tk f.tk,Q,λp m=>?_⟩,k.ul,k.usf f λO m=>?_,k.nd,k.nu⟩
 .obtain ⟨a,ys,v1,v2,v3,v4,v5⟩:=X p m
  by_cases z:a=l
  .subst z
   rw[e]at v2;cases v2;exact⟨a,_,v1,x,by rw[List.all_append,E];simp[t],by rw[ZL,vc];exact vV v4,v5⟩
  .exact ⟨a,ys,v1,b _ _ z v2,v3,jg v4,v5⟩
 .obtain ⟨e2,r⟩:=k.get m
  exact⟨Yy e r.gm.ins (by intro z;cases z),N O m⟩
def WK.wc(k:WK true P w X H C CK CG CO CW A R d U B mo S Os):WK true P w X H C CK CG CO CW A R d U B mo {S with wc:=S.wc+1} Os:=by
 obtain⟨O,T,I,F,E,D⟩:=k.ws;exact⟨k.mx,k.gr,k.wf,k.n1,k.n2,k.l3,⟨O,T,I,F,E,λp m=>let⟨a,Z,N,M,L,G,J⟩:=D p m;⟨a,Z,N,M,L,jg G,J⟩⟩,k.ul,k.us,k.nd,k.nu⟩
def WK.hd(k:WK true P w F H C CK CG CO CW A O d E B mo S Os)(b:SameB B.hs H M)(R:Has H y (hdT t))(x:∀Z:kY,H B.hs=some (.dK Z)->HdV H Z S.h->M B.hs=some (.dK<|Z++[(kK c,y)])):WK true P w F M C CK CG CO CW A O d E B mo {S with h:=S.h++[(c,t)]} Os:=by
 obtain⟨N,Z,J,G,D,T⟩:=k.ws;have L:=x Z (J.hs rfl) G;have f:=k.foD ⟨rfl,.inr<|.inr rfl⟩ (J.hs rfl) (k.wf.hs rfl) b L;exact⟨k.mx.fo f,k.gr,k.wf,k.n1,k.n2,k.l3,⟨N,_,J.hb k.wf b L,⟨by rw[ZK,ZK,G.1];rfl,by rw[ZK,ZK];exact Z7 (Vt f.tk _ (EY _) G.2)<|Z5<|VL f.tk _ Mg R⟩,D,λp m=>(T p m).fo b (λI z=>by rw[J.hs rfl]at z;cases z)⟩,k.ul,k.usf f<|k.nD<|J.hs rfl,k.nd,k.nu⟩
def WK.push(k:WK bw P w U H C CK CG CO CW A F d I B mo S Os)(s:Same H X)(g:RG P w U X C CK CG CO A F d I (avW bw B) O bd l S.s)(E:H O.wl=none)(b:SameB B.uw X Q)(x:Q B.uw=some (.lst<|(Os.map λO=>.ref O.t)++[.ref O.t])):WK bw P w U Q C CK CG CO CW A F d I B mo {S with u:=S.u++[⟨O.n,O.F,bd,l⟩]} (Os++[O]):=by
 have M:=k.mono s;obtain⟨nK,hK,D,h2,h3,h4⟩:=M.ws;obtain⟨N,T,g1,g2,g3,n⟩:=k.ws;have f:=M.foL D.uw k.wf.uw k.n2.symm b x;have G:O.wl≠B.uw:=(Yb g1.uw E).symm
 have t:∀Z∈Os,Z.wl≠O.wl:=λZ m=>by
  obtain⟨e,r⟩:=k.get m;obtain⟨zs,h,_⟩:=r.wl;exact Yb h E
 refine⟨M.mx.fo f,k.gr,k.wf,k.n1,k.n2,k.l3,⟨N,T,?_,(g2.tk s.tk0).tk f.tk,g3,λp m=>?_⟩,by rw[ZL,ZL,k.ul];rfl,λi Z e a L=>?_,?_,λZ m=>?_⟩
 .rw [ZK]
  exact(g1.mono s).ub b x
 .obtain ⟨a,ys,v1,v2,v3,v4,v5,v6,v7,v8⟩:=n p m
  refine⟨a,ys,v1,b _ _ v5<|s _ _ v2,v3,v4,v5,v6,v7,λZ J=>?_⟩;rcases ZX.mp J with J|J
  .exact v8 Z J
  .rw [ZQ]at J;subst J;exact Yb v2 E
 .rcases jr i Os.length with q|q
  .rw [vd q]at a
   rw[vd (by rw[<-k.ul];exact q)]at L;have m:=ZJ a;obtain⟨r,y⟩:=M.us i Z e a L;exact⟨r.fo f (Yy D.uw r.gm.ins (by intro z;cases z)) (k.nu Z m).symm,y⟩
  .rw [vb q]at a
   rw[vb (by rw[<-k.ul];exact q),<-k.ul]at L
   cases e0:i-Os.length with
   |zero=>
    rw[e0]at a L;cases a;cases L;exact⟨g.fo f (Yy D.uw g.gm.ins (by intro z;cases z)) G.symm,Y,Y⟩
   |succ j=>rw[e0]at a;simp at a
 .rw [ZK,vX]
  refine⟨k.nd,by simp,λa o c v=>?_⟩;obtain⟨Z,m,rfl⟩:=ZW.mp o;have R:c=O.wl:=by simpa using v
  rw[R];exact t Z m
 .rcases ZX.mp m with m|m
  .exact k.nu Z m
  .rw [ZQ]at m;subst m;exact G
def WK.run(k:WK bw P w v H C CK CG CO CW A X d t B mo S (Os++[O]))(Q:S.u=u++[e])(f:FrW A O.wl H F)(g:RG P w v F C CK CG CO A X d t (avW bw B) O e.b l' I)(le:S.s.1.length<=I.1.length):WK bw P w v F C CK CG CO CW A X d t B mo {S with u:=u++[{e with l:=l'}],s:=I} (Os++[O]):=by
 obtain⟨nK,hK,J,h2,h3,h4⟩:=k.ws;have b:=k.ul;rw[Q,ZL,ZL,vc,vc]at b;have Z:Os.length=u.length:=by lia
 have N:=k.us;rw[Q]at N;obtain⟨n,q1,x⟩:=N Os.length O e (by rw[vb (ZG _),vk];rfl) (by rw[Z,vb<|ZG _,vk];rfl);obtain⟨M,L,_⟩:=n.wl;have o:=Lh k.mx.gg L f;obtain⟨xs,e1,_⟩:=k.mx.gg.bs;obtain⟨G1,E,_⟩:=k.mx.gg.nu;obtain⟨J2,y,_⟩:=k.mx.gg.st;have T:O.wl≠B.uw:=k.nu O<|ZU _<|ZQ.mpr rfl;have D:∀{a M},avW bw B a->H a=some (.dK M)->F a=some (.dK M):=λha h=>f _ _ (Yy h e1 (by intro z;cases z)) (Yy h E Ws.symm) (λz=>k.n1<|z ▸ ha) (Yy h L (by intro z;cases z)) h;have R:=k.mx.gg.ne J.ins (λ_ z=>by cases z) (λ_ z=>by cases z) λ_=>WH.symm;have U:=k.nd;rw[ZK,vX]at U;refine⟨g.mx,k.gr,k.wf,k.n1,k.n2,k.l3,⟨nK,hK,⟨f _ _ R.1 R.2.1 R.2.2 (Yy J.ins L (by intro z;cases z)) J.ins,f _ _ k.n2.symm (Yy J.uw E Ue.symm) (Yy J.uw y (by intro z;cases z)) T.symm J.uw,λz=>D ⟨z,.inl Y⟩<|J.wr z,λz=>D ⟨z,.inr<|.inl rfl⟩<|J.wn z,λz=>D ⟨z,.inr<|.inr rfl⟩<|J.hs z⟩,h2.tk o,h3,λp m=>?_⟩,by rw[ZL,ZL,Z];rfl,λi c e' a G=>?_,k.nd,k.nu⟩
 .obtain ⟨a,ys,v1,v2,v3,v4,v5,v6,v7,v8⟩:=h4 p m
  exact⟨a,ys,v1,f _ _ v6 (Yy v2 E Ue.symm) (Yy v2 y (by intro z;cases z)) (v8 O<|ZU _<|ZQ.mpr rfl) v2,v3,v4,v5,v6,v7,v8⟩
 .rcases jr i Os.length with q|q
  .have a':=a
   rw[vd q]at a';rw[vd (by rw[<-Z];exact q)]at G;obtain⟨r,q'⟩:=N i c e' a (by rw[vd (by rw[<-Z];exact q)];exact G);exact⟨r.frw g L (U.2.2 _ (ZW.mpr ⟨c,ZJ a',Y⟩) _<|by simp) f le,q'⟩
  .rw [vb q]at a
   rw[vb (by rw[<-Z];exact q),<-Z]at G
   cases e0:i-Os.length with
   |zero=>
    rw[e0]at a G;cases a;cases G;exact⟨g,q1,x⟩
   |succ j=>rw[e0]at a;simp at a
def WK.pop(k:WK bw P w y H C CK CG CO CW A D d Q B mo S (Os++[O]))(L:S.u=u++[e])(b:SameB B.uw H M)(x:M B.uw=some (.lst<|Os.map λO=>.ref O.t)):WK bw P w y M C CK CG CO CW A D d Q B mo {S with u:=u} Os:=by
 obtain⟨T,E,J,U,I,F⟩:=k.ws;have N:=k.ul;rw[L,ZL,ZL,vc,vc]at N;have f:=k.foL J.uw k.wf.uw k.n2.symm b x;have G:=k.nd;rw[ZK,vX]at G;refine⟨k.mx.fo f,k.gr,k.wf,k.n1,k.n2,k.l3,⟨T,E,J.ub b x,U.tk f.tk,I,λp m=>?_⟩,by lia,λi Z X a j=>?_,G.1,λZ m=>k.nu Z<|vm _ m⟩
 .obtain ⟨a,ys,v1,v2,v3,v4,v5,v6,v7,v8⟩:=F p m
  exact⟨a,ys,v1,b _ _ v5 v2,v3,v4,v5,v6,v7,λZ m=>v8 Z<|vm _ m⟩
 .have il:=(ZF.mp a).1
  have m:=vm [O]<|ZJ a;obtain⟨r,R⟩:=k.us i Z X (by rw[vd il];exact a) (by rw[L,vd (by lia)];exact j);exact⟨r.fo f (Yy J.uw r.gm.ins (by intro z;cases z)) (k.nu Z m).symm,R⟩
end
def bD(cs:List Mk1)(n:Nat):Dat:=(Vi cs).getD n<|.tup []
def itd{Z:kY}(h:H d=some (.frz o<|.dK Z)):Itx (Itd d o Z) H (Z.map λJ=>kV J.1):=⟨λi G=>⟨h,by rw[ZA]at G;exact G⟩,⟨h,by rw[ZA]⟩,λi x M y=>by
 obtain⟨e,J,L,rfl⟩:=y;exact⟨e,by rw[ZH,L];rfl⟩⟩
def O8(K:W.Frag)(Z:PE X e ta)(J:attributeBase e f X.env (eval e X.env)=eval e X.env)(G:X.K=K:=by rfl):PE X (.Attribute e f pos) (CM K ta f):=by
 subst G;exact Yt Z J
end L2
namespace K4
open PySem L2
section
variable{C CK CG CO CW CD:Addr}
abbrev sn:kQ:=["self","number"]
def QO(A:WA):(V3 bw A mo bg).lookup ("ground":Str)=some (V.ref A.gr):=rfl
def QN(A:WA):(V3 bw A mo bg).lookup ("most":Str)=some (V.int mo):=rfl
def Dy(A:WA):(V3 bw A mo bg).lookup ("begun":Str)=some (V.int bg):=rfl
def Gf(A:WA):(V3 bw A mo bg).lookup ("under_way":Str)=some (V.ref A.uw):=rfl
def Fp(A:WA):(V3 true A mo bg).lookup ("wanters":Str)=some (V.ref A.wr):=rfl
def Fq(A:WA):(V3 true A mo bg).lookup ("wants":Str)=some (V.ref A.wn):=rfl
def Dx(A:WA):(V3 true A mo bg).lookup ("heads":Str)=some (V.ref A.hs):=rfl
def Q4(A:WA):(V3 bw A mo bg).lookup ("going_of":Str)=none:=by cases bw <;> rfl
def QP(A:WA):(V3 bw A mo bg).lookup ("go_into":Str)=none:=by cases bw <;> rfl
def QQ(A:WA):(V3 true A mo bg).lookup ("birth_of":Str)=none:=rfl
def Q3(A:WA):(V3 bw A mo bg).length<1000:=by unfold V3;cases bw <;> simp
def AX(A:OM):(Ji A).lookup ("begin":Str)=none:=rfl
def CY:Yh sn sn (Yd WM):=Y2
def CZ:Yh sn sn (Yd Gb):=Y2
def Sd:Yh ["self","number","head"] ["self","number","head"] (Yd Q7):=Y2
def Cb:Yh sn sn (Yd Gg):=Y2
inductive OE(P:Program)(w:World)(CG CW:Addr)(H:Hp)(Q:VK):List V->Prop
 |num (A:GA) (B:WA) (mo bg:Int) (cs:List Mk1) (sts:Nat->Option Sta) (av:Addr->Prop) (k:Nat) (ins:H B.t=some (.ins CW B.dx (V3 true B mo bg))) (gr:B.gr=A.t) (gg:GG P w H CG A cs sts av) (hk:k<=cs.length) (q:∀v,Has H v (bD cs k)->Q v H):OE P w CG CW H Q [.ref B.t,.int (k:Nat)]
 |non (B:WA) (q:Q .non H):OE P w CG CW H Q [.ref B.t,.non]
def BG(P:Program)(w:World)(CG CW:Addr):Sp:=λZ H Q _=>OE P w CG CW H Q Z
def Pb(M:WCl K CW)(TG:GCl K CG)(F:Fun K "birth_of" "Walk.birth_of" Gg f S):Ye P w K m base CX0 (n+1) f S sn (BG P w CG CW):=by
 refine F.oi Cb (len:=λO H Q E h=>by cases h <;> rfl) λj A Z s H O Q E g h=>?_;refine⟨_,YY (Y3 (Yp Wh (pv 1) Vx<|Yx _) (YZ<|Yi<|Vx) Yo)
  (YZ<|Yi<|Yk Y8 (Yt (Yt (pv 0) rfl) rfl) (pv 1) λ_ _=>rfl),?_⟩
 dsimp only[Vf,Cx.nox,Cx.wish];show let z:=_;let y:=_;Yl (VF _ y _) z _ _ _
 intros
 rcases h with⟨r,B,t,u,d,R,v,k,ins,I,L,p,q⟩|⟨B,q⟩
 .refine ⟨rfl,_,rfl,Y0 (by simp) ?_⟩
  exists CW,_,_,_,ins,M.cl,M.gr,QO _;rw[I];obtain⟨N,D,G⟩:=L.bs;have T:=G.length;rw[Ul]at T;have J:k<N.length:=by lia
  obtain⟨c,X,U⟩:=G.get<|ZD J;refine⟨CG,_,_,_,L.ins,TG.cl,TG.bs,Mo _,_,_,Z3 D,VE<|ZD J,q _ ?_⟩;unfold bD;rw[ve,X];exact U
 .exact ⟨rfl,_,rfl,VG (by decide +kernel) q⟩
inductive Qw(bw:Bool)(P:Program)(w:World)(C CK CG CO CW:Addr)(H:Hp)(Q:VK):List V->Prop
 |mk (Hm:Hp) (A:GA) (ks:List (Str×Shp)) (d:Str->Nat) (ds:List Dd) (B:WA) (mo:Nat) (S:WSt) (Os:List OM) (k:Nat) (sta:Sta) (df:Dd) (wk:WK bw P w Hm H C CK CG CO CW A ks d ds B mo S Os) (hs:S.s.2 k=some sta) (hd:df∈ds) (ef:df.1.1=sta.f) (ok:df.2.ok) (hk:k<=S.s.1.length)
  (q:∀(O:OM) H',O.n=k->O.F=sta.f->Same H H'->H O.wl=none->RG P w Hm H' C CK CG CO A ks d ds (avW bw B) O df.2 [] S.s->H' O.pl=some (.tup (sta.pl.map V.int))->KnR A H' O.kn sta.ρ (3+sta.pl.length)->¬avW bw B O.kn->Q (.ref O.t) H'):Qw bw P w C CK CG CO CW H Q [.ref B.t,.int (k:Nat)]
def Ru(bw:Bool)(P:Program)(w:World)(C CK CG CO CW:Addr):Sp:=λZ H Q _=>Qw bw P w C CK CG CO CW H Q Z
def EH(I:DCl K CW)(F:Fun K "going_of" "Doing.going_of" WM f a)(m:T "Going"=some (.ref CO))(MO:Mk K CO g)(GI:Ye P w K T base CX0 n g i ["self","ground","number"] (IP P w C CK CG CO))(bI:Binds K i ["self","ground","number"] []):Ye P w K T base CX0 (n+2) f a sn (Ru bw P w C CK CG CO CW):=by
 refine F.oi CY λJ2 A L s H vs Q E v h=>?_;obtain⟨Hm,A',p,d,ds,B,mo,S,Os,k,G,df,J,u,hd,ef,z,l,q⟩:=h;exists _,YZ<|Yi<|Uc MO GI v rfl m bI .nil Y4 (pa2 (Yt (pv 0) rfl)<|pv 1);dsimp only[Vf,Cx.nox,Cx.wish];obtain⟨nK,hK,U,_⟩:=J.ws;refine⟨CW,_,_,_,U.ins,I.cl,I.gr,QO _,λx Z D M r=>?_⟩;have R:Same H (upd (upd H Z<|.own x) x<|.ins CO Z []):=λb o e=>by rw[Yg (Yb e D),Yg (Yb e M)];exact e
 have N:upd (upd H Z<|.own x) x (.ins CO Z []) x=some (.ins CO Z []):=Yf;generalize upd (upd H Z<|.own x) x (.ins CO Z [])=H7 at N R |-;rw[J.gr];refine⟨Hm,H,x,Z,A',p,d,ds,avW bw B,S.s,k,G,df,D,R,N,J.mx,J.al,u,hd,ef,z,l,λO H' e1 e2 e3 X f1 j y c t=>⟨Y,?_⟩⟩;rw[<-e1];exact q O H' e2 e3 X f1 j y c t
inductive OB(bw:Bool)(P:Program)(w:World)(C CK CG CO CW:Addr)(n:Nat)(H:Hp)(Q:VK):List V->Prop
 |go (Hm:Hp) (A:GA) (ks:List (Str×Shp)) (d:Str->Nat) (ds:List Dd) (B:WA) (mo:Nat) (S:WSt) (Os:List OM) (k:Nat) (sta:Sta) (df:Dd) (m:Nat) (r:Stp) (l':List WEn) (s':Ss) (wk:WK bw P w Hm H C CK CG CO CW A ks d ds B mo S Os) (hs:S.s.2 k=some sta) (hd:df∈ds) (ef:df.1.1=sta.f) (ok:df.2.ok) (hk:k<=S.s.1.length) (lt:S.bg<mo) (lu:S.u.length<=9000) (gs:Gos ds A.gs sta.f df.2 k n m (.body sta.pl sta.ρ) [] S.s r l' s') (ls:S.s.1.length<=s'.1.length)
  (q:∀v O H',WK bw P w Hm H' C CK CG CO CW A ks d ds B mo {S with u:=S.u++[⟨k,sta.f,df.2,l'⟩],bg:=S.bg+1,s:=s'} (Os++[O])->r.on A (avW bw B) H' v->Q v H'):OB bw P w C CK CG CO CW n H Q [.ref B.t,.int (k:Nat)]
 |dry (Hm:Hp) (A:GA) (ks:List (Str×Shp)) (d:Str->Nat) (ds:List Dd) (B:WA) (S:WSt) (Os:List OM) (k:Nat) (wk:WK bw P w Hm H C CK CG CO CW A ks d ds B S.bg S Os) (q:∀t H',Same H H'->H' t=some (.tup [.str "dry"])->Q (.ref t) H'):OB bw P w C CK CG CO CW n H Q [.ref B.t,.int (k:Nat)]
def Gp(bw:Bool)(P:Program)(w:World)(C CK CG CO CW:Addr)(n:Nat):Sp:=λZ H Q _=>OB bw P w C CK CG CO CW n H Q Z
def EI(Z:DCl K CW)(TO:OCl K CO)(F:Fun K "go_into" "Doing.go_into" Gb f fd)(m1:VJ K CW "going_of" g1)(G1:Ye P w K o base CX0 L g1 d1 sn (Ru bw P w C CK CG CO CW))(g:Binds K d1 sn [])(m2:VJ K CO "begin" g2)(G2:Ye P w K o base CX0 L g2 d2 ["self"] (BH P w C CK CG CO n))(b2:Binds K d2 ["self"] []):Ye P w K o base CX0 (L+1) f fd sn (Gp bw P w C CK CG CO CW n):=by
 refine F.oi CZ (len:=λvs H Q E h=>by cases h <;> rfl) λR0 A X s H vs Q E i h=>?_;refine⟨_,YY (Y3 (Yp VX (Yt (pv 0) Y) (Yt (pv 0) Y)<|Yx _) (YZ<|Yi<|Yj<|pa1<|Yr) Yo)
  (YY (E8 (pv 0) Ya Ag)
  (YY (VZ<|Uy Zz Z0 Z1 JM (Yt (pv 0) rfl)<|pa1<|Y6 (pv 0) Z.cl m1 G1 i g .nil Y4<|pa1<|pv 1)
  (YZ<|Yi<|Vp (Yk Y8 (Yt (pv 0) rfl)<|G9 Xa Ya) TO.cl m2 G2 i b2 .nil Y4))),?_⟩
 dsimp only[Vf,Cx.nox,Cx.wish];show let T0:=_;let T1:=Yl _ T0;let T2:=Yl _ T1;let T3:=_;Yl (VF _ T3 _) T2 _ _ _
 intros
 rcases h with⟨c,l,j,d,y,B,mo,S,p,k,R,I,m,r,l',s',T,hs,hd,ef,ok,hk,lt,lu,gs,ls,q⟩|⟨c,l,j,d,y,B,S,p,k,T,q⟩
 .obtain ⟨nK,hK,ws,_⟩:=id T.ws
  refine⟨CW,_,_,_,ws.ins,Z.cl,Z.bg,Dy _,CW,_,_,_,ws.ins,Z.cl,Z.mo,QN _,Y,_,Y,Y0 (by simp;lia) ?_⟩;exists _,_,_,_,_,Y,ws.ins,Z.cl,Z.bg,Dy _,_,1,Y,Y,_,_,ws.ins,Q3 _;refine fld_in B.t _ λH1 g x1=>?_;have N:=T.bg (bg':=S.bg+1) g x1;obtain⟨G3,O1,J,_⟩:=id N.ws;refine⟨CW,_,_,_,J.ins,Z.cl,Z.uw,Gf _,.inl ⟨Y,_,Z3 J.uw⟩,_,_,J.ins,Q4 _,c,l,j,d,y,B,mo,_,p,k,R,I,N,hs,hd,ef,ok,hk,λO H2 x a b f2 r2 p2 k2 n2=>?_⟩;have G:=J.mono b;have lo:=T.ul;refine⟨B.uw,_,_,Y,Y,G.uw,JH (by rw[ZA];lia),?_⟩;refine fld_in B.uw _ λH3 z x3=>?_;have M:=N.push b r2 f2 z x3;obtain⟨J2,M2,D,_⟩:=id M.ws;have eu:S.u++[⟨O.n,O.F,I.2,[]⟩]=S.u++[(⟨O.n,O.F,I.2,[]⟩:UE)]:=rfl;obtain⟨e,_⟩:=M.us p.length O ⟨O.n,O.F,I.2,[]⟩ (by rw[vb (ZG _),vk];rfl) (by show(S.u++ _)[_]?=_;rw[lo,vb<|ZG _,vk];rfl);have U:=Jx z G.uw;exists CW,_,_,_,D.ins,Z.cl,Z.uw,Gf _,1,Y,_,V.ref O.t,Z3 D.uw,by rw[ZK];exact U8 _ _,_,_,e.gm.ins,AX _;refine⟨c,l,j,d,y,avW bw B,O,I.2,R.pl,R.ρ,S.s,m,r,l',s',e,U _ _ p2,k2.lb G.uw z,n2,by rw[x,a];exact gs,T.l3,λv H4 f4 r4 hv=>?_⟩;refine q v O H4 ?_ hv;have:=M.run (u:=S.u) rfl f4 r4 ls;rw[x,a]at this;exact this
 .obtain ⟨nK,hK,ws,_⟩:=id T.ws
  refine⟨CW,_,_,_,ws.ins,Z.cl,Z.bg,Dy _,CW,_,_,_,ws.ins,Z.cl,Z.mo,QN _,Y,_,Y,VG (by simp) ⟨sl 1,λt ht=>?_⟩⟩;refine up_in ht _ λH1 s1 g1=>q t H1 s1 g1
def upH(bw:Bool)(k:Nat)(t:Str)(S:WSt):WSt:=if bw=true then{S with h:=S.h++[(k,t)]}else S
inductive OA(bw:Bool)(P:Program)(w:World)(C CK CG CO CW:Addr)(H:Hp)(Q:VK):List V->Prop
 |mk (Hm:Hp) (A:GA) (ks:List (Str×Shp)) (d:Str->Nat) (ds:List Dd) (B:WA) (mo:Nat) (S:WSt) (Os:List OM) (k:Nat) (y:V) (t:Str) (wk:WK bw P w Hm H C CK CG CO CW A ks d ds B mo S Os) (hy:Has H y (hdT t)) (nk:bw=true->k∉S.h.map (·.1)/\S.h.length<=900)
  (q:∀H',TK H H'->WK bw P w Hm H' C CK CG CO CW A ks d ds B mo (upH bw k t S) Os->Q .non H'):OA bw P w C CK CG CO CW H Q [.ref B.t,.int (k:Nat),y]
def Xq(bw:Bool)(P:Program)(w:World)(C CK CG CO CW:Addr):Sp:=λZ H Q _=>OA bw P w C CK CG CO CW H Q Z
def Jf{Z:kY}{J:List Nat}(h:Z.map (·.1)=J.map kK)(n:k∉J):VH Z (kK k)=none/\putK Z (kK k) v=Z++[(kK k,v)]:=by
 have a:(Z.any λL=>decide<|L.1=kK k)=false:=by
  rw[qZ];intro p M z;have:p.1∈Z.map (·.1):=jK M;rw[h]at this;obtain⟨j,G,e⟩:=ZW.mp this;have N:kK j=kK k:=e.trans<|Zt z;have:(j:Int)=k:=Sum.inl.inj N;rw[show j=k by lia]at G;exact n G
 refine⟨?_,by unfold putK;rw[a];rfl⟩;rw[Jt]at a
 cases e:VH Z (kK k)with
 |none=>rfl
 |some _=>rw[e]at a;cases a
def Kf(R:WCl K CW)(F:Fun K "end" "Walk.end" Q7 f g):Ye P w K b base CX0 (n+1) f g ["self","number","head"] (Xq true P w C CK CG CO CW):=by
 refine F.oi Sd λp A J s H v Q E U h=>?_;obtain⟨Hm,A',i,d,ds,B,l,S,Os,k,y,t,M,D,G,q⟩:=h;obtain⟨G,o⟩:=G rfl;have I:=JQ U;exists _,YZ<|V5 I (Yt (pv 0) rfl) (pv 1) (pv 2) rfl;dsimp only[Vf,Cx.nox,Cx.wish];obtain⟨r,m,Z,N,_⟩:=id M.ws;have L:m.map (·.1)=(S.h.map (·.1)).map kK:=by rw[N.1,vi];rfl
 have X:=congrArg List.length N.1;rw[ZA,ZA]at X;refine⟨CW,_,_,_,Z.ins,R.cl,R.hs,Dx _,_,Uq.k (k:=kK k) (Z.hs Y)<|Y1<|by lia,?_⟩;refine fld_in B.hs _ λc O T=>?_;refine q c (λa u e=>O _ _ (Yy e (Z.hs Y) (by intro z;cases z)) e)<|M.hd (y:=y) (t:=t) O D λj e x=>?_;rw[Z.hs rfl]at e;cases e;rw[T,(Jf L G).2]
def Sm:Yh ["self","number","head"] ["self","number","head"] (Yd Av):=Y2
def Pa(F:Fun K "end" "Doing.end" Av f G):Ye P w K R base CX0 (n+1) f G ["self","number","head"] (Xq false P w C CK CG CO CW):=by
 refine F.oi Sm λL A Z s H M Q E I h=>?_;obtain⟨j,z,T,d,U,B,O,S,X,k,y,t,J,D,N,q⟩:=h;exists _,YZ<|Oz;exact q H (λ_ _ e=>e) J
end
end K4
namespace L2
open PySem
def Vb(u:List UE):Option Nat:=u.getLast?.map (·.k)
def upW(bw:Bool)(k:Nat)(S:WSt):WSt:=if bw=true then{S with r:=S.r++[(k,Vb S.u)],wc:=S.wc+1}else S
inductive WD(bw:Bool)(ds:List Dd)(gs:List Str)(mo n k:Nat)(S:WSt)(Dr:WSt->Prop)(Go:WSt->Stp->Prop):Prop
 |dry (e:S.bg=mo) (q:Dr (upW bw k S))
 |go (sta:Sta) (df:Dd) (j:Nat) (r:Stp) (l':List WEn) (s':Ss) (hs:S.s.2 k=some sta) (hd:df∈ds) (ef:df.1.1=sta.f) (ok:df.2.ok) (hk:k<=S.s.1.length) (lt:S.bg<mo) (gs:Gos ds gs sta.f df.2 k n j (.body sta.pl sta.ρ) [] S.s r l' s') (ls:S.s.1.length<=s'.1.length)
   (q:Go {upW bw k S with u:=S.u++[⟨k,sta.f,df.2,l'⟩],bg:=S.bg+1,s:=s'} r)
inductive WC(bw:Bool)(ds:List Dd)(gs:List Str)(mo n k:Nat)(S:WSt)(Tk:Str->Prop)(Dr:WSt->Prop)(Go:WSt->Stp->Prop):Prop
 |tkn (hb:bw=true) (t:Str) (h:S.h.lookup k=some t) (q:Tk t)
 |new (m:bw=true->k∉S.h.map (·.1)/\k∉S.r.map (·.1)) (d:WD bw ds gs mo n k S Dr Go)
def WC.mono{N Z:Str->Prop}{R G:WSt->Prop}{O J:WSt->Stp->Prop}(c:WC bw y M mo n k S N R O)(P:∀t,N t->Z t)(X:∀s,R s->G s)(C:∀s r,O s r->J s r):WC bw y M mo n k S Z G J:=by
 cases c with
 |tkn U t h q=>exact .tkn U t h<|P _ q
 |new m d=>
  refine .new m ?_
  cases d with
  |dry e q=>exact .dry e<|X _ q
  |go L z j r F T A hd Q B I D M E q=>exact .go L z j r F T A hd Q B I D M E<|C _ _ q
theorem LP{H:Hp}:∀{G:kY}{h:List (Nat×Str)}{k:Nat}{t:Str},HdV H G h->h.lookup k=some t->∃v,VH G (kK k)=some v/\Has H v (hdT t)
 |[],[],k,t,_,e=>by simp at e
 |[],_::_,k,t,h,e=>by have:=h.1;simp at this
 |_::_,[],k,t,h,e=>by have:=h.1;simp at this
 |(k1,v1)::G,(L,t2)::h,k,t,hv,e=>by
  obtain⟨M,J⟩:=hv;rw[ZV,ZV]at M J;have Z:=List.cons.inj M;unfold HasL at J;rw[vv]at e
  by_cases z:k=L
  .subst z
   rw[beq_self_eq_true]at e;cases e;exact⟨v1,Vn Z.1,J.1⟩
  .rw [beq_eq_false_iff_ne.mpr z]at e
   obtain⟨v,O,N⟩:=LP ⟨Z.2,J.2⟩ e;refine⟨v,(Vo λq=>z ?_).trans O,N⟩;have:(L:Int)=k:=Sum.inl.inj<|Z.1.symm.trans q;lia
def WK.insB(k:WK bw P w L H C M CG CO CW A J d G B Z S Os):H B.t=some (.ins CW B.dx<|V3 bw B (Z:Nat) (S.bg:Nat)):=let⟨_,_,h,_⟩:=k.ws;h.ins
def Ow(r:List (Nat×Option Nat)):(rK r).map (·.1)=(r.map (·.1)).map kK:=by unfold rK;rw[vi,vi];rfl
def DF{c A B:Prop}[Decidable c](J:c->A)(Z:¬c->B):if c then A else B:=by
 by_cases h:c
 .rw [Zp h];exact J h
 .rw [Zq h];exact Z h
def Sx:(rK r).length=r.length:=by unfold rK;rw[ZA]
def B7(h:S.u=u++[e]):Vb (S:WSt).u=some e.k:=by unfold Vb;rw[h,List.getLast?_concat];rfl
end L2
namespace K4
open PySem L2
section
variable{C CK CG CO CW CD:Addr}
def BL:Yh ["self","number","wanter"] sn (Yd Fs):=Y2
inductive L9(bw:Bool)(P:Program)(w:World)(C CK CG CO CW:Addr)(n:Nat)(H:Hp)(Q:VK):List V->Prop
 |mk (Hm:Hp) (A:GA) (ks:List (Str×Shp)) (d:Str->Nat) (ds:List Dd) (B:WA) (mo:Nat) (S:WSt) (Os:List OM) (k:Nat) (wk:WK bw P w Hm H C CK CG CO CW A ks d ds B mo S Os) (hw:bw=true->(∀e∈S.u,e.k∈S.r.map (·.1))/\S.r.length<=900/\S.wc<=9000) (lu:S.u.length<=9000)
  (c:WC bw ds A.gs mo n k S (λt=>∀v y H',WK bw P w Hm H' C CK CG CO CW A ks d ds B mo {S with wc:=S.wc+1} Os->H' v=some (.tup [.str "taken",y])->Has H' y (hdT t)->Q (.ref v) H')
   (λS'=>∀t H',WK bw P w Hm H' C CK CG CO CW A ks d ds B mo S' Os->H' t=some (.tup [.str "dry"])->Q (.ref t) H')
   (λS' r=>∀v O H',WK bw P w Hm H' C CK CG CO CW A ks d ds B mo S' (Os++[O])->r.on A (avW bw B) H' v->Q v H')):L9 bw P w C CK CG CO CW n H Q [.ref B.t,.int (k:Nat)]
def Xp(bw:Bool)(P:Program)(w:World)(C CK CG CO CW:Addr)(n:Nat):Sp:=λZ H Q _=>L9 bw P w C CK CG CO CW n H Q Z
def Kg(B':Blt mg)(J:WCl K CW)(TO:OCl K CO)(F:Fun K "want" "Walk.want" Fs f fd)(m:VJ K CW "go_into" g)(G:Ye P w K mg base CX0 L g gd sn (Gp true P w C CK CG CO CW n))(bG:Binds K gd sn []):Ye P w K mg base CX0 (L+1) f fd sn (Xp true P w C CK CG CO CW n):=by
 refine F.oi BL λR5 A G3 s H vs Q E hr h=>?_;obtain⟨Hm,A',ks,d',ds,B,mo,S,i,k,p,hw,lu,c⟩:=h;obtain⟨hw,lr,lw⟩:=hw rfl;have I:=JQ hr;refine⟨_,YY (Yz 2 BL.nd<|Vx)
  (YY (Y3 (Yp RD (Y9 Yw rfl B'.len Zu (pa1<|Yt (pv 0) rfl)) Ya<|Yx _) (YY (Yz 2 BL.nd<|Yt (Yk Y8 (Yt (pv 0) rfl)<|G9 Xa Ya) rfl)
  (YZ<|Y3 (Yp Jg (pv 1) (JX I (Yt (pv 0) rfl) (pv 2) λ_ _=>rfl) rfl) (YZ<|VZ<|Uy Zz Z0 Z1 JM (JX I (Yt (pv 0) rfl) (pv 2) λ_ _=>rfl)<|pa1<|pv 1) Yo)) Yo)
  (YY (Y3 (Ub<|Xh I (pv 1)<|Yt (pv 0) rfl) (YZ<|Yi<|Yj<|pa2 (Yr)<|JX I (Yt (pv 0) rfl) (pv 1) λ_ _=>rfl) Yo)
  (YY (Y3 (Ub<|Xh I (pv 1)<|Yt (pv 0) rfl) (YZ<|JT) Yo)
  (YY (V5 I (Yt (pv 0) rfl) (pv 1) (pv 2) rfl)
  (YY (V5 I (Yt (pv 0) rfl) (pv 1) (JJ Vq) rfl)
  (YZ<|Yi<|Y6 (pv 0) J.cl m G hr bG .nil Y4<|pa1<|pv 1)))))),?_⟩
 dsimp only[Vf,Cx.nox,Cx.wish];show let T0:=_;let T1:=Yl _ T0;let T2:=Yl _ T1;let T3:=_;let T4:=Yl (VF _ T3 _) T2;let T5:=_;let T6:=Yl (VF _ T5 _) T4;let T7:=_;let T8:=VF _ T7 _;let T9:=Yl _ T8;let R1:=Yl (VF _ T9 _) T6;Yl _ R1 _ _ _
 intros
 have lo:=p.ul;refine L7 ?_;refine Jb (λU H'=>∃H1,U=[some (.ref B.t),some<|.int (k:Nat),some (oV<|Vb S.u)]/\WK true P w Hm H' C CK CG CO CW A' ks d' ds B mo {S with wc:=S.wc+1} i/\H1=H') ?_ ?_
 .rintro U H1 ⟨_,rfl,wk1,-⟩
  obtain⟨nK,hK,Z,h2,h3,h4⟩:=id wk1.ws;have R0:hK.map (·.1)=(S.h.map (·.1)).map kK:=by rw[h2.1,vi];rfl
  exists CW,_,_,_,Z.ins,J.cl,J.hs,Dx _,_,JG.k (k:=kK k)<|Z.hs rfl,_,rfl;have vh:k∉S.h.map (·.1)->VH hK (kK k)=none:=λnh=>(Jf (v:=.non) R0 nh).1
  cases c with
  |tkn hb t e q=>
   obtain⟨y,e1,e2⟩:=LP h2 e;refine VG (by rw[e1];rfl) ?_;have b:=JG.k (k:=kK k)<|Z.hs rfl;rw[e1]at b;refine⟨CW,_,_,_,Z.ins,J.cl,J.hs,Dx _,_,b,sl 2,λv hv=>?_⟩;exact up_in hv _ λH3 u g3=>q v y H3 (wk1.mono u) g3<|e2.mono u
  |new m d=>
   obtain⟨nh,m⟩:=m rfl;refine Y0 (by rw[vh nh];decide) ?_;exists CW,_,_,_,Z.ins,J.cl,J.wr,Fp _,_,JG.k (k:=kK k)<|Z.wr rfl,_,rfl;obtain⟨vr,pr⟩:=Jf (v:=oV<|Vb S.u) (Ow S.r) m;refine Y0 (by rw[vr];decide) ?_;refine⟨CW,_,_,_,Z.ins,J.cl,J.wr,Fp _,_,Uq.k (k:=kK k) (Z.wr Y)<|Y1 (by rw[Sx];exact Zb lr<|by decide),?_⟩;rw[pr];refine fld_in B.wr _ λH2 b2 x2=>⟨sl 0,λl x=>?_⟩;refine up_in x _ λH3 u g3=>?_;have M2:=u _ _<|b2 _ _ (Yy Z.ins (Z.wr rfl) (by intro z;cases z)) Z.ins;have a:=u _ _<|b2 _ _ (wk1.wf.d1 rfl).symm<|Z.wn rfl;have e3:rK (S.r++[(k,Vb S.u)])=rK S.r++[(kK k,oV<|Vb S.u)]:=by unfold rK;rw[ZK];rfl
   have X:=congrArg List.length h3;rw[ZA,ZA]at X;refine⟨CW,_,_,_,M2,J.cl,J.wn,Fq _,_,Uq.k (k:=kK k) a<|Y1 (by rw[X];exact Zb lr<|by decide),?_⟩;have n3:=(Jf (v:=.ref l) (h3.trans (by rw[vi];rfl):nK.map (·.1)=(S.r.map (·.1)).map kK) m).2;rw[n3];refine fld_in B.wn _ λH5 b5 x5=>?_
   have M:=wk1.wn (c:=k) (o:=Vb S.u) (l:=l) b2 (by rw[e3];exact x2) x u g3 b5 λR3 e=>by
    rw[a]at e;cases e;exact x5
   exists _,_,(M.insB),QP _
   cases d with
   |dry e q=>
    have e':mo=({S with r:=S.r++[(k,Vb S.u)],wc:=S.wc+1}:WSt).bg:=e.symm;rw[e']at M;exact .dry Hm A' ks d' ds B _ i k M λt H6 s6 g6=>q t H6 (by rw[e'];exact M.mono s6) g6
   |go G2 df j r l' s' hs hd ef ok hk lt gs ls q=>exact .go Hm A' ks d' ds B mo _ i k G2 df j r l' s' M hs hd ef ok hk lt lu gs ls q
 .intro N hN
  obtain⟨nK,hK,D,h2,h3,h4⟩:=id p.ws;exists CW,_,_,_,D.ins,J.cl,J.uw,Gf _,B.uw,_,Y,.inl<|Z3 D.uw,_,rfl
  by_cases u0:S.u=[]
  .have o0:i=[]:=vg (by rw[lo,u0];rfl)
   refine Y0 (by rw[o0];decide)<|hN _ _ ⟨H,?_,p.wc,rfl⟩;unfold Vb;rw[u0]
   rfl
  .have ne:i≠[]:=λz=>u0<|vg (by rw[<-lo,z];rfl)
   obtain⟨R,O,rfl⟩:∃R O,i=R++[O]:=⟨_,_,(vf ne).symm⟩;obtain⟨u',e,eu⟩:∃u' e,S.u=u'++[e]:=⟨_,_,(vf u0).symm⟩
   have ll:R.length=u'.length:=by
    rw[eu,ZL,ZL]at lo;simpa using lo
   have us:=p.us R.length O e (by rw[vb (ZG _),vk];rfl) (by rw[eu,ll,vb<|ZG _,vk];rfl);have ek:=B7 eu;have em:=hw e (by rw[eu];exact ZU _<|ZQ.mpr rfl);refine VG (by rw[ZA,ZL,vc];exact decide_eq_true<|by lia) ?_;exists CW,_,_,_,D.ins,J.cl,J.uw,Gf _,1,Y,_,V.ref O.t,Z3 D.uw,by rw[ZK];exact U8 _ _,CO,_,_,_,us.1.gm.ins,TO.cl,TO.nu,EL _;obtain⟨v,hv,x⟩:=Q2 h4 h3 em;obtain⟨l,xs,rfl,T,O1,X,R4⟩:=id x;rw[us.2.1];have b:=JG.k (k:=kK e.k)<|D.wn rfl;rw[hv]at b;exists CW,_,_,_,D.ins,J.cl,J.wn,Fq _,_,b;exists l,xs,Y,.inl<|Z3 T,rfl,O1,_,rfl;have J2:∀{H':Hp},WK true P w Hm H' C CK CG CO CW A' ks d' ds B mo {S with wc:=S.wc+1} (R++[O])->N [some (.ref B.t),some<|.int (k:Nat),some (.int (e.k:Nat))] H':=λG1=>hN _ _ ⟨_,by rw[ek];rfl,G1,rfl⟩;refine DF (λ_=>?_) λ_=>J2 p.wc;refine⟨CW,_,_,_,D.ins,J.cl,J.wn,Fq _,_,b,.inl ⟨Y,_,Z3 T⟩,l,_,_,Y,Y,T,JH<|by lia,?_⟩;refine fld_in l _ λH1 b1 x1=>J2<|p.wl x T b1 x1 rfl
def On:Yh sn sn (Yd Lw):=Y2
def Ku(TW:DCl K CW)(F:Fun K "want" "Doing.want" Lw f fd)(m:VJ K CW "go_into" g)(G:Ye P w K z base CX0 L g gd sn (Gp false P w C CK CG CO CW n))(bG:Binds K gd sn []):Ye P w K z base CX0 (L+1) f fd sn (Xp false P w C CK CG CO CW n):=by
 refine F.oi On λJ2 A M s H vs Q E o h=>?_;obtain⟨T,D,N,d,O,B,y,S,R,k,Z,hw,p,c⟩:=h;exists _,YZ<|Yi<|Y6 (pv 0) TW.cl m G o bG .nil Y4<|pa1<|pv 1;exists _,_,Z.insB,QP _
 cases c with
 |tkn a=>cases a
 |new m d'=>
  cases d' with
  |dry e q=>
   rw[<-e]at Z;exact .dry T D N d O B _ R k Z λt H6 I g6=>q t H6 (by rw[<-e];exact Z.mono I) g6
  |go J df j r l U b hd ef X i u x v q=>exact .go T D N d O B y _ R k J df j r l U Z b hd ef X i u p x v q
end
end K4
namespace L2
open PySem
inductive Jp where
 |st (x:Stp)|taken (t:Str)|hd (t:Str)|dry
def Jp.on(Hm:Hp)(A:GA)(av:Addr->Prop)(H:Hp)(v:V):Jp->Prop
 |.st x=>x.on A av H v
 |.taken t=>Has H v<|.tup [.str "taken",hdT t]
 |.hd t=>Has H v<|.tup [.str "head",hdT t]
 |.dry=>∃t,v=.ref t/\H t=some (.tup [.str "dry"])
def Wlk(bw:Bool)(ds:List Dd)(gs:kQ)(mo n:Nat):Nat->Jp->WSt->Jp->WSt->Prop
 |0,_,_,_,_=>False
 |j+1,x,S,R,SR=>match x with
  |.dry=>R=.dry/\SR=S
  |.st (.want k)=>(bw=true->(∀e∈S.u,e.k∈S.r.map (·.1))/\S.r.length<=900/\S.wc<=9000)/\S.u.length<=9000/\WC bw ds gs mo n k S (λt=>Wlk bw ds gs mo n j (.taken t) {S with wc:=S.wc+1} R SR) (λS'=>Wlk bw ds gs mo n j .dry S' R SR) (λS' r=>Wlk bw ds gs mo n j (.st r) S' R SR)
  |.st (.head t)=>∃u e,S.u=u++[e]/\(bw=true->e.k∉S.h.map (·.1)/\S.h.length<=900)/\Wlk bw ds gs mo n j (.taken t) (K4.upH bw e.k t {S with u:=u}) R SR
  |.taken t=>(S.u=[]/\R=.hd t/\SR=S) \/ ∃u e m r l' s',S.u=u++[e]/\Gos ds gs e.F e.b e.k n m (.head t) e.l S.s r l' s'/\S.s.1.length<=s'.1.length/\Wlk bw ds gs mo n j (.st r) {S with u:=u++[{e with l:=l'}],s:=s'} R SR
  |_=>False
def CC(b:SameB p H G)(h:H p=some (.dK J)):TL H G:=⟨λa Z e=>b _ _ (Yy e h (by intro z;cases z)) e,λa Z e=>b _ _ (Yy e h (by intro z;cases z)) e⟩
def owD(cs:List Mk1):Option Nat->Dat
 |none=>.non
 |some j=>bD cs j
def dnL(S:WSt):ph:=S.h.map λp=>.tup [bD S.s.1 p.1,owD S.s.1 ((S.r.lookup p.1).getD none)]
structure QL(S:WSt):Prop where
 ok:∀k∈S.h.map (·.1),k<=S.s.1.length/\∃o,S.r.lookup k=some o/\∀j,o=some j->j<=S.s.1.length
 l:S.h.length<=900
theorem KA:∀(r:List (Nat×Option Nat)){k:Nat}{o:Option Nat},r.lookup k=some o->VH (rK r) (kK k)=some (oV o)
 |[],_,_,h=>by simp at h
 |p::r,k,o,h=>by
  rw[vv]at h
  by_cases z:k=p.1
  .subst z
   rw[beq_self_eq_true]at h;cases h;exact Vn Y
  .have zb:(k==p.1)=false:=beq_eq_false_iff_ne.mpr z
   rw[zb]at h;refine(Vo λq=>z ?_).trans<|KA r h;have:(p.1:Int)=k:=Sum.inl.inj q;lia
def Jp.out(Hm H:Hp)(v:V):Jp->Prop
 |.hd t=>Has H v<|.tup [.str "worth",.str t]
 |_=>∃t,v=.ref t/\H t=some (.tup [.str "dry"])
end L2
namespace K4
open PySem L2
section
variable{C CK CG CO CW CD:Addr}
def A3(A:WA):(V3 bw A mo bg).lookup ("want":Str)=none:=by cases bw <;> rfl
def A6(A:WA):(V3 bw A mo bg).lookup ("end":Str)=none:=by cases bw <;> rfl
def A4(A:WA):(V3 bw A mo bg).lookup ("head_of_cell":Str)=none:=by cases bw <;> rfl
def A2(A:WA):(V3 bw A mo bg).lookup ("whole_of":Str)=none:=by cases bw <;> rfl
def zE(A:OM):(Ji A).lookup ("take_head":Str)=none:=rfl
def E5:Yh ["self","number","stop","ended"] sn (Yd XR):=Y2
inductive zu(bw:Bool)(P:Program)(w:World)(C CK CG CO CW:Addr)(n:Nat)(H:Hp)(Q:VK):List V->Prop
 |mk (Hm:Hp) (A:GA) (ks:List (Str×Shp)) (d:Str->Nat) (ds:List Dd) (B:WA) (mo:Nat) (S:WSt) (Os:List OM) (k j:Nat) (R:Jp) (SR:WSt) (wk:WK bw P w Hm H C CK CG CO CW A ks d ds B mo S Os) (gs:Wlk bw ds A.gs mo n j (.st (.want k)) S R SR)
  (q:∀v Os' H',WK bw P w Hm H' C CK CG CO CW A ks d ds B mo SR Os'->(R=.dry \/ ∃t,R=.hd t)->R.on Hm A (avW bw B) H' v->Q v H'):zu bw P w C CK CG CO CW n H Q [.ref B.t,.int (k:Nat)]
def D6(bw:Bool)(P:Program)(w:World)(C CK CG CO CW:Addr)(n:Nat):Sp:=λZ H Q _=>zu bw P w C CK CG CO CW n H Q Z
def Kt(B':Blt mg)(TW:DCl K CW)(TO:OCl K CO)(F:Fun K "head_of_cell" "Doing.head_of_cell" XR f fd)(m1:VJ K CW "want" g1)(G1:Ye P w K mg base CX0 L g1 d1 sn (Xp bw P w C CK CG CO CW n))(b1:Binds K d1 sn [])(m2:VJ K CW "end" g2)(G2:Ye P w K mg base CX0 L g2 d2 ["self","number","head"] (Xq bw P w C CK CG CO CW))(b2:Binds K d2 ["self","number","head"] [])(m3:VJ K CO "take_head" g3)(G3:Ye P w K mg base CX0 L g3 d3 ["self","head"] (IO P w C CK CG CO n))(b3:Binds K d3 ["self","head"] []):Ye P w K mg base CX0 (L+1) f fd sn (D6 bw P w C CK CG CO CW n):=by
 refine F.oi E5 λF2 A R3 s H vs Q E hr h=>?_;obtain⟨Hm,A',ks,d,ds,B,mo,S,N,k,j,R,SR,G,M,q⟩:=h;refine⟨_,YY (Yz 2 E5.nd<|Yj<|pa2 (Yr)<|pv 1)
  (YZ (NI Zv (Vz X0) (YZ (Y3 (Yp VX (Yk (r:=VY K) Yq (pv 2)<|Ya) Yr<|Yx _) (YZ<|Yz 2 E5.nd<|Y6 (pv 0) TW.cl m1 G1 hr b1 .nil Y4<|pa1<|Yk (r:=VY K) Yq (pv 2)<|Ya) (YZ (Y3 (Yp VX (Yk (r:=VY K) Yq (pv 2)<|Ya) Yr<|Yx _) (YY (Yz 3 E5.nd<|KW Zz PySem.F.slot_list_pop PySem.F.type_list_pop K9<|Yt (pv 0) rfl)
  (YY (VZ<|Y6 (pv 0) TW.cl m2 G2 hr b2 .nil Y4<|pa2 (Yt (pv 3) rfl)<|Yk (r:=VY K) Yq (pv 2)<|Ya)
  (YZ<|Yz 2 E5.nd<|Yj<|pa2 (Yr)<|Yk (r:=VY K) Yq (pv 2)<|Ya)))<|YZ<|Y3 (Yp UF (Yk (r:=VY K) Yq (pv 2)<|Ya) Yr<|Yx _) (YZ<|Yi<|pv 2)<|YZ<|Y3 (Yp VX (Y9 Yw rfl B'.len Zu (pa1<|Yt (pv 0) rfl)) Ya<|Yx _) (YZ<|Yi<|Yj<|pa2 (Yr)<|Yk (r:=VY K) Yq (pv 2)<|Ya)<|YZ<|Yz 2 E5.nd<|Y6 (Yk Y8 (Yt (pv 0) rfl)<|G9 Xa Ya) TO.cl m3 G3 hr b3 .nil Y4<|pa1<|Yk (r:=VY K) Yq (pv 2)<|Ya)))))),?_⟩
 dsimp only[Vf,Cx.nox,Cx.wish];show let T0:=_;let T1:=_;let T2:=Yl _ T1;let T3:=Yl _ T2;let T4:=_;let T5:=_;let T6:=_;let T7:=VF _ T5 T6;let T8:=VF _ T4 T7;let T9:=VF _ T3 T8;let F1:=VF _ T0 T9;let D3:=N6 _ F1;Yl _ D3 _ _ _
 intros
 refine⟨sl 2,λt0 R7=>?_⟩;refine up_in R7 _ λH0 s0 g0=>?_
 let W:pc:=λj U a=>∃x S N v z,U=[some (.ref B.t),some<|.int (k:Nat),some v,z]/\WK bw P w Hm a C CK CG CO CW A' ks d ds B mo S N/\x.on Hm A' (avW bw B) a v/\Wlk bw ds A'.gs mo n j x S R SR
 refine⟨W,⟨j,.st<|.want k,S,N,_,_,rfl,G.mono s0,Yv g0<|Z4 Y5<|Z5 (by unfold Has;rfl),M⟩,?_⟩;rintro j U H1 ⟨x,S,N,v,z,rfl,G,hv,M⟩;refine⟨true,Y,VG Y ⟨λU a=>∃j',j'<j/\W j' U a,λU' a z=>z,?_⟩⟩
 cases j with
 |zero=>unfold Wlk at M;exact M.elim
 |succ j=>
 unfold Wlk at M;obtain⟨nK,hK,l,h2,h3,h4⟩:=id G.ws;have o:=G.ul
 cases x with
 |dry=>
  obtain⟨e1,p⟩:=M;subst e1 p;obtain⟨t,rfl,J⟩:=id hv;refine⟨_,_,Z2 J,at0,Y,_,Y,Y0 (by decide +kernel) ?_⟩;refine⟨_,_,Z2 J,at0,Y,_,Y,Y0 (by decide +kernel) ?_⟩;refine⟨_,_,Z2 J,at0,Y,_,Y,VG (by decide +kernel)<|q _ _ _ G (.inl rfl) hv⟩
 |st y=>
  cases y with
  |want k'=>
   obtain⟨n1,n2,c⟩:=M;have D:Has H1 v (.tup [.str "want",.int (k':Nat)]):=hv;obtain⟨t,ys,rfl,J,hl⟩:=Yu D;obtain⟨x1,r1,rfl,e1,X⟩:=Yc hl;obtain⟨x2,r2,rfl,p,I⟩:=Yc X;obtain rfl:=VC I;obtain rfl:=has_str e1;obtain rfl:x2=.int (k':Nat):=by unfold Has at p;exact p
   refine⟨_,_,Z2 J,at0,Y,_,Y,VG (by decide +kernel) ?_⟩;refine⟨_,_,l.ins,A3 _,_,_,Z2 J,at1,Hm,A',ks,d,ds,B,mo,S,N,k',G,n1,n2,c.mono ?_ ?_ ?_⟩
   .exact λt g v y a T M2 R4=>⟨j,vj _,.taken t,_,N,_,_,rfl,T,Yv M2<|Z4 Y5<|Z5 R4,g⟩
   .exact λS' g t a T M2=>⟨j,vj _,.dry,S',N,_,_,rfl,T,⟨t,rfl,M2⟩,g⟩
   .exact λS' r g u O a T R6=>⟨j,vj _,.st r,S',_,_,_,rfl,T,R6,g⟩
  |head t=>
   obtain⟨u,e,i,n1,g⟩:=M;have D:Has H1 v (.tup [.str "head",hdT t]):=hv;obtain⟨t',ys,rfl,J,hl⟩:=Yu D;obtain⟨x1,r1,rfl,e1,X⟩:=Yc hl;obtain⟨x2,r2,rfl,p,I⟩:=Yc X;obtain rfl:=VC I;obtain rfl:=has_str e1;have ne:N≠[]:=λz=>by rw[z,i]at o;simp at o
   obtain⟨Z,O,rfl⟩:∃Z O,N=Z++[O]:=⟨_,_,(vf ne).symm⟩
   have ll:Z.length=u.length:=by
    rw[i,ZL,ZL]at o;simpa using o
   have us:=G.us Z.length O e (by rw[vb (ZG _),vk];rfl) (by rw[i,ll,vb<|ZG _,vk];rfl);refine⟨_,_,Z2 J,at0,Y,_,Y,Y0 (by decide +kernel) ?_⟩;refine⟨_,_,Z2 J,at0,Y,_,Y,VG (by decide +kernel) ?_⟩;have uw:=l.uw;rw[ZK]at uw;refine⟨CW,_,_,_,l.ins,TW.cl,TW.uw,Gf _,.inl ⟨Y,_,Z3 uw⟩,B.uw,_,_,Y,Y,uw,by rw[ZL,List.map_singleton,vc,Nat.add_sub_cancel,vb<|ZG _,vk];rfl,?_⟩;rw[List.map_singleton,List.dropLast_concat];refine fld_in B.uw _ λH2 b2 g2=>?_;have b:=Jx b2 l.uw;have O1:=G.pop i b2 g2;have R8:=b2 _ _ (Yy us.1.gm.ins l.uw (by intro z;cases z)) us.1.gm.ins;exists _,_,O1.insB,A6 _,CO,_,_,_,R8,TO.cl,TO.nu,EL _,_,_,Z2<|b _ _ J,at1;rw[us.2.1];refine⟨Hm,A',ks,d,ds,B,mo,_,Z,e.k,x2,t,O1,VL b _ Mg p,n1,λH3 R0 R1=>?_⟩;refine⟨_,_,Z2<|R0 _ _<|b _ _ J,at1,sl 2,λt4 J2=>?_⟩;refine up_in J2 _ λH4 s4 g4=>?_;refine⟨j,vj _,.taken t,_,Z,_,_,Y,R1.mono s4,?_,g⟩;have ti:(hdT t).ti=true:=Mg;exact Yv g4<|Z4 Y5<|Z5<|(VL R0 _ ti<|VL b _ ti p).mono s4
  |body pl ρ=>exact M.elim
  |thing th=>exact M.elim
 |taken t=>
  have D:Has H1 v (.tup [.str "taken",hdT t]):=hv;obtain⟨t',ys,rfl,J,hl⟩:=Yu D;obtain⟨x1,r1,rfl,e1,X⟩:=Yc hl;obtain⟨x2,r2,rfl,p,I⟩:=Yc X;obtain rfl:=VC I;obtain rfl:=has_str e1;refine⟨_,_,Z2 J,at0,Y,_,Y,Y0 (by decide +kernel) ?_⟩;refine⟨_,_,Z2 J,at0,Y,_,Y,Y0 (by decide +kernel) ?_⟩;refine⟨_,_,Z2 J,at0,Y,_,Y,Y0 (by decide +kernel) ?_⟩;exists CW,_,_,_,l.ins,TW.cl,TW.uw,Gf _,B.uw,_,Y,.inl<|Z3 l.uw,rfl,_,rfl;rcases M with⟨u0,rfl,rfl⟩|⟨u,e,m,r,l',s',i,D0,ls,g⟩
  .have o0:N=[]:=vg (by rw[o,u0];rfl)
   refine VG (by rw[o0];decide) ⟨_,_,Z2 J,at1,sl 2,λt4 J2=>?_⟩;refine up_in J2 _ λH4 s4 g4=>?_;exact q _ _ _ (G.mono s4) (.inr ⟨t,Y⟩)<|Yv g4<|Z4 Y5<|Z5<|p.mono s4
  have ne:N≠[]:=λz=>by rw[z,i]at o;simp at o
  obtain⟨Z,O,rfl⟩:∃Z O,N=Z++[O]:=⟨_,_,(vf ne).symm⟩
  have ll:Z.length=u.length:=by
   rw[i,ZL,ZL]at o;simpa using o
  have us:=G.us Z.length O e (by rw[vb (ZG _),vk];rfl) (by rw[i,ll,vb<|ZG _,vk];rfl);refine Y0 (by rw[ZA,ZL,vc];simp;lia) ?_;exists CW,_,_,_,l.ins,TW.cl,TW.uw,Gf _,1,Y,_,V.ref O.t,Z3 l.uw,by rw[ZK];exact U8 _ _,_,_,us.1.gm.ins,zE _,_,_,Z2 J,at1;refine⟨Hm,A',ks,d,ds,avW bw B,O,e.b,e.l,S.s,x2,t,m,r,l',s',us.1,p,by rw[us.2.1,us.2.2];exact D0,G.l3,λv a f rg R5=>?_⟩;exact⟨j,vj _,.st r,_,_,_,_,Y,G.run i f rg ls,R5,g⟩
 |hd t=>exact M.elim
abbrev shd:kQ:=["self","head"]
def yT:Yh ["self","head","found","thing","told"] shd (Yd WJ):=Y2
inductive zm(H:Hp)(Q:VK):List V->Prop
 |mk (z y:V) (t:Str) (hy:Has H y (hdT t)) (q:∀u H',Same H H'->Has H' u (.tup [.str "worth",.str t])->Q u H'):zm H Q [z,y]
def D2:Sp:=λZ H Q _=>zm H Q Z
def Ke(F:Fun K "whole_of" "Doing.whole_of" WJ f T):Ye P w K d base CX0 (n+1) f T shd D2:=by
 refine F.oi yT λI A Z s H m Q E u h=>?_;obtain⟨z,y,t,M,q⟩:=h;refine⟨_,YY (Y3 (Yp VX (Yk (r:=VY K) Yq (pv 1)<|Ya) Yr<|Yx _) (YZ<|Yi<|Yj<|pa2 (Yr)<|Yk (r:=VY K) Yq (pv 1)<|Ya) Yo)
  J4,?_⟩
 show let S:=_;Yl (VF _ S _) _ _ _ _
 intros
 unfold hdT at M;obtain⟨g,U,rfl,N,R⟩:=Yu M;obtain⟨j,c,rfl,D,G⟩:=Yc R;obtain⟨X,k,rfl,B,J⟩:=Yc G;obtain rfl:=VC J;obtain rfl:=has_str D;refine⟨_,_,Z2 N,at0,Y,_,Y,VG (by decide +kernel) ⟨_,_,Z2 N,at1,sl 2,λp O=>?_⟩⟩;exact up_in O _ λv L g1=>q _ _ L<|Yv g1<|Z4 Y5<|Z5<|B.mono L
def QW:Yh ["self","whole","told"] ["self","whole"] (Yd WL):=Y2
inductive Qv(bw:Bool)(P:Program)(w:World)(C CK CG CO CW:Addr)(n:Nat)(H:Hp)(Q:VK):List V->Prop
 |mk (Hm:Hp) (A:GA) (ks:List (Str×Shp)) (d:Str->Nat) (ds:List Dd) (B:WA) (mo:Nat) (S:WSt) (Os:List OM) (j:Nat) (R:Jp) (SR:WSt) (full:Bool) (wk:WK bw P w Hm H C CK CG CO CW A ks d ds B mo S Os) (gs:Wlk bw ds A.gs mo n j (.st (.want 0)) S R SR)
  (q:∀v Os' H',WK bw P w Hm H' C CK CG CO CW A ks d ds B mo SR Os'->R.out Hm H' v->Q v H'):Qv bw P w C CK CG CO CW n H Q [.ref B.t,.bl full]
def Gm(bw:Bool)(P:Program)(w:World)(C CK CG CO CW:Addr)(n:Nat):Sp:=λZ H Q _=>Qv bw P w C CK CG CO CW n H Q Z
def EG(c:DCl K CW)(F:Fun K "outcome" "Doing.outcome" WL f fd)(x:VJ K CW "head_of_cell" g1)(G1:Ye P w K z base CX0 L g1 d1 sn (D6 bw P w C CK CG CO CW n))(b1:Binds K d1 sn [])(a:VJ K CW "whole_of" U)(G2:Ye P w K z base CX0 L U d2 shd D2)(b2:Binds K d2 shd []):Ye P w K z base CX0 (L+1) f fd ["self","whole"] (Gm bw P w C CK CG CO CW n):=by
 refine F.oi QW λJ2 A T s H vs Q E m h=>?_;obtain⟨Hm,A',ks,d,ds,B,i,S,Os,j,R,SR,full,y,gs,q⟩:=h;refine⟨_,YY (Yz 2 QW.nd<|Y6 (pv 0) c.cl x G1 m b1 .nil Y4<|pa1<|Ya)
  (YY (Y3 (Yp UF (Yk (r:=VY K) Yq (pv 2)<|Ya) Yr<|Yx _) (YZ<|Yi<|pv 2) Yo)
  (YY (Y3 (Vz<|pv 1) (YZ<|Yi<|Y6 (pv 0) c.cl a G2 m b2 .nil Y4<|pa1<|Yk (r:=VY K) Yq (pv 2)<|Ya) Yo)
  (YY (Y3 (Yp VX (Yk (r:=VY K) Yq (Yk (r:=VY K) Yq (pv 2)<|Ya)<|Ya) Yr<|Yx _) J4 Yo)
  (YZ<|Yi<|Yj<|pa2 (Yr)<|Yk (r:=VY K) Yq (Yk (r:=VY K) Yq (pv 2)<|Ya)<|Ya)))),?_⟩
 show let T0:=_;let T1:=Yl (VF _ _ _) T0;let T2:=_;let T3:=Yl (VF _ T2 _) T1;let T4:=_;let T5:=Yl (VF _ T4 _) T3;Yl _ T5 _ _ _
 intros
 refine⟨_,_,y.insB,A4 _,Hm,A',ks,d,ds,B,i,S,Os,0,j,R,SR,y,gs,λv G3 H' Z hR D=>?_⟩;rcases hR with rfl|⟨t,rfl⟩
 .obtain ⟨t,rfl,M⟩:=id D
  exact⟨_,_,Z2 M,at0,Y,_,Y,VG (by decide +kernel)<|q _ _ _ Z D⟩
 .have hv2:Has H' v (.tup [.str "head",hdT t]):=D
  obtain⟨t',l,rfl,M,I⟩:=Yu hv2;obtain⟨b,o,rfl,e1,G⟩:=Yc I;obtain⟨X,e,rfl,k,J⟩:=Yc G;obtain rfl:=VC J;obtain rfl:=has_str e1;refine⟨_,_,Z2 M,at0,Y,_,Y,Y0 (by decide +kernel) ?_⟩
  cases full with
  |true=>
   refine⟨_,Y,VG Y ?_⟩;exact⟨_,_,Z.insB,A2 _,_,_,Z2 M,at1,_,X,t,k,λu H2 O hu=>q _ _ _ (Z.mono O) hu⟩
  |false=>
   refine⟨_,Y,Y0 (by decide) ?_⟩;have g:=k;unfold hdT at g;obtain⟨t2,l,rfl,N,I⟩:=Yu g;obtain⟨b,o,rfl,e4,G⟩:=Yc I;obtain⟨X,e,rfl,e5,J⟩:=Yc G;obtain rfl:=VC J;obtain rfl:=has_str e4;refine⟨_,_,Z2 M,at1,_,_,Z2 N,at0,Y,_,Y,Y0 (by decide +kernel) ?_⟩;refine⟨_,_,Z2 M,at1,_,_,Z2 N,at1,sl 2,λp hp=>?_⟩;exact up_in hp _ λH2 O U=>q _ _ _ (Z.mono O)<|Yv U<|Z4 Y5<|Z5<|e5.mono O
def Sl:Yh ["self"] ["self"] (Yd Fu):=Y2
def zA:List.Nodup [("number":Str),"self"]:=by decide +kernel
inductive OC(P:Program)(w:World)(C CK CG CO CW:Addr)(H:Hp)(Q:VK):List V->Prop
 |mk (Hm:Hp) (A:GA) (ks:List (Str×Shp)) (d:Str->Nat) (ds:List Dd) (B:WA) (mo:Nat) (S:WSt) (Os:List OM) (wk:WK true P w Hm H C CK CG CO CW A ks d ds B mo S Os) (dn:QL S)
  (q:∀p vs H',Same Hm H'->TL H H'->Hm p=none->H' p=some (.lst vs)->HasL H' vs (dnL S)->Q (.ref p) H'):OC P w C CK CG CO CW H Q [.ref B.t]
def Rv(P:Program)(w:World)(C CK CG CO CW:Addr):Sp:=λZ H Q _=>OC P w C CK CG CO CW H Q Z
def Kv(I:WCl K CW)(F:Fun K "done" "Walk.done" Fu f fd)(m:VJ K CW "birth_of" g)(G:Ye P w K mg base CX0 L g gd sn (BG P w CG CW))(bG:Binds K gd sn []):Ye P w K mg base CX0 (L+1) f fd ["self"] (Rv P w C CK CG CO CW):=by
 refine F.oi Sl λG2 A J2 s H vs Q E hr h=>?_;obtain⟨Hm,A',ks,d,ds,B,mo,S,Os,M,dn,q⟩:=h;have hu:=JQ hr;refine⟨_,YZ<|Yi<|JF ["number"] [0] (O5<|Yt (pv 0) rfl) (Vc (i:=0)<|by decide) (λcl C fp s H=>Ym 0 zA rfl (Or.inl rfl) (Or.inr rfl)) λcl C fp s H=>Yj<|pa2 (Y6 (pv 1) I.cl m G hr bG .nil Y4<|pa1<|pv 0)<|Y6 (pv 1) I.cl m G hr bG .nil Y4<|pa1<|JX hu (O8 K (pv 1) rfl) (pv 0) λ_ _=>rfl,?_⟩;dsimp only[Vf,Cx.nox,Cx.wish];obtain⟨nK,hK,J,h2,h3,h4⟩:=id M.ws;refine⟨CW,_,_,_,J.ins,I.cl,I.hs,Dx _,B.hs,_,Y,J.hs Y,λo=>?_⟩;refine fld_in B.hs _ λH1 b g1=>?_;have f1:=M.foD ⟨rfl,.inr<|.inr rfl⟩ (J.hs rfl) (M.wf.hs rfl) b g1;have N:=M.mx.fo f1;have G1:=b _ _ (Yy J.ins (J.hs rfl) (by intro z;cases z)) J.ins;have e:=b _ _ (M.wf.d2 rfl)<|J.wr rfl
 have ek:hK.map (λkv=>kV kv.1)=(S.h.map (·.1)).map λk=>V.int (k:Nat):=by
  rw[show(λkv:Key×V=>kV kv.1)=kV ∘ (·.1)from rfl,<-vi,h2.1,vi,vi]
  rfl
 have hx:∀l:List Nat,HasL H1 (l.map λk=>V.int (k:Nat)) (l.map λk=>Dat.int (k:Nat)):=λl=>by
  induction l with
  |nil=>exact Z6
  |cons a l ih=>exact Z4 (by unfold Has;rfl) ih
 refine UW (us:=S.h.map (·.1)) (D:=λk=>.int (k:Nat)) (F:=λk=>.tup [bD S.s.1 k,owD S.s.1 ((S.r.lookup k).getD none)]) (λH' s=>itd<|s _ _ g1) (by rw[ek];exact hx _) (by rw[ZA];have:=dn.l;lia) (λk x r R hm T X hR=>?_) λvs p r fp T hp y=>?_
 .obtain rfl:x=.int (k:Nat):=by unfold Has at X;exact X
  obtain⟨d1,o',d2,d3⟩:=dn.ok k hm;have Z:=T _ _ G1;have c:=(N.mono T).gg;refine⟨_,_,Z,QQ _,.num A' B _ _ S.s.1 S.s.2 (avW true B) k Z M.gr c d1 λv hv=>?_⟩;have dg:=JG.k (k:=kK k)<|T _ _ e;rw[KA _ d2]at dg;exists _,_,Z,QQ _,CW,_,_,_,Z,I.cl,I.wr,Fp _,_,dg;have u:∀U,Has r U (owD S.s.1 o')->(∀t,r t=none->R (.ref t) (upd r t<|.tup [v,U])):=λU O t ht=>up_in ht _ λH3 n g3=>hR _ _ n<|Yv g3<|Z4 (hv.mono n)<|Z5 (by rw[d2];exact O.mono n)
  cases o' with
  |none=>exact .non B ⟨sl 2,u _ (by unfold owD Has;rfl)⟩
  |some j=>exact .num A' B _ _ S.s.1 S.s.2 (avW true B) j Z M.gr c (d3 j Y) λU O=>⟨sl 2,u U O⟩
 .exact q p vs r (N.sm.trans T) ((CC b<|J.hs rfl).trans T.tl) (N.sm.free fp) hp (by unfold dnL;rw[vi]at y;exact y)
end
end K4
namespace L2
open PySem PySem.Spec PyProof.Rows
structure Mx(K:W.Frag)(x qual:Str)(st:Stmt)(f:Addr)(fd:FuncData):Prop where
 ex:∃(oc:Value)(od:Option Addr)(kV doc pm:Value)(an:Option Addr)(cdv ct:Value)(osl:Array (Option Value))(T:Addr)(tc:Value)(td:Option Addr)(tn:Nat)(tl:Array (Option Value)),
  fd=W.fnOf x qual (JO st) (Vw st) (Yd st) (.ref T) kV doc pm an cdv ct/\K.lookup f=some ⟨oc,od,.func fd,osl⟩/\W.codeIn K cdv qual=true/\K.lookup T=some ⟨tc,td,.seq #[.bool false] tn,tl⟩
 kp:W.keepIn K (.ref f)=true
def Mx.oi{K:W.Frag}{st:Stmt}(F:Mx K x qual st f X)(S:Yh N B (Yd st))(L:∀(J:Value)(A:Around)(Z:List Env)(s:Shared)(H:Hp)(G:kZ)(Q:VK)(E:XK),Vu k (A.deeper<|PyProof.Rows.envOfC qual (Yd st) s.heap.objs.size f J)->R G H Q E->
   ∃t,PSs (Vf CX0 P w K I base N qual (Yd st) f J A Z s H E).nox (Vw st) t/\t {nx:=λ_ y=>Q .non y,rt:=Q} (start N G) H)(len:∀G H Q E,R G H Q E->G.length=B.length:=by intro G H Q E h;cases h;rfl):Ye P w K I base CX0 (k+1) f X B R:=by
 obtain⟨u,d,kV,j,c,r,J,v,D,T,p,g,z,m,rfl,U,O,_⟩:=F.ex;refine Qs U O S len λA Z s H G Q E C M=>?_;obtain⟨t,h,q⟩:=L J A Z s H G Q E C M;exact⟨t,h.nox,q⟩
def V2{α:Type}{Z:List α}{n:Nat}(h:Z.length=n+1):∃a t,Z=a::t/\t.length=n:=by
 cases Z with
 |nil=>cases h
 |cons a t=>exact⟨a,t,Y,Nat.succ.inj h⟩
def Mx.b5{K:W.Frag}{st:Stmt}(F:Mx K x qual st f t)(p D B R O:Str)(h:∀(a b c d e T kV Z L:Value)(N:kW)(J M:Value),∃k:Option (kX)->Sem (List<|Str×Value),bindArgs (W.fnOf x qual (JO st) (Vw st) (Yd st) T kV Z L N J M) ⟨[a,b,c,d,e],[]⟩=seqItems? T >>=k/\k (some #[.bool false])=pure ([p,D,B,R,O].zip [a,b,c,d,e]):=by
   exact λ_ _ _ _ _ _ _ _ _ _ _ _=>⟨_,Y,Y⟩):Binds K t [p,D,B,R,O] []:=λs G X E=>by
 obtain⟨r,w,kV,Z,L,N,J,M,A,T,v,u,m,g,rfl,l,y,I⟩:=F.ex;have S:G.length=5:=by simpa using E
 clear E;obtain⟨a,G,rfl,U⟩:=V2 S;obtain⟨b,G,rfl,C⟩:=V2 U;obtain⟨c,G,rfl,P⟩:=V2 C;obtain⟨d,G,rfl,Q⟩:=V2 P;obtain⟨e,G,rfl,j⟩:=V2 Q;obtain rfl:=vg j;obtain⟨k,q,z⟩:=h a b c d e (.ref T) kV Z L N J M;exact BindsTo.of_defaults Y (X _ _ I) Y q z
def Mx.b4{K:W.Frag}{st:Stmt}(F:Mx K x qual st f q)(p D B R O:Str)(h:∀(a b c d T kV Z L:Value)(N:kW)(J M:Value),∃k:Option (kX)->Sem (List<|Str×Value),bindArgs (W.fnOf x qual (JO st) (Vw st) (Yd st) T kV Z L N J M) ⟨[a,b,c,d],[]⟩=seqItems? T >>=k/\k (some #[.bool false])=pure ([p,D,B,R,O].zip [a,b,c,d,.bool false]):=by
   exact λ_ _ _ _ _ _ _ _ _ _ _=>⟨_,Y,Y⟩):Binds K q [p,D,B,R,O] [.bool false]:=λs G X E=>by
 obtain⟨w,v,kV,Z,L,N,J,M,A,T,u,g,t,m,rfl,r,j,I⟩:=F.ex;have S:G.length=4:=by simpa using E
 clear E;obtain⟨a,G,rfl,U⟩:=V2 S;obtain⟨b,G,rfl,C⟩:=V2 U;obtain⟨c,G,rfl,P⟩:=V2 C;obtain⟨d,G,rfl,Q⟩:=V2 P;obtain rfl:=vg Q;obtain⟨k,z,y⟩:=h a b c d (.ref T) kV Z L N J M;exact BindsTo.of_defaults Y (X _ _ I) Y z y
def S0(F:Str)(ρ:Rho):WSt:=⟨[],[],[],0,0,([],N9 F ρ)⟩
def NG(df:Dd):Rho:=Iz (df.1.2.1.map (·.1)) df.1.2.1.length
end L2
namespace K4
open PySem L2
section
variable{C CK CG CO CW CD:Addr}
abbrev wop:kQ:=["book","F","worths","most"]
abbrev Dp:kQ:=["book","F","worths","most","whole"]
def QM(A:WA):(V3 bw A mo bg).lookup ("outcome":Str)=none:=by cases bw <;> rfl
def A7(A:WA):(V3 true A mo bg).lookup ("done":Str)=none:=rfl
structure RgA(H:Hp)(C CK bk gv:Addr)(ks:List (Str×Shp))(d:Str->Nat)(ds:List Dd)(df:Dd)(gs:List Str):Prop where
 bi:BI H C CK bk ks d ds
 hd:df∈ds
 hg:H gv=some (.tup (gs.map V.str))
 ln:gs.length=df.1.2.1.length
 l3:df.1.2.1.length<=3
 nd:(df.1.2.1.map (·.1)).Nodup
 ok:∀(i:Nat)(p:Str×Str)(u:Str),df.1.2.1[i]?=some p->gs[i]?=some u->okW ks (.tag u) p.2
def RgA.oks(r:RgA H C CK bk gv J d M df gs):∀(i:Nat)(p:Str×Str)(u:W),df.1.2.1[i]?=some p->(gs.map W.tag)[i]?=some u->okW J u p.2/\u.dep<3:=λi p u L Z=>by
 rw[ZH]at Z;obtain⟨g,G,rfl⟩:=Zj.mp Z;exact⟨r.ok i p g L G,by simp[W.dep]⟩
def yU:Yh wop wop (Yd MC):=Y2
def Ii:Yh ["book","F","worths","most","whole","walk","outcome"] Dp (Yd Bj):=Y2
inductive zn(P:Program)(w:World)(C CK CG CO CW:Addr)(H:Hp)(Q:VK):List V->Prop
 |mk (bk gv:Addr) (ks:List (Str×Shp)) (d:Str->Nat) (ds:List Dd) (df:Dd) (gs:List Str) (mo:Nat) (ra:RgA H C CK bk gv ks d ds df gs) (m1:1<=mo) (m2:mo<=500)
  (q:∀(A:GA)(B:WA) Hm H',Same H Hm->A.gs=gs->WK true P w Hm H' C CK CG CO CW A ks d ds B mo (S0 df.1.1 (NG df)) []->Q (.ref B.t) H'):zn P w C CK CG CO CW H Q [.ref bk,.str df.1.1,.ref gv,.int (mo:Nat)]
def IN(P:Program)(w:World)(C CK CG CO CW:Addr):Sp:=λZ H Q _=>zn P w C CK CG CO CW H Q Z
def AA(F:Fun K "walk_of" "walk_of" MC f fd)(DA:Df P w K R base (n+1) "check_asking" bfw (BF C CK .non))(DM:Df P w K R base (n+1) "check_most" ["most","highest"] OZ)(hC:R "MOST_CELLS"=some u1)(rC:RelV (.int 500) u1)(mW:R "Walk"=some (.ref CW))(MW:Mk K CW g1)(GW:Ye P w K R base CX0 n g1 d1 ["self","ground","most"] (SQ CW))(bW:Binds K d1 ["self","ground","most"] [])(mG:R "Ground"=some (.ref CG))(MG:Mk K CG g2)(GG:Ye P w K R base CX0 n g2 d2 ["self","book","F","worths"] (D8 P w C CK CG))(bG:Binds K d2 ["self","book","F","worths"] []):Ye P w K R base CX0 (n+2) f fd wop (IN P w C CK CG CO CW):=by
 refine F.oi yU λG3 A m s H vs Q E X h=>?_;obtain⟨bk,gv,ks,d,ds,df,gs,mo,Z,m1,m2,q⟩:=h;refine⟨_,YY (VZ<|VW DA X<|pa3 (pv 0) (pv 1)<|pv 2)
  (YY (VZ<|VW DM X<|pa2 (pv 3)<|JW rfl hC rC)
  (YZ<|Yi<|Uc MW GW X rfl mW bW .nil Y4 (pa2 (Uc MG GG X rfl mG bG .nil Y4 (pa3 (pv 0) (pv 1)<|pv 2))<|pv 3))),?_⟩
 show let T0:=_;let T1:=Yl _ T0;Yl _ T1 _ _ _
 intros
 refine⟨bk,gv,_,ks,d,ds,df,gs.map W.tag,Z.bi,Z.hd,Z.hg,XA _,by rw[ZA];exact Z.ln,Z.l3,Z.oks,λT t=>?_⟩;refine⟨mo,500,by lia,by lia,?_⟩;intro x N U k G2;have v:Same T (upd (upd T N<|.own x) x<|.ins CG N []):=λb o e=>by rw[Yg (Yb e U),Yg (Yb e k)];exact e
 have c:upd (upd T N<|.own x) x (.ins CG N []) x=some (.ins CG N []):=Yf;generalize upd (upd T N<|.own x) x (.ins CG N [])=H2 at c v |-;refine⟨T,x,N,bk,gv,ks,d,ds,df,gs,U,v,c,Z.bi.mono t,Z.hd,t _ _ Z.hg,Z.ln,Z.l3,Z.nd,λG I e1 e2 e3 L=>⟨Y,?_⟩⟩;rw[Z.ln]at L;intro y M S g J2;have u:Same I (upd (upd I M<|.own y) y<|.ins CW M []):=λb o e=>by rw[Yg (Yb e S),Yg (Yb e g)];exact e
 have ty:upd (upd I M<|.own y) y (.ins CW M []) y=some (.ins CW M []):=Yf;generalize upd (upd I M<|.own y) y (.ins CW M [])=H4 at ty u |-;refine⟨I,y,M,x,mo,S,u,ty,λB H5 f1 f2 J r ws=>⟨Y,?_⟩⟩;rw[<-f1];have D:=L.sm;have j:WF true T B:=⟨D.free J.t,D.free J.uw,λz=>D.free<|J.wr z,λz=>D.free<|J.wn z,λz=>D.free<|J.hs z,J.d1,J.d2,J.d3⟩
 have l:∀a,avW true B a->I a=none:=λa z=>by
  rcases z.2 with rfl|rfl|rfl
  .exact J.wr rfl
  .exact J.wn rfl
  .exact J.hs rfl
 obtain⟨xs,g1,_⟩:=L.gg.bs;obtain⟨G1,g3,_⟩:=L.gg.st;refine q G B T H5 t e3 ⟨⟨D.trans r,L.bi,L.f1,L.f2,L.f3,L.gg.avoids l r⟩,by rw[f2,e1],j,λz=>?_,Yb g1 J.uw,by rw[e3,Z.ln];exact Z.l3,⟨[],[],ws,⟨Y,Z6⟩,Y,λp h=>(by cases h)⟩,Y,λi O e h=>(by simp at h),qb,λO h=>(by cases h)⟩;have:=l _ z;rw[g3]at this;cases this
inductive Qy(P:Program)(w:World)(C CK:Addr)(n:Nat)(H:Hp)(Q:VK):List V->Prop
 |mk (bk gv:Addr) (ks:List (Str×Shp)) (d:Str->Nat) (ds:List Dd) (df:Dd) (gv':List Str) (mo:Nat) (full:Bool) (j:Nat) (R:Jp) (SR:WSt) (ra:RgA H C CK bk gv ks d ds df gv') (m1:1<=mo) (m2:mo<=500) (gs:Wlk true ds gv' mo n j (.st (.want 0)) (S0 df.1.1 (NG df)) R SR) (dn:QL SR)
  (q:∀t r l us Hm H',Same H Hm->Same H H'->H' t=some (.tup [r,.ref l])->R.out Hm H' r->H l=none->H' l=some (.lst us)->HasL H' us (dnL SR)->Q (.ref t) H'):Qy P w C CK n H Q [.ref bk,.str df.1.1,.ref gv,.int (mo:Nat),.bl full]
def BJ(P:Program)(w:World)(C CK:Addr)(n:Nat):Sp:=λZ H Q _=>Qy P w C CK n H Q Z
def Jp.out_tl{R:Jp}(h:R.out G H v)(t:TL H L):R.out G L v:=by
 cases R with
 |hd Z=>exact Has.tl t _ h
 |dry=>obtain⟨Z,e,J⟩:=h;exact⟨Z,e,t.1 _ _ J⟩
 |st x=>obtain⟨Z,e,J⟩:=h;exact⟨Z,e,t.1 _ _ J⟩
 |taken x=>obtain⟨Z,e,J⟩:=h;exact⟨Z,e,t.1 _ _ J⟩
def Pd(k:WCl K CW)(F:Mx K "asked" "asked" Bj f fd)(DW:Df P w K O base L "walk_of" wop (IN P w C CK CG CO CW))(i:VJ K CW "outcome" g1)(G1:Ye P w K O base CX0 L g1 d1 ["self","whole"] (Gm true P w C CK CG CO CW n))(b1:Binds K d1 ["self","whole"] [])(o:VJ K CW "done" g2)(G2:Ye P w K O base CX0 L g2 d2 ["self"] (Rv P w C CK CG CO CW))(b2:Binds K d2 ["self"] []):Ye P w K O base CX0 (L+1) f fd Dp (BJ P w C CK n):=by
 refine F.oi Ii λJ2 A M s H vs Q E U h=>?_;obtain⟨bk,gv,I,d,y,df,X,N,full,j,R,p,e,D,T,gs,dn,q⟩:=h;refine⟨_,YY (Yz 5 Ii.nd<|VW DW U<|pa4 (pv 0) (pv 1) (pv 2)<|pv 3)
  (YY (Yz 6 Ii.nd<|Y6 (pv 5) k.cl i G1 U b1 .nil Y4<|pa1<|pv 4)
  (YZ<|Yi<|Yj<|pa2 (pv 6)<|Vp (pv 5) k.cl o G2 U b2 .nil Y4)),?_⟩
 show let T0:=_;let T1:=Yl _ T0;Yl _ T1 _ _ _
 intros
 refine⟨bk,gv,I,d,y,df,X,N,e,D,T,λc B m H1 G eg g=>?_⟩;refine⟨_,_,g.insB,QM _,m,c,I,d,y,B,N,_,[],j,R,p,_,g,by rw[eg];exact gs,λv z H2 Z a=>?_⟩;refine⟨_,_,Z.insB,A7 _,m,c,I,d,y,B,N,p,z,Z,dn,λl u H3 b r fl hl S=>⟨sl 2,λt x=>?_⟩⟩;refine up_in x _ λH4 J g4=>?_;exact q t v l u m H4 G ((G.trans b).trans J) g4 (Jp.out_tl a<|r.trans J.tl) (G.free fl) (J _ _ hl)<|S.mono J
def Sn:Yh ["book","F","worths","most","whole","doing","outcome"] Dp (Yd G0):=Y2
inductive yE(P:Program)(w:World)(C CK:Addr)(n:Nat)(H:Hp)(Q:VK):List V->Prop
 |mk (bk gv:Addr) (ks:List (Str×Shp)) (d:Str->Nat) (ds:List Dd) (df:Dd) (gv':List Str) (mo:Nat) (full:Bool) (j:Nat) (R:Jp) (SR:WSt) (ra:RgA H C CK bk gv ks d ds df gv') (m1:1<=mo) (m2:mo<=2000) (gs:Wlk false ds gv' mo n j (.st (.want 0)) (S0 df.1.1 (NG df)) R SR)
  (q:∀t r Hm H',Same H Hm->Same H H'->H' t=some (.tup [r,.int (SR.bg:Nat)])->R.out Hm H' r->Q (.ref t) H'):yE P w C CK n H Q [.ref bk,.str df.1.1,.ref gv,.int (mo:Nat),.bl full]
def IX(P:Program)(w:World)(C CK:Addr)(n:Nat):Sp:=λZ H Q _=>yE P w C CK n H Q Z
def AL(TD:DCl K CD)(F:Mx K "by_names" "by_names" G0 f fd)(DA:Df P w K N base (L+1) "check_asking" bfw (BF C CK .non))(DM:Df P w K N base (L+1) "check_most" ["most","highest"] OZ)(hC:N "MOST_GOINGS"=some u1)(rC:RelV (.int 2000) u1)(mD:N "Doing"=some (.ref CD))(MD:Mk K CD g1)(M2:Ye P w K N base CX0 L g1 d1 ["self","ground","most"] (IV CD))(bD:Binds K d1 ["self","ground","most"] [])(mG:N "Ground"=some (.ref CG))(MG:Mk K CG g2)(GG:Ye P w K N base CX0 L g2 d2 ["self","book","F","worths"] (D8 P w C CK CG))(bG:Binds K d2 ["self","book","F","worths"] [])(m1:VJ K CD "outcome" g3)(G1:Ye P w K N base CX0 (L+1) g3 d3 ["self","whole"] (Gm false P w C CK CG CO CD n))(b1:Binds K d3 ["self","whole"] []):Ye P w K N base CX0 (L+2) f fd Dp (IX P w C CK n):=by
 refine F.oi Sn λR4 A J2 s H vs Q E g h=>?_;obtain⟨bk,gv,l,d,ds,df,k,r,full,j,R,SR,Z,R1,R0,gs,q⟩:=h;refine⟨_,YY (VZ<|VW DA g<|pa3 (pv 0) (pv 1)<|pv 2)
  (YY (VZ<|VW DM g<|pa2 (pv 3)<|JW rfl hC rC)
  (YY (Yz 5 Sn.nd<|Uc MD M2 g rfl mD bD .nil Y4 (pa2 (Uc MG GG g rfl mG bG .nil Y4 (pa3 (pv 0) (pv 1)<|pv 2))<|pv 3))
  (YY (Yz 6 Sn.nd<|Y6 (pv 5) TD.cl m1 G1 g b1 .nil Y4<|pa1<|pv 4)
  (YZ<|Yi<|Yj<|pa2 (pv 6)<|Yt (pv 5) rfl)))),?_⟩
 show let T0:=_;let T1:=Yl _ T0;let T2:=Yl _ T1;let T3:=Yl _ T2;Yl _ T3 _ _ _
 intros
 refine⟨bk,gv,_,l,d,ds,df,k.map W.tag,Z.bi,Z.hd,Z.hg,XA _,by rw[ZA];exact Z.ln,Z.l3,Z.oks,λD u=>?_⟩;refine⟨r,2000,by lia,by lia,?_⟩;intro x T m G3 R3;have sX:Same D (upd (upd D T<|.own x) x<|.ins CG T []):=λb o e=>by rw[Yg (Yb e m),Yg (Yb e G3)];exact e
 have tx:upd (upd D T<|.own x) x (.ins CG T []) x=some (.ins CG T []):=Yf;generalize upd (upd D T<|.own x) x (.ins CG T [])=H2 at tx sX |-;refine⟨D,x,T,bk,gv,l,d,ds,df,k,m,sX,tx,Z.bi.mono u,Z.hd,u _ _ Z.hg,Z.ln,Z.l3,Z.nd,λG S e1 e2 e3 M=>⟨Y,?_⟩⟩;rw[Z.ln]at M;intro y J I G2 O1;have sY:Same S (upd (upd S J<|.own y) y<|.ins CD J []):=λb o e=>by rw[Yg (Yb e I),Yg (Yb e G2)];exact e
 have ty:upd (upd S J<|.own y) y (.ins CD J []) y=some (.ins CD J []):=Yf;generalize upd (upd S J<|.own y) y (.ins CD J [])=H4 at ty sY |-;refine⟨y,J,x,r,ty,λuw H5 fu b5 x5 g5=>⟨Y,?_⟩⟩;have X:Same S H5:=UM I sY b5;have sm:=M.sm
 let B:WA:=⟨y,J,x,uw,0,0,0⟩
 have c:S uw=none:=sY.free fu;obtain⟨xs,gb,_⟩:=M.gg.bs;have wk:WK false P w D H5 C CK CG CO CD G l d ds B r (S0 df.1.1<|NG df) []:=⟨⟨sm.trans X,M.bi,M.f1,M.f2,M.f3,M.gg.avoids (λa z=>by cases z.1) X⟩,e1.symm,⟨sm.free I,sm.free c,λz=>(by cases z),λz=>(by cases z),λz=>(by cases z),λz=>(by cases z),λz=>(by cases z),λz=>(by cases z)⟩,λz=>(by cases z.1),Yb gb c,by rw[e3,Z.ln];exact Z.l3,⟨[],[],⟨x5,g5,λz=>(by cases z),λz=>(by cases z),λz=>(by cases z)⟩,⟨Y,Z6⟩,Y,λp h=>(by cases h)⟩,Y,λi O e h=>(by simp at h),qb,λO h=>(by cases h)⟩;refine⟨_,_,wk.insB,QM _,D,G,l,d,ds,B,r,_,[],j,R,SR,_,wk,by rw[e3];exact gs,λv R5 H6 U hv=>?_⟩;refine⟨CD,_,_,_,U.insB,TD.cl,TD.bg,Dy _,sl 2,λt ht=>?_⟩;refine up_in ht _ λH7 s7 g7=>?_;exact q t v D H7 u (u.trans<|U.mx.sm.trans s7) g7<|Jp.out_tl hv s7.tl
end
section
variable{f g C CK N fI:Addr}
structure DRt(ks:List (Str×Shp))(ds:List Dd)(x:Dd):Prop where
 ok:vS x
 kd:kdn ks (V4 (ds.map (·.1))) 13 (kvP x.1.2.1) x.2=some x.1.2.2
inductive SBK(C CK:Addr)(H:Hp)(Q:VK):List V->Prop
 |mk (A:BA) (kv:List (Key×V)) (ks:List (Str×Shp)) (c d:Str->Nat) (ds:List Dd) (bd:BD H C CK A kv ks d ds) (kg:KG ks) (kk:KK 30 c d ks) (k6:ks.length<=6) (ho:∀x∈ds,QK (ks.map (·.1)) c 50 x.1) (dok:∀x∈ds,DRt ks ds x) (q:∀H',Same H H'->Q .non H'):SBK C CK H Q [.ref A.t]
def Sb(C CK:Addr):Sp:=λZ H Q _=>SBK C CK H Q Z
def AN(B:Blt j)(me:j "enumerate"=none)(TB:BCl K C)(F:Fun K "check_bodies" "Book.check_bodies" MM f fd)(mH:VJ K C "names" g)(GH:Ye P w K j base CX0 n g gd ["self"] (Uw C CK))(bH:Binds K gd ["self"] [])(DK:Df P w K j base n "kind_or_place" ["book","around","body"] (RB C CK 13)):Ye P w K j base CX0 (n+1) f fd ["self"] (Sb C CK):=by
 refine F.oi Ju λR5 A o s H vs Q E hr h=>?_;obtain⟨S,kv,ks,c,d,t,bd,kg,kk,k6,ho,O1,q⟩:=h;have hu:=JQ hr;refine⟨_,YZ (Ja Zv Y (Xz Y me (pa1<|Vp (pv 0) TB.cl mH GH hr bH .nil Y4)) (Ve (n:=2) rfl (Yn (Ym 1 Ju.nd)<|Yn (Ym 2 Ju.nd) VM))
   (YY (Jw (JX hu (Yt (pv 0) rfl) (pv 2) λ_ _=>rfl)<|Ve (n:=3) rfl (Yn (Ym 3 Ju.nd)<|Yn (Ym 4 Ju.nd)<|Yn (Ym 5 Ju.nd) VM))
   (YY (Jw (VW DK hr<|pa3 (pv 0) (VT (Wu rfl) rfl B.dict Uk (pa1<|pv 3))<|pv 5)<|Ve (n:=2) rfl (Yn (Ym 6 Ju.nd)<|Yn (Ym 7 Ju.nd) VM))
   (YY (Y3 (Yp Wh (pv 6) Vx<|Yx _) (YZ JT) Yo)
   (YZ<|Y3 (Yp UF (pv 6) (pv 4)<|Yx _) (YZ JT) Yo))))),?_⟩
 dsimp only[Vf,Cx.nox,Cx.wish];show let T0:=_;let T1:=VF _ T0 _;let T2:=_;let T3:=Yl (VF _ T2 _) T1;let T4:=Yl _ T3;let T5:=Yl _ T4;XS _ _ T5 _ _ _
 intros
 show let a:=_;let b:=VF _ a _;let c:=_;let d:=Yl (VF _ c _) b;let e:=Yl _ d;let f:=Yl _ e;XS _ _ f _ _ _
 intros
 refine⟨_,_,bd.ins,zY _,S.t,ks,d,t,Y,⟨S,kv,Y,bd⟩,λnl H1 s1 R1 T=>?_⟩;exists nl,false,_,Y,Z3 T
 let I:pc:=λi U D=>Same H1 D/\∃(z1 z2 z3 z4 z5 z6 z7:pf),U=[some (.ref S.t),z1,z2,z3,z4,z5,z6,z7]
 refine Mp (tp:=false) (xs:=t.map λx=>V.str x.1.1) I ⟨Z8 _,_,_,_,_,_,_,_,Y⟩ (λi U D _ z=>Z3<|z.1 _ _ T) ?_ ?_
 .rintro BB' RR i x U D r hx ⟨si,z1,z2,z3,z4,z5,z6,z7,rfl⟩ hr'
  rw[ZH]at hx
  cases hc:t[i]? with
  |none=>rw[hc]at hx;cases hx
  |some Z=>
   rw[hc]at hx;cases hx;have hm:=ZJ hc;have o1:=ho Z hm;have X:=O1 Z hm;refine up_in hr' _ λHR sR gR=>?_;have M:=bd.mono<|(s1.trans si).trans sR;obtain⟨v,e1,e2⟩:=M.at hm;obtain⟨ta,u,wv,rfl,G2,R,G1⟩:=X8 e2;exists _,Z2 gR,Y;exists C,_,_,_,M.ins,TB.cl,TB.td,FU _,_,e1;exists _,Z2 G2,Y;unfold psD at R;obtain⟨l,xp,rfl,hl,O⟩:=Yu R;obtain⟨tp,rfl,G⟩:=KF (K:=K) O;replace G:OG K HR tp (kvP Z.1.2.1):=G;have R0:(kvP Z.1.2.1).length=Z.1.2.1.length:=ZA _;have J:=o1.nd
   have J2:((kvP Z.1.2.1).map (·.1)).Nodup:=by
    unfold kvP;rw[vi];unfold List.Nodup at J |-;rw[kz]at J |-;exact J.imp λG3 q=>G3<|Sum.inr.inj q
   refine⟨l,tp,_,Y,hl,G,J2,λaA M2=>?_⟩;refine up_in M2 _ λH3 p g3=>?_;have l3:=o1.len;have R4:=X.ok.dep;have R3:=X.ok.size;refine⟨S.t,aA,wv,ks,c,d,t,kvP Z.1.2.1,Z.2,Y,⟨S,kv,Y,M.mono p⟩,kk,λf ps k e=>?_,λq' hq=>?_,λm L=>(ho m L).len,.inl g3,by lia,G1.mono p,X.ok.ok,by lia,by lia,λr4 p4 H4 s4 y _=>?_⟩
   .obtain ⟨m,L,e'⟩:=ZW.mp<|EZ e
    have:=(ho m L).own;rw[e']at this;exact this
   .obtain ⟨pr,hpr,rfl⟩:=ZW.mp hq
    exact⟨pr.1,pr.2,Y,o1.kin pr hpr⟩
   rw[X.kd]at y;replace y:H4 r4=some (.tup [.str Z.1.2.2,p4]):=y;exists _,Z2 y,Y;refine⟨Y,_,Y,Y0 (by simp) ?_⟩;refine⟨Y,_,Y,Y0 (by simp) ?_⟩;exact⟨((si.trans sR).trans p).trans s4,_,_,_,_,_,_,_,Y⟩
 .rintro U D ⟨si,_⟩
  exact q D<|s1.trans si
inductive SBN(C CK:Addr)(H:Hp)(Q:VK):List V->Prop
 |mk (x dx kl dl:Addr) (xs zs:List V) (ks:List (Str×Shp)) (c d:Str->Nat) (ds:List Dd) (hx:H x=some (.ins C dx [])) (hkl:H kl=some (.lst xs)) (hxs:HasL H xs (ks.map NZ)) (kk:KK 30 c d ks) (nd:(ks.map (·.1)).Nodup) (kg:KG ks) (tg:∀k∈ks,∃ts,k.2=.tags ts) (k0:0<ks.length) (k6:ks.length<=6) (hdl:H dl=some (.lst zs)) (hzs:HasL H zs (ds.map FZ)) (d0:0<ds.length) (d8:ds.length<=8) (wd:Wds 97 (ds.map λx=>x.1.1)) (ho:∀x∈ds,QK (ks.map (·.1)) c 50 x.1) (dok:∀x∈ds,DRt ks ds x)
  (q:∀H',(∀b o,b≠x->H b=some o->H' b=some o)->BI H' C CK x ks d ds->Q .non H'):SBN C CK H Q [.ref x,.ref kl,.ref dl]
def Sa(C CK:Addr):Sp:=λZ H Q _=>SBN C CK H Q Z
def AM(hm:m+1<=n)(L:BCl K C)(F:Fun K "__init__" "Book.__init__" Bg f fd)(T6:Mk K CK gi)(mC:mg "Kinds"=some (.ref CK))(GI:Ye P w K mg base CX0 m gi M2 ["self","told"] (BE CK))(bI:Binds K M2 ["self","told"] [])(m1:VJ K C "take_heads" g1)(G1:Ye P w K mg base CX0 n g1 d1 ["self","definitions"] (IW C CK))(b1:Binds K d1 ["self","definitions"] [])(m2:VJ K C "check_bodies" g2)(G2:Ye P w K mg base CX0 n g2 d2 ["self"] (Sb C CK))(b2:Binds K d2 ["self"] []):
  Ye P w K mg base CX0 (n+1) f fd ["self","kinds","definitions"] (Sa C CK):=by
 refine F.oi Ot λT9 A J2 s H vs Q E hr h=>?_;obtain⟨x,J,kl,dl,xs,zs,U,c,d,ds,hx,R3,R0,kk,nd,kg,tg,k0,k6,R5,O1,d0,d8,wd,ho,R6,q⟩:=h;have R1:Vu (m+1) _:=hr.mono hm;refine⟨_,YY (Va (pv 0) (Uc T6 GI R1 Y mC bI .nil Y4 (pa1<|pv 1)) rfl)
  (YY (Va (pv 0) JB rfl) (YY (Va (pv 0) JB rfl) (YY (Va (pv 0) JB rfl)
  (YY (VZ<|Y6 (pv 0) L.cl m1 G1 hr b1 .nil Y4<|pa1<|pv 2)
  (YZ<|VZ<|Vp (pv 0) L.cl m2 G2 hr b2 .nil Y4))))),?_⟩
 dsimp only[Vf,Cx.nox,Cx.wish];show let T0:=_;let T1:=Yl _ T0;let T2:=Yl _ T1;let T3:=Yl _ T2;let T4:=Yl _ T3;Yl _ T4 _ _ _
 intros
 refine λt R ht R4 T8=>?_;have tx:upd (upd H R<|.own t) t (.ins CK R []) t=some (.ins CK R []):=Yf;have l:Same H (upd (upd H R<|.own t) t<|.ins CK R []):=λb o e=>by rw[Yg (Yb e ht),Yg (Yb e R4)];exact e
 generalize upd (upd H R<|.own t) t (.ins CK R [])=H7 at tx l |-;have T7:x≠t:=Yb hx ht;refine⟨t,R,kl,xs,U,c,d,Y,tx,l _ _ R3,R0.mono l,kk,nd,kg,tg,k0,k6,λZ f8 G3=>⟨Y,?_⟩⟩;have s8:Same H Z:=λb o e=>f8 b o (Yb e ht)<|l b o e;have x8:=s8 _ _ hx;refine⟨x,C,J,_,Y,x8,L.cl,L.so,by decide,?_⟩;have u:upd Z x (.ins C J<|VU "sorts" (.ref t) []) x=some (.ins C J<|VU "sorts" (.ref t) []):=Yf;have i:∀b o,b≠x->Z b=some o->upd Z x (.ins C J<|VU "sorts" (.ref t) []) b=some o:=λb o n e=>by rw[Yg n];exact e
 generalize upd Z x (.ins C J<|VU "sorts" (.ref t) [])=H9 at u i |-;intro S B;refine⟨x,C,J,_,Y,by rw[Yg (Yb u B)];exact u,L.cl,L.td,(by show 1<1000;decide),?_⟩;obtain⟨r,a1,n1,r1⟩:=Jm (f:="told") (o:=.dK []) u B;generalize upd (upd H9 S<|.dK []) x (.ins C J<|VU "told" (.ref S)<|VU "sorts" (.ref t) [])=H1 at r a1 r1 |-;intro X O;refine⟨x,C,J,_,Y,by rw[Yg (Yb r O)];exact r,L.cl,L.rd,(by show 2<1000;decide),?_⟩;obtain⟨v,a2,n2,r2⟩:=Jm (f:="rows") (o:=.dK []) r O;generalize upd (upd H1 X<|.dK []) x (.ins C J<|VU "rows" (.ref X)<|VU "told" (.ref S)<|VU "sorts" (.ref t) [])=H2 at v a2 r2 |-;intro p3 j;refine⟨x,C,J,_,Y,by rw[Yg (Yb v j)];exact v,L.cl,L.tn,(by show 3<1000;decide),?_⟩;obtain⟨x3,a3,n3,a⟩:=Jm (f:="turns") (o:=.dK []) v j;generalize upd (upd H2 p3<|.dK []) x (.ins C J<|VU "turns" (.ref p3)<|VU "rows" (.ref X)<|VU "told" (.ref S)<|VU "sorts" (.ref t) [])=H3 at x3 a3 a |-
 let T:BA:=⟨x,J,t,S,X,p3⟩
 have M:∀{b:Addr}{o:HO},X1 Z x b=some o->b≠x/\Z b=some o:=λ{b o} h=>by
  unfold X1 at h
  by_cases e:b=x
  .rw [Zp e]at h;cases h
  .rw [Zq e]at h;exact⟨e,h⟩
 have fr:∀b o,b≠x->Z b=some o->H3 b=some o:=λb o n e=>a b o n<|r2 b o n<|r1 b o n<|i b o n e;have sm:Same (X1 Z x) H3:=λb o h=>fr b o (M h).1 (M h).2
 have free:∀p:Addr,(∀o,p≠x->Z p=some o->False)->X1 Z x p=none:=λp h=>by
  cases e:X1 Z x p with
  |none=>rfl
  |some o=>exact(h o (M e).1 (M e).2).elim
 have T5:=r2 _ _ n1 a1;have R8:=a _ _ n1 T5;have R7:=a _ _ n2 a2;have bb:BB (X1 Z x) H3 C CK T U d:=⟨x3,sm,G3.out x8,free S λo n e=>(by have:=i _ _ n e;rw[B]at this;cases this),free X λo n e=>(by have:=r1 _ _ n<|i _ _ n e;rw[O]at this;cases this),Yb a1 O,Zs n1,Zs n2⟩;have bt:BT H3 T [] [] U []:=⟨R8,R7,rfl,Z6,(λy hy=>nomatch hy),ZG _⟩;have D:∀{b:Addr}{o:HO},H b=some o->o≠.ins C J []->X1 Z x b=some o:=λ{b o} h n=>Bt (Jh h hx n)<|s8 _ _ h;have tl:TL H (X1 Z x):=⟨λb xs h=>D h (by intro z;cases z),λb xs h=>D h (by intro z;cases z)⟩;refine⟨_,_,x3,vA T,X1 Z x,T,dl,zs,U,c,d,ds,Y,bb,bt,kk,k6,D R5 (by intro z;cases z),HasL.tl tl _ O1,d0,d8,wd,ho,λH4 kv rv G I=>?_⟩;have k:BD H4 C CK T kv U d ds:=⟨G.ins,G.so.mono G.sm,I.td,I.ke,I.va,wd.nd⟩;refine⟨_,_,G.ins,vF T,T,kv,U,c,d,ds,k,kg,kk,k6,ho,R6,λH5 s5=>?_⟩;exact q H5 (λb o n e=>s5 _ _<|G.sm _ _<|Bt n<|s8 _ _ e) ⟨T,kv,rfl,k.mono s5⟩
end
end K4
namespace L2
open PySem
def Cm(R:(M.map λx:Dd=>x.1.1).Nodup)(h:x∈M):KY M x.1.1 N->N=x.1.2.1.map (·.1):=by
 rintro⟨y,O,e,rfl⟩;obtain⟨i,J⟩:=vp.mp h;obtain⟨j,Z⟩:=vp.mp O;have L:=(ZF.mp J).1;have G:=(ZF.mp Z).1;have n:=jc.mp R
 have:i=j:=by
  rcases kD i j with q|q|q
  .exact Zr (by rw[jJ,jJ,(ZF.mp J).2,(ZF.mp Z).2];exact e.symm) (n i j (by rw[ZA];exact L) (by rw[ZA];exact G) q)
  .exact q
  .exact Zr (by rw[jJ,jJ,(ZF.mp J).2,(ZF.mp Z).2];exact e) (n j i (by rw[ZA];exact G) (by rw[ZA];exact L) q)
 subst this;rw[J]at Z;cases Z
 rfl
def Wm(f:c∉cs)(h:XZ cs c n cs'):n=cs.length+1/\cs'=cs++[c]:=by
 rcases h with⟨k,G,_⟩|⟨_,J,Z⟩
 .exact Zr (ZJ G) f
 .exact ⟨J,Z⟩
def UP(b:Bd):b.at []=some b:=by unfold Bd.at;rfl
def WOk(bw:Bool)(S:WSt):Prop:=(bw=true->(∀e∈S.u,e.k∈S.r.map (·.1))/\S.r.length<=900/\S.wc<=9000)/\S.u.length<=9000
theorem Qj{β:Type}{x:Nat}:∀{r:List (Nat×β)},x∉r.map (·.1)->r.lookup x=none
 |[],_=>rfl
 |p::r,h=>by
  rw[vv,beq_eq_false_iff_ne.mpr λz=>h (by rw[z];exact Za)];exact Qj λz=>h<|ZM _ z
structure FP where
 ns:List Str
 tg:List Str
 kd:Str
 own:Str
 oth:Str
 lk:Nat->Bool
 wy:Nat->Nat
 en:Bool
def Y7(l:kQ)(j:Nat):Str:=(l[j]?).getD<|Str.ofString ""
def Vg{l:kQ}(h:j<l.length):l[j]?=some (Y7 l j):=by unfold Y7;rw[ZD h];rfl
def isC(R:FP)(j:Nat):Bool:=(R.en && decide (j+1=R.ns.length)) || R.lk j
def ltg(R:FP)(j:Nat):kQ:=if(R.en && decide (j+1=R.ns.length))=true then(List.range R.tg.length).map λi=>Y7 R.tg ((i+1) % R.tg.length)else R.tg
def lkB(R:FP)(j:Nat):Bd:=if isC R j=true then .choose (.name R.own) R.tg ((ltg R j).map Bd.tag)else .name R.own
abbrev nxF(R:FP)(j:Nat):Nat:=(j+1) % R.ns.length
def onB(R:FP)(j:Nat):Bd:=.ask (Y7 R.ns<|nxF R j) [lkB R j]
def unB(R:FP)(j:Nat):Bd:=if R.wy j=1 then .choose (onB R j) R.tg (R.tg.map Bd.tag)else if R.wy j=2 then .letb R.oth R.kd (onB R j) (.name R.oth)else onB R j
def brB(R:FP)(j i:Nat):Bd:=if i+1=R.tg.length/\j+1=R.ns.length then .name R.own else onB R j
def enB(R:FP)(j:Nat):Bd:=.choose (.name R.own) R.tg<|(List.range R.tg.length).map<|brB R j
def bdF(R:FP)(j:Nat):Bd:=if R.en=true then enB R j else unB R j
def ddF(R:FP)(j:Nat):Dd:=((Y7 R.ns j,[(R.own,R.kd)],R.kd),bdF R j)
def fds(R:FP):List Dd:=(List.range R.ns.length).map<|ddF R
structure FK(R:FP)(ds:List Dd):Prop where
 n1:1<=R.ns.length
 n8:R.ns.length<=8
 t1:1<=R.tg.length
 t4:R.tg.length<=4
 tn:R.tg.Nodup
 no:R.own≠R.oth
 fn:(ds.map λx=>x.1.1).Nodup
 mm:∀j,j<R.ns.length->ddF R j∈ds
 ok:∀x∈ds,x.2.ok
def X4:(ltg R j).length=R.tg.length:=by
 unfold ltg
 split
 .rw [ZA,vo]
 .rfl
def AZ(Z:R.tg.length<=4):(lkB R j).size<=6:=by
 unfold lkB
 split
 .have:∀l:kQ,Bd.sizes (l.map Bd.tag)=l.length:=λl=>by
   induction l with
   |nil=>simp[Bd.sizes]
   |cons a l ih=>rw[ZV];unfold Bd.sizes;rw[ih];simp[Bd.size];lia
  unfold Bd.size;rw[this,X4];simp only[Bd.size];lia
 .simp [Bd.size]
def MU(Z:R.tg.length<=4):(onB R j).size<=7:=by
 have:=AZ (R:=R) (j:=j) Z;unfold onB Bd.size Bd.sizes Bd.sizes;lia
def onS(R:FP)(F:Str)(num:Nat)(pl:kT)(ρ:Rho)(th:Tg)(j:Nat)(s:Ss):Ss:=
 if isC R j=true then(s.1++[(num,pl)]++[(num,pl++[0])],stP (stP s.2 (s.1.length+2) ⟨F,pl++[0],ρ⟩) (s.1.length+1) ⟨Y7 R.ns<|nxF R j,[],VP [R.own] [.cell (s.1.length+2)]⟩)
 else(s.1++[(num,pl)],stP s.2 (s.1.length+1) ⟨Y7 R.ns<|nxF R j,[],VP [R.own] [th]⟩)
def Qi(K:FK R B)(g:j<R.ns.length)(C:b.at pl=some (onB R j))(M:ρ R.own=some th0)(P:∀q:kT,((num,q):Mk1)∉s.1)(h:MCp B F ρ (λi=>TAp B F b num ρ (n+1)<|pl++[(i:Int)]) (onB R j) pl (s.1.length+1) (s.1++[(num,pl)],s.2) s2):s2=onS R F num pl ρ th0 j s:=by
 obtain⟨G,L,y,t,p,D⟩:=h;have U:nxF R j<R.ns.length:=vY _ (by have:=K.n1;lia);obtain rfl:=Cm K.fn (K.mm _ U) p;have I:Thr _ (0+1) _ G L:=t
 cases I with
 |snoc h e=>
  cases h;have N:b.at (pl++[((0:Nat):Int)])=some (lkB R j):=Bd.at_snoc pl C (by decide) rfl;have A:TAp B F b num ρ (n+1) (pl++[((0:Nat):Int)]) (s.1++[(num,pl)],s.2) _ L:=e;unfold TAp at A;obtain⟨c,Z,E⟩:=A;rw[N]at Z;unfold onS;unfold lkB at Z
  by_cases z:isC R j=true
  .rw [Zp z]at Z |-
   cases Z;obtain⟨m,Q,J,T,X⟩:=E
   obtain⟨rfl,rfl⟩:=Wm (λz=>by
    rcases ZX.mp z with q|q
    .exact P _ q
    .rw [ZQ]at q
     have S:=congrArg (λp:Mk1=>p.2.length) q;simp at S) J
   have O:L=_:=X;rw[D,O,T];rw[ZL,vc]
   rfl
  .rw [Zq z]at Z |-
   cases Z;obtain⟨J,T⟩:=E;rw[M]at J;cases J;rw[D,T]
   rfl
def IA(K:FK R E)(N:j<R.ns.length)(J:b.at pl=some (onB R j))(Z:ρ R.own=some th0)(L:∀q:kT,((num,q):Mk1)∉s.1)(h:TAp E F b num ρ (n+2) pl s th M):th=.cell (s.1.length+1)/\M=onS R F num pl ρ th0 j s:=by
 unfold TAp at h;obtain⟨c,G,D⟩:=h;rw[J]at G;cases G;obtain⟨I,A,B,T,O⟩:=D;obtain⟨rfl,rfl⟩:=Wm (L pl) B;exact⟨T,Qi K N J Z L O⟩
def Bx:(onS R F num pl ρ th j s).2 (s.1.length+1)=some ⟨Y7 R.ns<|nxF R j,[],VP [R.own] [if isC R j=true then .cell (s.1.length+2)else th]⟩:=by
 unfold onS
 split <;> (show stP _ (s.1.length+1) _ (s.1.length+1)=_;unfold stP;rw[Zp rfl])
def X2:s.1.length+1<=(onS R F num pl ρ th j s).1.length/\(onS R F num pl ρ th j s).1.length<=s.1.length+2:=by
 unfold onS
 split <;> simp <;> omega
def Bw(h:∀c∈s.1,c.1<=num):∀c∈(onS R F num pl ρ th j s).1,c.1<=num:=by
 intro c Z;unfold onS at Z
 split at Z
 .rcases ZX.mp Z with q|q
  .rcases ZX.mp q with q|q
   .exact h c q
   .rw [ZQ]at q;subst q;exact ZG _
  .rw [ZQ]at q;subst q;exact ZG _
 .rcases ZX.mp Z with q|q
  .exact h c q
  .rw [ZQ]at q;subst q;exact ZG _
def XH(x:Str)(Z:Tg):VP [x] [Z] x=some Z:=by simp[VP]
def MV(K:FK R M)(N:j<R.ns.length)(Z:∃G,ρ R.own=some G):OkT M ρ (n+2) (onB R j):=by
 have L:nxF R j<R.ns.length:=vY _ (by have:=K.n1;lia);unfold onB OkT;refine⟨⟨_,K.mm _ L,Y,Y,(by show 1<=3;decide),by simp[ddF]⟩,λa J=>?_⟩;rw[ZQ]at J;subst J;unfold lkB
 split
 .unfold OkT;trivial
 .unfold OkT;exact Z
def Cg(bw:Bool)(ds:List Dd)(gs:kQ)(mo:Nat)(x:Jp)(S:WSt)(Po:Jp->WSt->Prop):Prop:=∃j J Z,Wlk bw ds gs mo 8 j x S J Z/\Po J Z
def Cg.go(G:WOk bw S)(m:bw=true->k∉S.h.map (·.1)/\k∉S.r.map (·.1))(R:S.s.2 k=some sta)(hd:df∈J)(B:df.1.1=sta.f)(L:df.2.ok)(T:k<=S.s.1.length)(M:S.bg<mo)(g:Gos J gs sta.f df.2 k 8 j (.body sta.pl sta.ρ) [] S.s r l' Z)(N:S.s.1.length<=Z.1.length)(q:Cg bw J gs mo (.st r) {upW bw k S with u:=S.u++[⟨k,sta.f,df.2,l'⟩],bg:=S.bg+1,s:=Z} Po):Cg bw J gs mo (.st<|.want k) S Po:=by
 obtain⟨O,E,D,h,p⟩:=q;refine⟨O+1,E,D,?_,p⟩;unfold Wlk;exact⟨G.1,G.2,.new m<|.go sta df j r l' Z R hd B L T M g N h⟩
def Cg.dry(Z:WOk bw S)(m:bw=true->k∉S.h.map (·.1)/\k∉S.r.map (·.1))(e:S.bg=mo)(q:Po .dry (upW bw k S)):Cg bw J gs mo (.st<|.want k) S Po:=by
 refine⟨2,.dry,upW bw k S,?_,q⟩;unfold Wlk;exact⟨Z.1,Z.2,.new m<|.dry e ⟨rfl,rfl⟩⟩
def Cg.tkn(Z:WOk true S)(h:S.h.lookup k=some t)(q:Cg true G gs mo (.taken t) {S with wc:=S.wc+1} Po):Cg true G gs mo (.st<|.want k) S Po:=by
 obtain⟨J,M,L,g,p⟩:=q;refine⟨J+1,M,L,?_,p⟩;unfold Wlk;exact⟨Z.1,Z.2,.tkn Y t h g⟩
def Cg.head(J:S.u=u++[e])(n:bw=true->e.k∉S.h.map (·.1)/\S.h.length<=900)(q:Cg bw G gs mo (.taken t) (K4.upH bw e.k t {S with u:=u}) Po):Cg bw G gs mo (.st<|.head t) S Po:=by
 obtain⟨Z,M,L,g,p⟩:=q;refine⟨Z+1,M,L,?_,p⟩;unfold Wlk;exact⟨u,e,J,n,g⟩
def Cg.taken(M:S.u=u++[e])(g:Gos J gs e.F e.b e.k 8 m (.head t) e.l S.s r l' Z)(G:S.s.1.length<=Z.1.length)(q:Cg bw J gs mo (.st r) {S with u:=u++[{e with l:=l'}],s:=Z} Po):Cg bw J gs mo (.taken t) S Po:=by
 obtain⟨L,O,N,h,p⟩:=q;refine⟨L+1,O,N,?_,p⟩;unfold Wlk;exact .inr ⟨u,e,m,r,l',Z,M,g,G,h⟩
def Cg.fin(Z:S.u=[])(q:Po (.hd t) S):Cg bw J gs mo (.taken t) S Po:=by
 refine⟨1,.hd t,S,?_,q⟩;unfold Wlk;exact .inl ⟨Z,Y,Y⟩
def Aj(K:FK R X)(G:j<R.ns.length)(Z:ρ R.own=some th0)(N:∀q:kT,((k,q):Mk1)∉s.1)(t:s.1.length<=5000):
  ∃m B ρ' S,Gos X gs F (unB R j) k 8 m (.body [] ρ) [] s (.want<|s.1.length+1) S (onS R F k B ρ' th0 j s):=by
 have E:=MU (R:=R) (j:=j) K.t4;have Q:=K.t4
 have O:∀l:kQ,Bd.sizes (l.map Bd.tag)=l.length:=λl=>by
  induction l with
  |nil=>simp[Bd.sizes]
  |cons a l ih=>rw[ZV];unfold Bd.sizes;rw[ih];simp[Bd.size];lia
 by_cases z1:R.wy j=1
 .have e:unB R j=.choose (onB R j) R.tg (R.tg.map Bd.tag):=by unfold unB;rw[Zp z1]
  rw[e];have M:(Bd.choose (onB R j) R.tg<|R.tg.map Bd.tag).at ([]++[0])=some (onB R j):=Bd.at_snoc [] (UP _) (by decide) rfl;refine⟨_,[0],ρ,[(.choose (onB R j) R.tg<|R.tg.map Bd.tag,[],ρ)],.push (UP _) ?_ (by show 0+8<=400;decide) (by show 0<=400;decide)<|.ask M (MV K G ⟨_,Z⟩) (by show s.1.length+(onB R j).size<=9000;lia) (by show 1+8<=400;decide) (by show 1<=400;decide) (m:=1) λth D T=>?_⟩
  .unfold Bd.size
   rw[O];lia
  .obtain ⟨rfl,rfl⟩:=IA K G M Z N T
   exact .thC .stopW
 by_cases z2:R.wy j=2
 .have e:unB R j=.letb R.oth R.kd (onB R j) (.name R.oth):=by unfold unB;rw[Zq z1,Zp z2]
  rw[e];have M:(Bd.letb R.oth R.kd (onB R j)<|.name R.oth).at ([]++[0])=some (onB R j):=Bd.at_snoc [] (UP _) (by decide) rfl;have U:(Bd.letb R.oth R.kd (onB R j)<|.name R.oth).at ([]++[1])=some (.name R.oth):=Bd.at_snoc [] (UP _) (by decide) rfl;have J:∀L,UR ρ R.oth (.cell L) R.own=some th0:=λL=>by unfold UR;rw[Zq K.no];exact Z
  refine⟨_,[0],UR ρ R.oth<|.cell<|s.1.length+1,[],.letb (UP _) (by unfold onB;trivial) (λL=>MV K G ⟨_,J L⟩) ?_ (by show 0+8<=400;decide) (by show 0<=400;decide) (m:=2) λL P y A I=>?_⟩
  .unfold Bd.size
   simp only[Bd.size];lia
  .obtain ⟨rfl,rfl⟩:=Wm (N _) A
   have C:=Qi K G M (J _) N I;subst C;have z:=X2 (R:=R) (F:=F) (num:=k) (pl:=[]++[0]) (ρ:=UR ρ R.oth<|.cell<|s.1.length+1) (th:=th0) (j:=j) (s:=s);exact .name (th:=.cell<|s.1.length+1) U (by unfold UR;rw[Zp rfl]) (by lia) (by show 1+8<=400;decide) (by show 0<=400;decide)<|.thC .stopW
 .have e:unB R j=onB R j:=by unfold unB;rw[Zq z1,Zq z2]
  rw[e];refine⟨_,[],ρ,[],.ask (UP _) (MV K G ⟨_,Z⟩) (by show s.1.length+(onB R j).size<=9000;lia) (by show 0+8<=400;decide) (by show 0<=400;decide) (m:=1) λth D T=>?_⟩;obtain⟨rfl,rfl⟩:=IA K G (UP _) Z N T;exact .thC .stopW
structure UnE(bw:Bool)(S:WSt)(k:Nat):Prop where
 hk:k<=S.s.1.length
 hf:∀c∈S.s.1,c.1<k
 hl:S.s.1.length<=2*S.bg
 hu:S.u.length<=S.bg
 hh:S.h=[]
 ur:bw=true->∀e∈S.u,e.k∈S.r.map (·.1)
 rk:bw=true->∀p∈S.r,p.1<k
 rl:bw=true->S.r.length<=S.bg
 wl:bw=true->S.wc<=S.bg
def UnE.wo(u:UnE bw S k)(J:bw=true->S.bg<=500)(Z:S.bg<=2000):WOk bw S:=⟨λz=>⟨u.ur z,Zb (u.rl z)<|Zb (J z)<|by decide,Zb (u.wl z)<|Zb Z<|by decide⟩,Zb u.hu<|Zb Z<|by decide⟩
def UnE.nk(u:UnE bw S k):bw=true->k∉S.h.map (·.1)/\k∉S.r.map (·.1):=λz=>⟨by rw[u.hh];exact jH,λm=>by obtain⟨p,Z,e⟩:=ZW.mp m;exact Zr e<|Ze<|u.rk z p Z⟩
def QR:(upW bw k S).h=S.h:=by unfold upW;split <;> rfl
def Q8:(upW bw k S).bg=S.bg:=by unfold upW;split <;> rfl
theorem Iu(K:FK R y)(J:R.en=false)(E:Jp->WSt->Prop)(B:bw=true->mo<=500)(N:mo<=2000)(q:∀D:WSt,D.bg=mo->D.h=[]->E .dry D):∀(i j k:Nat)(S:WSt)(th:Tg),S.bg+i=mo->j<R.ns.length->S.s.2 k=some ⟨Y7 R.ns j,[],VP [R.own] [th]⟩->UnE bw S k->Cg bw y gs mo (.st<|.want k) S E
 |0,j,k,S,th,hi,hj,hs,u=>Cg.dry (u.wo (λz=>Zb (jF hi)<|B z)<|Zb (jF hi) N) u.nk hi<|q _ (Q8.trans hi)<|QR.trans u.hh
 |i+1,j,k,S,th,hi,hj,hs,u=>by
  have L:S.bg+1<=mo:=by lia
  have A:=Zb (jh L) N;have C:S.s.1.length<=5000:=Zb u.hl (Zb (Nat.mul_le_mul_left 2 A)<|by decide);have Q:bdF R j=unB R j:=by unfold bdF;rw[Zq (by rw[J];decide)]
  obtain⟨m,Z,ρ',X,g⟩:=Aj (gs:=gs) (F:=Y7 R.ns j) (s:=S.s) K hj (XH R.own th) (k:=k) (λq z=>Zr (u.hf _ z)<|vw _) C;rw[<-Q]at g;have G:=X2 (R:=R) (F:=Y7 R.ns j) (num:=k) (pl:=Z) (ρ:=ρ') (th:=th) (j:=j) (s:=S.s);refine Cg.go (df:=ddF R j) (u.wo (λz=>Zb (jh L)<|B z) A) u.nk hs (K.mm j hj) rfl (K.ok _<|K.mm j hj) u.hk L g (jh G.1) ?_;have I:nxF R j<R.ns.length:=vY _ K.n1;have U:∀c∈(onS R (Y7 R.ns j) k Z ρ' th j S.s).1,c.1<S.s.1.length+1:=λc T=>jU<|Zb (Bw (λc T=>Zh<|u.hf c T) c T) u.hk;refine Iu K J E B N q i (nxF R j) (S.s.1.length+1) _ _ (by show S.bg+1+i=mo;lia) I Bx ⟨G.1,U,Zb G.2<|Nat.add_le_add_right u.hl 2,by show(S.u++[_]).length<=S.bg+1;rw[ZL];exact vV u.hu,QR.trans u.hh,λz e J=>?_,λz p P=>?_,λz=>?_,λz=>?_⟩
  .subst z
   have O:e∈S.u++[⟨k,Y7 R.ns j,(ddF R j).2,X⟩]:=J;show e.k∈(S.r++[(k,Vb S.u)]).map (·.1);rw[ZK];rcases ZX.mp O with z|z
   .exact vm _ (u.ur rfl e z)
   .rw [ZQ]at z;subst z;exact ZU _<|ZQ.mpr rfl
  .subst z
   have M:p∈S.r++[(k,Vb S.u)]:=P;rcases ZX.mp M with z|z
   .exact jU (Zb (Zh<|u.rk rfl p z) u.hk)
   .rw [ZQ]at z;subst z;exact jU u.hk
  .subst z
   show(S.r++[(k,Vb S.u)]).length<=S.bg+1;rw[ZL];exact vV<|u.rl rfl
  .subst z
   exact vV<|u.wl rfl
def nxT(R:FP)(j t:Nat):Nat:=if(R.en && decide (j+1=R.ns.length))=true then(t+1) % R.tg.length else t
def AO(Z:1<=R.tg.length)(h:t<R.tg.length):nxT R j t<R.tg.length:=by
 unfold nxT
 split
 .exact vY _ (by lia)
 .exact h
def AY(h:t<R.tg.length):(ltg R j)[t]?=some (Y7 R.tg<|nxT R j t):=by
 unfold ltg nxT
 split
 .rw [ZH,jb h];rfl
 .exact Vg h
def Lm(Z:R.tg.length<=4):(enB R j).size<=30:=by
 have go:∀l:List Nat,Bd.sizes (l.map<|brB R j)<=7*l.length:=λl=>by
  induction l with
  |nil=>simp[Bd.sizes]
  |cons a l ih=>
   rw[ZV,Zf];unfold Bd.sizes
   have:(brB R j a).size<=7:=by
    unfold brB
    split
    .simp [Bd.size]
    .exact MU Z
   lia
 have:=go<|List.range R.tg.length;rw[vo]at this;unfold enB Bd.size;simp only[Bd.size];lia
def Ee{t:Nat}(h:t<R.tg.length):(enB R j).at ([]++[1+(t:Int)])=some (brB R j t):=by
 refine Bd.at_snoc [] (UP _) (by lia) ?_;show(_::_)[(1+(t:Int)).toNat]?=_;rw[show(1+(t:Int)).toNat=t+1 by lia];show((List.range R.tg.length).map<|brB R j)[t]?=_;rw[ZH,jb h]
 rfl
abbrev wE(R:FP)(j:Nat)(ρ:Rho):WEn:=(.choose (.name R.own) R.tg ((List.range R.tg.length).map (brB R j)),[],ρ)
def Lf{t:Nat}(K:FK R D)(L:j<R.ns.length)(G:t<R.tg.length)(T:¬(t+1=R.tg.length/\j+1=R.ns.length))(Z:ρ R.own=some th0)(B:∀q:kT,((k,q):Mk1)∉s.1)(I:s.1.length<=5000):
  Gos D gs F (enB R j) k 8 3 (.head<|Y7 R.tg t) [wE R j ρ] s (.want<|s.1.length+1) [] (onS R F k ([]++[1+(t:Int)]) ρ th0 j s):=by
 have N:=K.t4;have O:=MU (R:=R) (j:=j) N;have J:=Ee (R:=R) (j:=j) G;unfold brB at J;rw[Zq T]at J;refine .cho (l:=[]) K.tn (by lia) (by rw[ZA,vo]) (Vg G) (by show 0<=400;decide)<|.ask J (MV K L ⟨_,Z⟩) (by show s.1.length+(onB R j).size<=9000;lia) (by show 1+8<=400;decide) (by show 0<=400;decide) (m:=1) λE A M=>?_;obtain⟨rfl,rfl⟩:=IA K L J Z B M;exact .thC .stopW
def GZ{t:Nat}(K:FK R G)(M:j+1=R.ns.length)(L:t+1=R.tg.length)(Z:ρ R.own=some th0)(O:s.1.length<=5000)(g:Gos G gs F (enB R j) k 8 m (.thing th0) [] s r [] s):
  Gos G gs F (enB R j) k 8 (m+1+1) (.head<|Y7 R.tg t) [wE R j ρ] s r [] s:=by
 have N:=K.t4;have J:=Ee (R:=R) (j:=j) (t:=t) (by lia);unfold brB at J;rw[Zp ⟨L,M⟩]at J;exact .cho (l:=[]) K.tn (by lia) (by rw[ZA,vo]) (Vg<|by lia) (by show 0<=400;decide)<|.name J Z (by lia) (by show 1+8<=400;decide) (by show 0<=400;decide) g
def g1(K:FK R J)(Z:ρ R.own=some th0)(N:s.1.length<=5000)(g:Gos J gs F (enB R j) k 8 m (.thing th0) [wE R j ρ] s r l' L):Gos J gs F (enB R j) k 8 (m+1+1) (.body [] ρ) [] s r l' L:=by
 have G:=Lm (R:=R) (j:=j) K.t4;have M:(enB R j).at ([]++[0])=some (.name R.own):=Bd.at_snoc [] (UP _) (by decide) rfl;refine .push (UP _) ?_ (by show 0+8<=400;decide) (by show 0<=400;decide)<|.name M Z (by lia) (by show 1+8<=400;decide) (by show 1<=400;decide) g;unfold enB at G;lia
abbrev lkC(R:FP)(j:Nat):Bd:=.choose (.name R.own) R.tg ((ltg R j).map Bd.tag)
def Qk{b:Bd}{Z:kT}(c:isC R j=true)(J:b.at Z=some (lkB R j)):b.at Z=some (lkC R j):=by
 rw[J];unfold lkB;rw[Zp c]
def lk1{b:Bd}{Z:kT}(K:FK R L)(h:b.at Z=some (lkC R j))(T:Z.length<=2)(G:ρ R.own=some th0)(B:s.1.length<=5000)(g:Gos L gs F b k 8 m (.thing th0) [(lkC R j,Z,ρ)] s r l' M):Gos L gs F b k 8 (m+1+1) (.body Z ρ) [] s r l' M:=by
 have O:=K.t4;have N:b.at (Z++[0])=some (.name R.own):=Bd.at_snoc Z h (by decide) rfl
 have J:∀l:kQ,Bd.sizes (l.map Bd.tag)=l.length:=λl=>by
  induction l with
  |nil=>simp[Bd.sizes]
  |cons a l ih=>rw[ZV];unfold Bd.sizes;rw[ih];simp[Bd.size];lia
 refine .push h ?_ (by lia) (by show 0<=400;decide)<|.name N G (by lia) (by rw[ZL,vc];lia) (by show 1<=400;decide) g;unfold Bd.size;rw[J,X4];simp only[Bd.size];lia
def lk2{b:Bd}{Z:kT}{t:Nat}(K:FK R L)(h:b.at Z=some (lkC R j))(N:Z.length<=2)(J:t<R.tg.length)(O:s.1.length<=5000):Gos L gs F b k 8 2 (.head<|Y7 R.tg t) [(lkC R j,Z,ρ)] s (.head<|Y7 R.tg<|nxT R j t) [] s:=by
 have M:=K.t4
 have G:b.at (Z++[1+(t:Int)])=some (.tag<|Y7 R.tg<|nxT R j t):=by
  refine Bd.at_snoc Z h (by lia) ?_;show(_::_)[(1+(t:Int)).toNat]?=_;rw[show(1+(t:Int)).toNat=t+1 by lia];show((ltg R j).map Bd.tag)[t]?=_;rw[ZH,AY J]
  rfl
 exact .cho (l:=[]) K.tn (by lia) (by rw[ZA,X4]) (Vg J) (by lia)<|.tag G (by lia) (by rw[ZL,vc];lia) (by show 0<=400;decide) .stopH
inductive Vl(R:FP)(st:Nat->Option Sta)(m:Nat):Tg->Nat->Prop
 |giv:Vl R st m (.giv 0) 0
 |cell {j q t:Nat}{pl:List Int}{ρ:Rho}{th:Tg}(hj:j<R.ns.length) (hs:st q=some ⟨Y7 R.ns j,pl,ρ⟩) (hq:q<=m) (p2:pl.length<=2) (hb:(bdF R j).at pl=some (lkB R j)) (c:isC R j=true) (hρ:ρ R.own=some th) (v:Vl R st m th t):Vl R st m (.cell q) (nxT R j t)
def Vl.lt(Z:1<=R.tg.length)(v:Vl R st m th t):t<R.tg.length:=by
 induction v with
 |giv=>exact Z
 |cell _ _ _ _ _ _ _ _ ih=>exact AO Z ih
def Vl.mono(v:Vl R st m th t)(h:∀q x,st q=some x->st' q=some x)(O:m<=m'):Vl R st' m' th t:=by
 induction v with
 |giv=>exact .giv
 |cell L G N J M c Z v ih=>exact .cell L (h _ _ G) (by lia) J M c Z ih
abbrev g0(R:FP):kQ:=[Y7 R.tg 0]
def Xo(h:S.u.length<=9000):WOk false S:=⟨λz=>(by cases z),h⟩
def Da(K:FK R Q)(i:mo<=2000)(I:Jp->WSt->Prop)(p:∀o,I .dry o)(v:Vl R st m C t):∀(q:Nat)(S:WSt),C=.cell q->S.s.2=st->m<=S.s.1.length->S.s.1.length<=5000->S.u.length<=S.bg->S.bg<=mo->
  (∀J:WSt,J.s=S.s->J.u=S.u->S.bg<=J.bg->J.bg<=mo->Cg false Q (g0 R) mo (.taken<|Y7 R.tg t) J I)->Cg false Q (g0 R) mo (.st<|.want q) S I:=by
 induction v with
 |giv=>intro q S e;cases e
 | @cell j g t B ρ C O X P N u c L v ih=>
  intro q S e D E G d f k;cases e;have U:=v.lt K.t1;have T:S.u.length<=9000:=by lia
  have y:∀e:UE,(S.u++[e]).length<=S.bg+1:=λe=>by rw[ZL];exact vV d
  have Z:=Qk c u
  by_cases z:S.bg=mo
  .exact Cg.dry (Xo T) (λz=>by cases z) z (p _)
  have bl:S.bg+1<=mo:=qY f z
  cases v with
  |giv=>
   refine Cg.go (sta:=⟨Y7 R.ns j,B,ρ⟩) (df:=ddF R j) (Xo T) (λz=>by cases z) (by rw[D];exact X) (K.mm j O) Y (K.ok _<|K.mm j O) (Zb P E) bl (lk1 K Z N L G<|.thG rfl (lk2 K Z N U G)) (ZG _) ?_;refine Cg.head Y (λz=>by cases z) ?_;exact k _ Y Y (qh _) bl
  |cell=>
   refine Cg.go (sta:=⟨Y7 R.ns j,B,ρ⟩) (df:=ddF R j) (Xo T) (λz=>by cases z) (by rw[D];exact X) (K.mm j O) Y (K.ok _<|K.mm j O) (Zb P E) bl (lk1 K Z N L G<|.thC .stopW) (ZG _) ?_;refine ih _ _ Y D E G (y _) bl λJ b l r w=>?_;have A:J.u=S.u++[⟨g,Y7 R.ns j,(ddF R j).2,[(lkC R j,B,ρ)]⟩]:=l;have F:S.bg+1<=J.bg:=r;have M:J.s=S.s:=b;refine Cg.taken A (lk2 K Z N U (by rw[M];exact G)) (ZG _)<|Cg.head rfl (λz=>by cases z) ?_;exact k _ M Y (jh F) w
theorem Q9(Z:Jp->WSt->Prop)(J:∀N,Z (.hd t) N):∀(n:Nat)(S:WSt),S.u.length=n->(∀e∈S.u,e.l=[])->Cg false O gs mo (.taken t) S Z
 |0,S,h,_=>Cg.fin (vg h)<|J _
 |n+1,S,h,hl=>by
  have G:S.u≠[]:=λz=>by rw[z]at h;cases h
  have e:=(vf G).symm;have M:=hl _<|kL G;refine Cg.taken e (by rw[M];exact .stopH) (ZG _)<|Cg.head rfl (λz=>by cases z) ?_;exact Q9 Z J n _ (by show S.u.dropLast.length=n;rw[jf,h];rfl) λe L=>hl e<|List.dropLast_subset _ L
def NY(O:j<N)(M:t<T)(h:t*N+j+0+1=T*N):t+1=T/\j+1=N:=by
 have L:(t+1)*N<=T*N:=qI N (by lia:t+1<=T);rw[jI]at L;have J:j+1=N:=by lia
 refine⟨?_,J⟩;have G:(t+1)*N=T*N:=by rw[jI];lia
 exact Nat.eq_of_mul_eq_mul_right (by lia) G
def MZ(h:t*N+j+(i+1)+1=T*N):¬(t+1=T/\j+1=N):=by
 rintro⟨rfl,rfl⟩;rw[jI]at h;lia
def B8(N t j:Nat):Nat:=if j+1=N then t+1 else t
def NX(G:j<N)(J:t<T)(h:t*N+j+(i+1)+1=T*N):B8 N t j*N+(j+1) % N+i+1=T*N/\B8 N t j<T:=by
 have Z:=MZ h;unfold B8
 by_cases z:j+1=N
 .rw [Zp z,z,Nat.mod_self,jI]
  refine⟨by lia,?_⟩;have:t+1≠T:=λq=>Z ⟨q,z⟩;lia
 .rw [Zq z,qm (by lia)]
  exact⟨by lia,J⟩
def EJ(Z:R.en=true)(h:¬(t+1=R.tg.length/\j+1=R.ns.length))(J:t<R.tg.length):nxT R j t=B8 R.ns.length t j:=by
 unfold nxT B8;rw[Z,Bool.true_and]
 by_cases z:j+1=R.ns.length
 .rw [Zp (decide_eq_true z),Zp z]
  have:t+1≠R.tg.length:=λq=>h ⟨q,z⟩;exact qm<|by lia
 .rw [Zq (by rw[Zy z];decide),Zq z]
def PM(Z:∀q,s.1.length<q->s.2 q=none):∀q x,s.2 q=some x->(onS R F num pl ρ th j s).2 q=some x:=by
 intro q x h;have J:q<=s.1.length:=jG λz=>by rw[Z q z]at h;cases h
 unfold onS
 split
 .show stP _ _ _ q=_
  unfold stP;rw[Zq (by lia),Zq (by lia)];exact h
 .show stP _ _ _ q=_
  unfold stP;rw[Zq (by lia)];exact h
def NM(Z:∀q,s.1.length<q->s.2 q=none):∀q,(onS R F num pl ρ th j s).1.length<q->(onS R F num pl ρ th j s).2 q=none:=by
 intro q h;unfold onS at h |-
 split at h
 .rename_i z
  rw[Zp z];rw[ZL,ZL,vc]at h;show stP _ _ _ q=_;unfold stP;rw[Zq (by simp at h;lia),Zq (by simp at h;lia)];exact Z q (by simp at h;lia)
 .rename_i z
  rw[Zq z];rw[ZL,vc]at h;show stP _ _ _ q=_;unfold stP;rw[Zq (by lia)];exact Z q<|by lia
def ON(K:FK R A)(O:R.en=true)(B:j<R.ns.length)(N:t<R.tg.length)(M:¬(t+1=R.tg.length/\j+1=R.ns.length))(T:∀q,s.1.length<q->s.2 q=none)(J:ρ R.own=some th)(v:Vl R s.2 s.1.length th t):
  Vl R (onS R (Y7 R.ns j) k ([]++[1+(t:Int)]) ρ th j s).2 (onS R (Y7 R.ns j) k ([]++[1+(t:Int)]) ρ th j s).1.length (if isC R j=true then .cell (s.1.length+2)else th) (B8 R.ns.length t j):=by
 have E:=X2 (R:=R) (F:=Y7 R.ns j) (num:=k) (pl:=[]++[1+(t:Int)]) (ρ:=ρ) (th:=th) (j:=j) (s:=s);have L:=v.mono (PM (R:=R) (F:=Y7 R.ns j) (num:=k) (pl:=[]++[1+(t:Int)]) (ρ:=ρ) (th:=th) (j:=j) T) (by lia:s.1.length<=(onS R (Y7 R.ns j) k ([]++[1+(t:Int)]) ρ th j s).1.length);rw[<-EJ O M N]
 by_cases c:isC R j=true
 .rw [Zp c]
  have G:=Ee (R:=R) (j:=j) N;unfold brB at G;rw[Zq M]at G
  have D:(bdF R j).at ([]++[1+(t:Int)]++[0])=some (lkB R j):=by
   unfold bdF;rw[Zp O];exact Bd.at_snoc _ G (by decide) Y
  refine .cell B ?_ ?_ (by show 2<=2;decide) D c J L
  .unfold onS
   rw[Zp c];show stP _ _ _ _=_;unfold stP;rw[Zq (by lia),Zp rfl]
  .unfold onS
   rw[Zp c];simp
 .rw [Zq c]
  have:nxT R j t=t:=by
   unfold nxT;rw[Zq];intro z;unfold isC at c;rw[z]at c;exact c Y
  rw[this];exact L
def zi(K:FK R ds)(n:R.en=true)(o:mo<=2000)(T:Jp->WSt->Prop)(P:∀SR,T .dry SR)(pw:∀SR,T (.hd<|Y7 R.tg<|R.tg.length-1) SR):∀(i t j k:Nat)(th:Tg)(S:WSt),t*R.ns.length+j+i+1=R.tg.length*R.ns.length->j<R.ns.length->t<R.tg.length->S.s.2 k=some ⟨Y7 R.ns j,[],VP [R.own] [th]⟩->Vl R S.s.2 S.s.1.length th t->k<=S.s.1.length->(∀c∈S.s.1,c.1<k)->S.s.1.length<=2*S.bg->S.u.length<=S.bg->S.bg<=mo->(∀q,S.s.1.length<q->S.s.2 q=none)->(∀e∈S.u,e.l=[])->Cg false ds (g0 R) mo (.st<|.want k) S T:=by
 intro i
 induction i with
 |zero=>
  intro t j k th S f L I y v U h hl l a b d;obtain⟨tt,jn⟩:=NY L I f;have lt:Y7 R.tg t=Y7 R.tg (R.tg.length-1):=by rw[show R.tg.length-1=t by lia]
  have J:VP [R.own] [th] R.own=some th:=XH _ _;have D:bdF R j=enB R j:=by unfold bdF;rw[Zp n]
  have M:S.s.1.length<=5000:=by lia
  have B:S.u.length<=9000:=by lia
  have X:∀e:UE,(S.u++[e]).length<=S.bg+1:=λe=>by rw[ZL];exact vV l
  by_cases z:S.bg=mo
  .exact Cg.dry (Xo B) (λz=>by cases z) z (P _)
  have bl:S.bg+1<=mo:=qY a z
  have x:∀(Z:WSt),Z.u=S.u++[⟨k,Y7 R.ns j,(ddF R j).2,[]⟩]->Cg false ds (g0 R) mo (.taken<|Y7 R.tg t) Z T:=λZ eu=>by
   rw[lt];refine Q9 T pw _ Z Y λe N=>?_;rw[eu]at N;rcases ZX.mp N with q|q
   .exact d e q
   .rw [ZQ]at q;subst q;rfl
  have p:=v
  cases v with
  |giv=>
   refine Cg.go (df:=ddF R j) (Xo B) (λz=>by cases z) y (K.mm j L) Y (K.ok _<|K.mm j L) U bl (by show Gos _ _ _ (bdF R j) _ _ _ _ _ _ _ _ _;rw[D];exact g1 K J M<|.thG rfl (GZ K jn tt J M<|.thG rfl .stopH)) (ZG _) ?_;refine Cg.head Y (λz=>by cases z) ?_;rw[lt];exact Q9 T pw _ _ Y d
  | @cell _ q=>
   refine Cg.go (df:=ddF R j) (Xo B) (λz=>by cases z) y (K.mm j L) Y (K.ok _<|K.mm j L) U bl (by show Gos _ _ _ (bdF R j) _ _ _ _ _ _ _ _ _;rw[D];exact g1 K J M<|.thC .stopW) (ZG _) ?_;refine Da K o T P p _ _ Y Y (ZG _) M (X _) bl λZ O C g m=>?_;have G:Z.s=S.s:=O;have A:Z.u=S.u++[⟨k,Y7 R.ns j,(ddF R j).2,[wE R j (VP [R.own] [.cell q])]⟩]:=C;have E:S.bg+1<=Z.bg:=g;refine Cg.taken A (by show Gos _ _ _ (bdF R j) _ _ _ _ _ _ _ _ _;rw[D];exact GZ K jn tt J (by rw[G];exact M)<|.thC .stopW) (ZG _) ?_;refine Da K o T P p _ _ Y (by show Z.s.2=S.s.2;rw[G]) (by show _<=Z.s.1.length;rw[G];exact ZG _) (by show Z.s.1.length<=5000;rw[G];exact M) (Zb (X _) E) m λS2 f1 f2 f3 f4=>x S2 f2
 |succ i ih=>
  intro t j k th S f L I y v U h hl l a b d;have r:=MZ f;obtain⟨n1,n2⟩:=NX L I f;have jl:nxF R j<R.ns.length:=vY _ (by have:=K.n1;lia);have J:VP [R.own] [th] R.own=some th:=XH _ _;have D:bdF R j=enB R j:=by unfold bdF;rw[Zp n]
  have M:S.s.1.length<=5000:=by lia
  have B:S.u.length<=9000:=by lia
  have X:∀e:UE,(S.u++[e]).length<=S.bg+1:=λe=>by rw[ZL];exact vV l
  by_cases z:S.bg=mo
  .exact Cg.dry (Xo B) (λz=>by cases z) z (P _)
  have bl:S.bg+1<=mo:=qY a z;have fr:∀q:kT,((k,q):Mk1)∉S.s.1:=λq z=>by have:=h _ z;exact Zr this<|vw _
  have w:=X2 (R:=R) (F:=Y7 R.ns j) (num:=k) (pl:=[]++[1+(t:Int)]) (ρ:=VP [R.own] [th]) (th:=th) (j:=j) (s:=S.s)
  have Q:∀(Z:WSt),Z.s=onS R (Y7 R.ns j) k ([]++[1+(t:Int)]) (VP [R.own] [th]) th j S.s->Z.u=S.u++[⟨k,Y7 R.ns j,(ddF R j).2,[]⟩]->S.bg+1<=Z.bg->Z.bg<=mo->Cg false ds (g0 R) mo (.st<|.want<|S.s.1.length+1) Z T:=λZ O C g m=>by
   refine ih _ _ _ _ Z n1 jl n2 (by rw[O];exact Bx) (by rw[O];exact ON K n L I r b J v) (by rw[O];exact w.1) (λc u=>?_) (by rw[O];lia) (by rw[C];exact Zb (X _) g) m (by rw[O];exact NM b) λe N=>?_
   .rw [O]at u
    exact jU<|Zb (Bw (λc u=>Zh<|h c u) c u) U
   .rw [C]at N
    rcases ZX.mp N with q|q
    .exact d e q
    .rw [ZQ]at q;subst q;rfl
  have p:=v
  cases v with
  |giv=>
   refine Cg.go (df:=ddF R j) (Xo B) (λz=>by cases z) y (K.mm j L) Y (K.ok _<|K.mm j L) U bl (by show Gos _ _ _ (bdF R j) _ _ _ _ _ _ _ _ _;rw[D];exact g1 K J M<|.thG rfl (Lf K L I r J fr M)) (jh w.1) ?_;exact Q _ Y Y (ZG _) bl
  | @cell _ q=>
   refine Cg.go (df:=ddF R j) (Xo B) (λz=>by cases z) y (K.mm j L) Y (K.ok _<|K.mm j L) U bl (by show Gos _ _ _ (bdF R j) _ _ _ _ _ _ _ _ _;rw[D];exact g1 K J M<|.thC .stopW) (ZG _) ?_;refine Da K o T P p _ _ Y Y (ZG _) M (X _) bl λZ O C g m=>?_;have G:Z.s=S.s:=O;have A:Z.u=S.u++[⟨k,Y7 R.ns j,(ddF R j).2,[wE R j (VP [R.own] [.cell q])]⟩]:=C;have E:S.bg+1<=Z.bg:=g;refine Cg.taken A (by show Gos _ _ _ (bdF R j) _ _ _ _ _ _ _ _ _;rw[D,G];exact Lf K L I r J fr M) (by rw[G];exact jh w.1) ?_;exact Q _ Y Y E m
def DH:Option Mk1->Bool
 |some (_,[x])=>decide<|0<x
 |_=>false
def isA(cs:List Mk1):Nat->Bool
 |0=>true
 |k+1=>DH cs[k]?
def RJ(Z:List Mk1)(k:Nat):isA Z (k+1)=DH Z[k]?:=rfl
def EX(h:k<=cs.length):isA (cs++ Z) k=isA cs k:=by
 cases k with
 |zero=>rfl
 |succ k=>rw[RJ,RJ,vd (by lia)]
def EW(h:k<=s.1.length):isA (onS R F num pl ρ th j s).1 k=isA s.1 k:=by
 unfold onS
 split
 .show isA (s.1++[(num,pl)]++[(num,pl++[0])]) k=_
  rw[jS];exact EX h
 .exact EX h
def Pr{t:Nat}:isA (onS R F num ([]++[1+(t:Int)]) ρ th j s).1 (s.1.length+1)=true:=by
 unfold onS
 split
 .show isA (s.1++[_]++[_]) _=true
  rw[RJ,jS,vb<|ZG _,vk];show decide ((0:Int)<1+(t:Int))=true;exact decide_eq_true<|by lia
 .show isA (s.1++[_]) _=true
  rw[RJ,vb<|ZG _,vk];show decide ((0:Int)<1+(t:Int))=true;exact decide_eq_true<|by lia
def Pq{t:Nat}(c:isC R j=true):isA (onS R F num ([]++[1+(t:Int)]) ρ th j s).1 (s.1.length+2)=false:=by
 unfold onS;rw[Zp c];show isA (s.1++[_]++[_]) _=false;rw[RJ,vb (by simp)];simp[DH]
def Kn(R:FP)(h:List (Nat×Str))(th:Tg)(t:Nat):Prop:=(th=.giv 0/\t=0) \/ ∃q,th=.cell q/\h.lookup q=some (Y7 R.tg t)
structure Nw(R:FP)(S:WSt)(q j t k:Nat)(pl:List Int)(ρ:Rho)(th:Tg):Prop where
 hj:j<R.ns.length
 ht:t<R.tg.length
 hs:S.s.2 q=some ⟨Y7 R.ns j,pl,ρ⟩
 p2:pl.length<=2
 hb:(bdF R j).at pl=some (lkB R j)
 c:isC R j=true
 hρ:ρ R.own=some th
 kn:Kn R S.h th t
 hq:q<=S.s.1.length
 nr:q∉S.r.map (·.1)
 nk:q≠k
 na:isA S.s.1 q=false
structure WI(S:WSt)(a:Nat):Prop where
 rk:∀p∈S.r,p.1<=S.s.1.length/\∀j,p.2=some j->j<=S.s.1.length
 hr:∀x∈S.h.map (·.1),x∈S.r.map (·.1)
 ur:∀e∈S.u,e.k∈S.r.map (·.1)
 un:(S.u.map (·.k)).Nodup
 ua:∀e∈S.u,isA S.s.1 e.k=true
 ul:∀e∈S.u,e.l=[]
 ha:∀x∈S.h.map (·.1),isA S.s.1 x=false
 u:S.u.length=a
 l1:S.s.1.length<=2*a
 l2:S.r.length<=2*a
 l3:S.h.length<=a
 l4:S.wc<=4*a
 l5:S.bg<=2*a
def NW{u:List UE}(h:Vb u=some j):∃e∈u,e.k=j:=by
 unfold Vb at h
 cases e:u.getLast? with
 |none=>rw[e]at h;cases h
 |some x=>
  rw[e]at h;cases h;exact⟨x,List.mem_of_getLast? e,Y⟩
theorem lookup_mem{β:Type}{k:Nat}:∀{r:List (Nat×β)},k∈r.map (·.1)->∃o,r.lookup k=some o/\(k,o)∈r
 |[],h=>by cases h
 |p::r,h=>by
  rw[vv]
  by_cases z:k=p.1
  .subst z
   rw[beq_self_eq_true];exact⟨_,Y,Za⟩
  .rw [beq_eq_false_iff_ne.mpr z]
   rcases Zd.mp h with q|q
   .exact Zr q z
   .obtain ⟨o,h1,h2⟩:=lookup_mem q
    exact⟨o,h1,ZM _ h2⟩
def A1(i:WI S a)(h:a<=40):WOk true S:=⟨λ_=>⟨i.ur,by have:=i.l2;lia,by have:=i.l4;lia⟩,by have:=i.u;lia⟩
structure A5(S S':WSt)(a:Nat):Prop where
 rk:∀p∈S'.r,p.1<=S.s.1.length/\∀j,p.2=some j->j<=S.s.1.length
 hr:∀x∈S'.h.map (·.1),x∈S'.r.map (·.1)
 ur:∀e∈S'.u,e.k∈S'.r.map (·.1)
 ha:∀x∈S'.h.map (·.1),isA S.s.1 x=false
 l3:S'.h.length<=a+1
structure Aw(R:FP)(S S':WSt)(a:Nat)(th:Tg)(t:Nat):Prop extends A5 S S' a where
 l2:S'.r.length<=2*a+2
 l4:S'.wc<=4*a+4
 l5:S'.bg<=2*a+2
 kn:Kn R S'.h th t
def AV(K:FK R Q)(he:R.en=true)(hm:400<=mo)(Po:Jp->WSt->Prop)(i:WI S a)(a4:a<=40)(X:j<R.ns.length)(ht:t<R.tg.length)(hs:S.s.2 k=some ⟨Y7 R.ns j,[],VP [R.own] [th]⟩)(hk:k<=S.s.1.length)(kr:k∉S.r.map (·.1))(v:Kn R S.h th t \/ ∃q N t' f ρ' d,th=.cell q/\t=nxT R N t'/\Nw R S q N t' k f ρ' d)(g:Gos Q (g0 R) (Y7 R.ns j) (enB R j) k 8 m (.head<|Y7 R.tg t) [wE R j (VP [R.own] [th])] S.s r [] y)(ls:S.s.1.length<=y.1.length)(q:∀G:WSt,G.s=y->G.u=S.u++[⟨k,Y7 R.ns j,bdF R j,[]⟩]->Aw R S G a th t->Cg true Q (g0 R) mo (.st r) G Po):Cg true Q (g0 R) mo (.st<|.want k) S Po:=by
 have l1:=i.l1;have l2:=i.l2;have l3:=i.l3;have l4:=i.l4;have l5:=i.l5;have lu:=i.u;have eb:bdF R j=enB R j:=by unfold bdF;rw[Zp he]
 have U:VP [R.own] [th] R.own=some th:=XH _ _;have kh:k∉S.h.map (·.1):=λz=>kr<|i.hr _ z;have I:S.s.1.length<=5000:=by lia
 have A:∀p∈S.r++[(k,Vb S.u)],p.1<=S.s.1.length/\∀j,p.2=some j->j<=S.s.1.length:=λp C=>by
  rcases ZX.mp C with z|z
  .exact i.rk p z
  .rw [ZQ]at z
   subst z;refine⟨hk,λj X=>?_⟩;obtain⟨e,J,rfl⟩:=NW X;obtain⟨p,C,L⟩:=ZW.mp<|i.ur e J;have:=(i.rk p C).1;lia
 have M:∀{x:Nat},x∈S.r.map (·.1)->x∈(S.r++[(k,Vb S.u)]).map (·.1):=λh=>by rw[ZK];exact vm _ h
 have n:k∈(S.r++[(k,Vb S.u)]).map (·.1):=by rw[ZK];exact ZU _<|ZQ.mpr rfl
 have O:∀l',∀e∈S.u++[⟨k,Y7 R.ns j,bdF R j,l'⟩],e.k∈(S.r++[(k,Vb S.u)]).map (·.1):=λl' e h=>by
  rcases ZX.mp h with z|z
  .exact M (i.ur e z)
  .rw [ZQ]at z;subst z;exact n
 have G1:(S.r++[(k,Vb S.u)]).length<=2*a+1:=by rw[ZL,vc];lia
 have go:=λ(m:Nat)(r:Stp)(l':List WEn)(y:Ss)(g:Gos Q (g0 R) (Y7 R.ns j) (enB R j) k 8 m (.body []<|VP [R.own] [th]) [] S.s r l' y)(ls:S.s.1.length<=y.1.length)(qq:Cg true Q (g0 R) mo (.st r) {upW true k S with u:=S.u++[⟨k,Y7 R.ns j,bdF R j,l'⟩],bg:=S.bg+1,s:=y} Po)=>
  Cg.go (sta:=⟨Y7 R.ns j,[],VP [R.own] [th]⟩) (df:=ddF R j) (mo:=mo) (Po:=Po) (A1 i a4) (λ_=>⟨kh,kr⟩) hs (K.mm j X) rfl (K.ok _<|K.mm j X) hk (by lia) (by show Gos _ _ _ (bdF R j) _ _ _ _ _ _ _ _ _;rw[eb];exact g) ls qq
 have tk:∀(G:WSt),G.s=S.s->G.u=S.u++[⟨k,Y7 R.ns j,bdF R j,[wE R j (VP [R.own] [th])]⟩]->Aw R S G a th t->Cg true Q (g0 R) mo (.taken<|Y7 R.tg t) G Po:=λG T L w=>by
  refine Cg.taken L (by show Gos _ _ _ (bdF R j) _ _ _ _ _ _ _ _ _;rw[eb,T];exact g) (by rw[T];exact ls) ?_;refine q _ Y Y {w with ur:=λe J=>?_};have P:e∈S.u++[⟨k,Y7 R.ns j,bdF R j,[]⟩]:=J;rcases ZX.mp P with z|z
  .exact w.ur e (by rw[L];exact vm _ z)
  .rw [ZQ]at z
   subst z;exact w.ur ⟨k,Y7 R.ns j,bdF R j,[wE R j (VP [R.own] [th])]⟩ (by rw[L];exact ZU _<|ZQ.mpr rfl)
 rcases v with v|⟨Z,N,t',f,ρ',d,e0,et,w⟩
 .rcases id v with⟨T,L⟩|⟨Z,T,L⟩
  .subst T L
   refine go _ _ _ _ (g1 K U I<|.thG rfl g) ls ?_;exact q _ Y Y ⟨⟨A,λ(x:Nat) D=>M<|i.hr x D,O _,i.ha,jg l3⟩,jg G1,by show S.wc+1<=_;lia,by show S.bg+1<=_;lia,v⟩
  .subst T
   refine go _ _ _ _ (g1 K U I<|.thC .stopW) (ZG _) ?_;refine Cg.tkn ⟨λ_=>⟨O _,by show(S.r++[(k,Vb S.u)]).length<=900;lia,by show S.wc+1<=9000;lia⟩,by show(S.u++[_]).length<=9000;rw[ZL,vc];lia⟩ L ?_;exact tk _ Y Y ⟨⟨A,λ(x:Nat) D=>M<|i.hr x D,O _,i.ha,jg l3⟩,jg G1,by show S.wc+1+1<=_;lia,by show S.bg+1<=_;lia,v⟩
 .subst e0
  refine go _ _ _ _ (g1 K U I<|.thC .stopW) (ZG _) ?_;have E:=Qk w.c w.hb
  have l:Z∉(S.r++[(k,Vb S.u)]).map (·.1):=λz=>by
   rw[ZK]at z;rcases ZX.mp z with z|z
   .exact w.nr z
   .exact w.nk (ZQ.mp z)
  have b:Z∉S.h.map (·.1):=λz=>w.nr<|i.hr _ z
  have G2:∀o,(o=Vb (S.u++[(⟨k,Y7 R.ns j,bdF R j,[wE R j (VP [R.own] [.cell Z])]⟩:UE)]))->∀p∈S.r++[(k,Vb S.u)]++[(Z,o)],p.1<=S.s.1.length/\∀j,p.2=some j->j<=S.s.1.length:=λo eo p C=>by
   rcases ZX.mp C with z|z
   .exact A p z
   .rw [ZQ]at z
    subst z;refine⟨w.hq,λj X=>?_⟩;rw[eo]at X;obtain⟨e,J,rfl⟩:=NW X;rcases ZX.mp J with z|z
    .obtain ⟨p,C,L⟩:=ZW.mp<|i.ur e z
     have:=(i.rk p C).1;lia
    .rw [ZQ]at z;subst z;exact hk
  let S1:WSt:={upW true k S with u:=S.u++[⟨k,Y7 R.ns j,bdF R j,[wE R j (VP [R.own] [.cell Z])]⟩],bg:=S.bg+1,s:=S.s}
  have c:WOk true S1:=⟨λ_=>⟨O _,by show(S.r++[(k,Vb S.u)]).length<=900;lia,by show S.wc+1<=9000;lia⟩,by show(S.u++[_]).length<=9000;rw[ZL,vc];lia⟩;have B:∀{x:Nat}{o:Option Nat},x∈(S.r++[(k,Vb S.u)]).map (·.1)->x∈(S.r++[(k,Vb S.u)]++[(Z,o)]).map (·.1):=λh=>by rw[ZK];exact vm _ h
  have F:∀{o:Option Nat},Z∈(S.r++[(k,Vb S.u)]++[(Z,o)]).map (·.1):=by
   intro o;rw[ZK];exact ZU _<|ZQ.mpr rfl
  have J2:∀o:Option Nat,(S.r++[(k,Vb S.u)]++[(Z,o)]).length<=2*a+2:=λo=>by rw[ZL,vc];lia
  have end_:∀(G:WSt)(o:Option Nat),G.s=S.s->G.u=S.u++[⟨k,Y7 R.ns j,bdF R j,[wE R j (VP [R.own] [.cell Z])]⟩]->o=Vb (S.u++[(⟨k,Y7 R.ns j,bdF R j,[wE R j (VP [R.own] [.cell Z])]⟩:UE)])->G.r=S.r++[(k,Vb S.u)]++[(Z,o)]->G.h=S.h++[(Z,Y7 R.tg t)]->G.wc<=S.wc+4->G.bg<=S.bg+2->Cg true Q (g0 R) mo (.taken<|Y7 R.tg t) G Po:=λG o T L eo e3 e4 e5 e6=>by
   refine tk G T L ⟨⟨by rw[e3];exact G2 o eo,λx D=>?_,λe J=>by rw[e3];rw[L]at J;exact B<|O _ e J,λx D=>?_,by rw[e4,ZL,vc];exact vV l3⟩,by rw[e3];exact J2 o,by lia,by lia,.inr ⟨Z,Y,?_⟩⟩
   .rw [e4,ZK]at D
    rw[e3];rcases ZX.mp D with z|z
    .exact B (M<|i.hr x z)
    .have:x=Z:=ZQ.mp z
     rw[this];exact F
   .rw [e4,ZK]at D
    rcases ZX.mp D with z|z
    .exact i.ha x z
    .have:x=Z:=ZQ.mp z
     rw[this];exact w.na
   .rw [e4,List.lookup_append,Qj b]
    show List.lookup Z [(Z,_)]=_;rw[vv,beq_self_eq_true]
  rcases id w.kn with⟨T,L⟩|⟨q2,T,L⟩
  .subst T L
   refine Cg.go (S:=S1) (sta:=⟨Y7 R.ns N,f,ρ'⟩) (df:=ddF R N) c (λ_=>⟨b,l⟩) w.hs (K.mm N w.hj) Y (K.ok _<|K.mm N w.hj) w.hq (by show S.bg+1<mo;lia) (lk1 K E w.p2 w.hρ I<|.thG rfl (lk2 K E w.p2 w.ht I)) (ZG _) ?_;rw[et]at end_;refine Cg.head Y (λ_=>⟨b,by show S.h.length<=900;lia⟩) ?_;exact end_ _ _ Y Y Y Y Y (by show S.wc+1+1<=_;lia) (by show S.bg+1+1<=_;lia)
  .subst T
   refine Cg.go (S:=S1) (sta:=⟨Y7 R.ns N,f,ρ'⟩) (df:=ddF R N) c (λ_=>⟨b,l⟩) w.hs (K.mm N w.hj) Y (K.ok _<|K.mm N w.hj) w.hq (by show S.bg+1<mo;lia) (lk1 K E w.p2 w.hρ I<|.thC .stopW) (ZG _) ?_;refine Cg.tkn ⟨λ_=>⟨λe J=>?_,?_,?_⟩,?_⟩ L ?_
   .have P:e∈S.u++[⟨k,Y7 R.ns j,bdF R j,[wE R j (VP [R.own] [.cell Z])]⟩]++[⟨Z,Y7 R.ns N,(ddF R N).2,[(lkC R N,f,ρ')]⟩]:=J
    show e.k∈(S.r++[(k,Vb S.u)]++[(Z,Vb S1.u)]).map (·.1);rcases ZX.mp P with z|z
    .exact B (O _ e z)
    .rw [ZQ]at z;subst z;exact F
   .show (S.r++[(k,Vb S.u)]++[(Z,_)]).length<=900
    have:=J2<|Vb S1.u;lia
   .show S.wc+1+1<=9000
    lia
   .show (S.u++[_]++[_]).length<=9000
    rw[ZL,ZL,vc,vc];lia
   refine Cg.taken Y (lk2 K E w.p2 w.ht I) (ZG _) ?_;rw[et]at end_;refine Cg.head Y (λ_=>⟨b,by show S.h.length<=900;lia⟩) ?_;exact end_ _ _ Y Y Y Y Y (by show S.wc+1+1+1<=_;lia) (by show S.bg+1+1<=_;lia)
def yI(U:Jp->WSt->Prop):∀(n:Nat)(S:WSt),S.u.length=n+1->(∀e∈S.u,e.l=[])->(S.u.map (·.k)).Nodup->(∀e∈S.u,e.k∉S.h.map (·.1))->S.h.length+n<=900->(∀J:WSt,J.s=S.s->J.r=S.r->J.h=S.h++ S.u.reverse.map (λe=>(e.k,t))->U (.hd t) J)->Cg true g gs mo (.st<|.head t) S U:=by
 intro n
 induction n with
 |zero=>
  intro S h E F N D q;obtain⟨x,j,e,C⟩:=V2 h;obtain rfl:=vg C;refine Cg.head (u:=[]) e (λ_=>⟨N x (by rw[e];exact ZQ.mpr Y),D⟩)<|Cg.fin rfl (q _ rfl rfl ?_);rw[e]
  rfl
 |succ n ih=>
  intro S h E F N D q;have R:S.u≠[]:=λz=>by rw[z]at h;cases h
  have e:=(vf R).symm;have m:=kL R;have O:S.u.dropLast.length=n+1:=by rw[jf,h];rfl
  generalize S.u.getLast R=x at e m;generalize S.u.dropLast=u at e O;have T:∀y∈u,y∈S.u:=λy Z=>by rw[e];exact vm _ Z
  have G:=F;rw[e,ZK]at G;have A:=vX.mp G;have B:u≠[]:=λz=>by rw[z]at O;cases O
  have I:=(vf B).symm;have L:=E _<|T _<|kL B;refine Cg.head e (λ_=>⟨N x m,Nat.le_of_add_right_le D⟩)<|Cg.taken I (by rw[L];exact .stopH) (ZG _) ?_
  have M:u.dropLast++[({u.getLast B with l:=[]}:UE)]=u:=by
   conv=>rhs;rw[I]
   congr 2
   rw[<-L]
  refine ih _ ?_ ?_ ?_ ?_ ?_ λJ Q P X=>q J Q P ?_
  .show (u.dropLast++[_]).length=_
   rw[M,O]
  .show ∀y∈u.dropLast++[_],_
   rw[M];exact λy Z=>E y<|T y Z
  .show ((u.dropLast++[_]).map _).Nodup
   rw[M];exact A.1
  .show ∀y∈u.dropLast++[_],y.k∉(S.h++[(x.k,t)]).map (·.1)
   rw[M,ZK];intro y Z z;rcases ZX.mp z with z|z
   .exact N y (T y Z) z
   .exact A.2.2 y.k (jK Z) x.k (ZQ.mpr rfl) (ZQ.mp z)
  .show (S.h++[_]).length+n<=900
   rw[ZL,vc];lia
  .rw [X,e]
   show S.h++[(x.k,t)]++ (u.dropLast++[_]).reverse.map _=_;rw[M,List.reverse_append,jS]
   rfl
structure Pst(R:FP)(SR:WSt):Prop where
 dn:QL SR
 n:(SR.h.filter λp=>isA SR.s.1 p.1).length=R.tg.length*R.ns.length
 l:SR.h.length<=100
 sl:SR.s.1.length<=100
def Ed(r:a<=40)(w:WI S a)(v:A5 S S' a)(A:S'.s=S.s)(O:S'.u=S.u++[(⟨k,F,b,[]⟩:UE)])(B:k∉S.r.map (·.1))(Q:isA S.s.1 k=true)(d:a+1=R.tg.length*R.ns.length)(I:Jp->WSt->Prop)(q:∀T,Pst R T->I (.hd t) T):Cg true l gs mo (.st<|.head t) S' I:=by
 have u:=w.l1;have f:=v.l3;have L:S'.u.length=a+1:=by rw[O,ZL,vc,w.u]
 have U:∀e∈S'.u,isA S.s.1 e.k=true:=λe Z=>by
  rw[O]at Z;rcases ZX.mp Z with z|z
  .exact w.ua e z
  .rw [ZQ]at z;subst z;exact Q
 refine yI I a S' L (λe Z=>?_) ?_ (λe G z=>?_) (by lia) λT E c N=>q T ⟨⟨λk C=>?_,?_⟩,?_,?_,by rw[E,A];lia⟩
 .rw [O]at Z
  rcases ZX.mp Z with z|z
  .exact w.ul e z
  .rw [ZQ]at z;subst z;rfl
 .rw [O,ZK]
  refine vX.mpr ⟨w.un,by simp,λx m y j e=>?_⟩;have D:y=k:=ZQ.mp j;subst D;subst e;obtain⟨e,Z,rfl⟩:=ZW.mp m;exact B<|w.ur e Z
 .have M:=U e G
  rw[v.ha _ z]at M;cases M
 .have B:k∈S'.r.map (·.1):=by
   rw[N,ZK]at C;rcases ZX.mp C with z|z
   .exact v.hr k z
   .obtain ⟨p,J,rfl⟩:=ZW.mp z
    obtain⟨e,G,rfl⟩:=ZW.mp J;exact v.ur e<|List.mem_reverse.mp G
  obtain⟨o,M,g⟩:=lookup_mem B;rw[E,c,A];have:=v.rk _ g;exact⟨this.1,o,M,this.2⟩
 .rw [N,ZL,ZA,qP,L]
  lia
 .rw [E,N,A,qX,ZL]
  have P:S'.h.filter (λp=>isA S.s.1 p.1)=[]:=by
   rw[List.filter_eq_nil_iff];intro p J z;rw[v.ha _ (jK J)]at z;cases z
  have X:(S'.u.reverse.map λe=>(e.k,t)).filter (λp=>isA S.s.1 p.1)=S'.u.reverse.map λe=>(e.k,t):=by
   rw[List.filter_eq_self];intro p J;obtain⟨e,G,rfl⟩:=ZW.mp J;exact U e<|List.mem_reverse.mp G
  rw[P,X,ZA,qP,L,<-d];exact Nat.zero_add _
 .rw [N,ZL,ZA,qP,L]
  lia
def zh(K:FK R ds)(U:R.en=true)(o:400<=mo)(D:Jp->WSt->Prop)(q:∀SR,Pst R SR->D (.hd<|Y7 R.tg<|R.tg.length-1) SR):∀(i t j k a:Nat)(th:Tg)(S:WSt),t*R.ns.length+j+i+1=R.tg.length*R.ns.length->a=t*R.ns.length+j->j<R.ns.length->t<R.tg.length->WI S a->S.s.2 k=some ⟨Y7 R.ns j,[],VP [R.own] [th]⟩->k<=S.s.1.length->k∉S.r.map (·.1)->isA S.s.1 k=true->(∀c∈S.s.1,c.1<k)->(∀q,S.s.1.length<q->S.s.2 q=none)->
  (Kn R S.h th t \/ ∃q j' t' pl ρ' g,th=.cell q/\t=nxT R j' t'/\Nw R S q j' t' k pl ρ' g)->Cg true ds (g0 R) mo (.st<|.want k) S D:=by
 have n8:=K.n8;have t4:=K.t4;have tn:R.tg.length*R.ns.length<=4*8:=Nat.mul_le_mul t4 n8;intro i
 induction i with
 |zero=>
  intro t j k a th S Q ea O N w P I B X h hn v;obtain⟨tt,jn⟩:=NY O N Q;have lt:Y7 R.tg (R.tg.length-1)=Y7 R.tg t:=by rw[show R.tg.length-1=t by lia]
  rw[lt]at q;have M:VP [R.own] [th] R.own=some th:=XH _ _;have l1:=w.l1;have A:a<=40:=by lia
  have C:S.s.1.length<=5000:=by lia
  have en:a+1=R.tg.length*R.ns.length:=by lia
  have cs:(th=.giv 0/\t=0) \/ ∃q,th=.cell q:=by
   rcases id v with(z|⟨q,z,_⟩)|⟨q,_,_,_,_,_,z,_⟩
   .exact .inl z
   .exact .inr ⟨q,z⟩
   .exact .inr ⟨q,z⟩
  rcases cs with⟨J,L⟩|⟨q0,J⟩
  .subst J L
   exact AV K U o D w A O N P I B v (GZ K jn tt M C<|.thG (t:=Y7 R.tg 0) rfl .stopH) (ZG _) λS' J L G=>Ed A w G.toA5 J L B X en D q
  .subst J
   refine AV K U o D w A O N P I B v (GZ K jn tt M C<|.thC .stopW) (ZG _) λS' J L G=>?_;rcases G.kn with⟨z,_⟩|⟨q1,z,lk⟩
   .cases z
   .cases z
    have lu:S'.u.length=a+1:=by rw[L,ZL,vc,w.u]
    have l2:=G.l2;have l4:=G.l4;refine Cg.tkn ⟨λ_=>⟨G.ur,by lia,by lia⟩,by lia⟩ lk<|Cg.taken L .stopH (ZG _) ?_;exact Ed (S':={S' with wc:=S'.wc+1,u:=S.u++[⟨k,Y7 R.ns j,bdF R j,[]⟩]}) A w ⟨G.rk,G.hr,λe Z=>G.ur e (by rw[L];exact Z),G.ha,G.l3⟩ J Y B X en D q
 |succ i ih=>
  intro t j k a th S Q ea O N w P I B X h hn v;have f:=MZ Q;obtain⟨n1,n2⟩:=NX O N Q;have jl:nxF R j<R.ns.length:=vY _ (by have:=K.n1;lia);have M:VP [R.own] [th] R.own=some th:=XH _ _;have l1:=w.l1;have A:a<=40:=by lia
  have C:S.s.1.length<=5000:=by lia
  have fr:∀q:kT,((k,q):Mk1)∉S.s.1:=λq z=>by have:=h _ z;exact Zr this<|vw _
  have d:=X2 (R:=R) (F:=Y7 R.ns j) (num:=k) (pl:=[]++[1+(t:Int)]) (ρ:=VP [R.own] [th]) (th:=th) (j:=j) (s:=S.s);have n:a+1=B8 R.ns.length t j*R.ns.length+nxF R j:=by show _=_+(j+1) % R.ns.length;lia
  have r:=jh d.1;refine AV K U o D w A O N P I B v (Lf K O N f M fr C) r λS' J L G=>?_;obtain⟨⟨h1,h2,h3,h4,h6⟩,h5,h7,h8,h9⟩:=G;have T:∀x∈S'.r.map (·.1),x<=S.s.1.length:=λx E=>by obtain⟨p,b,rfl⟩:=ZW.mp E;exact(h1 p b).1
  have w2:WI S' (a+1):=by
   refine⟨λp b=>?_,h2,h3,?_,λe Z=>?_,λe Z=>?_,λx E=>?_,?_,?_,h5,h6,h7,h8⟩
   .rw [J]
    have:=h1 p b;exact⟨Zb this.1 r,λj O=>Zb (this.2 j O) r⟩
   .rw [L,ZK]
    refine vX.mpr ⟨w.un,by simp,λx E y hy e=>?_⟩;have l:y=k:=ZQ.mp hy;subst l;subst e;obtain⟨e,Z,rfl⟩:=ZW.mp E;exact B<|w.ur e Z
   .rw [J]
    have kl:=T _<|h3 e Z;rw[EW kl];rw[L]at Z;rcases ZX.mp Z with z|z
    .exact w.ua e z
    .rw [ZQ]at z;subst z;exact X
   .rw [L]at Z
    rcases ZX.mp Z with z|z
    .exact w.ul e z
    .rw [ZQ]at z;subst z;rfl
   .rw [J,EW (T _<|h2 x E)]
    exact h4 x E
   .rw [L,ZL,vc,w.u]
   .rw [J];exact Zb d.2<|Nat.add_le_add_right l1 2
  refine ih _ _ _ (a+1) _ S' n1 n jl n2 w2 (by rw[J];exact Bx) (by rw[J];exact d.1) (λz=>Nat.not_succ_le_self _<|T _ z) (by rw[J];exact Pr) (λc m=>?_) (by rw[J];exact NM hn) ?_
  .rw [J]at m
   exact jU<|Zb (Bw (λc m=>Zh<|h c m) c m) I
  .rw [<-EJ U f N]
   by_cases c:isC R j=true
   .rw [Zp c]
    have b1:=Ee (R:=R) (j:=j) N;unfold brB at b1;rw[Zq f]at b1
    have b2:(bdF R j).at ([]++[1+(t:Int)]++[0])=some (lkB R j):=by
     unfold bdF;rw[Zp U];exact Bd.at_snoc _ b1 (by decide) Y
    refine .inr ⟨_,j,t,_,VP [R.own] [th],th,Y,Y,⟨O,N,?_,by show 2<=2;decide,b2,c,M,h9,?_,λz=>Nat.not_succ_le_self _<|jh<|T _ z,kI _,by rw[J];exact Pq c⟩⟩
    .rw [J]
     unfold onS;rw[Zp c];show stP _ _ _ _=_;unfold stP;rw[Zq (kI _),Zp rfl]
    .rw [J]
     unfold onS;rw[Zp c];simp
   .rw [Zq c]
    have:nxT R j t=t:=by
     unfold nxT;rw[Zq];intro z;unfold isC at c;rw[z]at c;exact c Y
    rw[this];exact .inl h9
def Iy(x:Str):Iz [x] 1=VP [x] [.giv 0]:=by
 funext y
 simp[Iz,VP]
def Ir(R:FP):(S0 (Y7 R.ns 0)<|NG<|ddF R 0).s.2 0=some ⟨Y7 R.ns 0,[],VP [R.own] [.giv 0]⟩:=by
 show N9 _ _ 0=_;unfold N9 stP;rw[Zp rfl];show some (Sta.mk _ _<|Iz [R.own] 1)=_;rw[Iy]
def NB(K:FK R T)(Z:R.en=false)(G:Jp->WSt->Prop)(O:bw=true->mo<=500)(M:mo<=2000)(q:∀J:WSt,J.bg=mo->J.h=[]->G .dry J):Cg bw T (g0 R) mo (.st<|.want 0) (S0 (Y7 R.ns 0)<|NG<|ddF R 0) G:=by
 exact Iu K Z G O M q mo 0 0 _ (.giv 0) (Nat.zero_add mo) K.n1 (Ir R) ⟨ZG _,λc N=>(by cases N),ZG _,ZG _,Y,λ_ e Z=>(by cases Z),λ_ p L=>(by cases L),λ_=>ZG _,λ_=>ZG _⟩
def Tx(q:Nat)(h:0<q):N9 F ρ q=none:=by
 unfold N9 stP;rw[Zq (by lia)]
def Ql(K:FK R Z):0*R.ns.length+0+(R.tg.length*R.ns.length-1)+1=R.tg.length*R.ns.length:=by
 have:1*1<=R.tg.length*R.ns.length:=Nat.mul_le_mul K.t1 K.n1;lia
def OX(K:FK R T)(J:R.en=true)(N:mo<=2000)(Z:Jp->WSt->Prop)(M:∀G,Z .dry G)(L:∀G,Z (.hd<|Y7 R.tg<|R.tg.length-1) G):Cg false T (g0 R) mo (.st<|.want 0) (S0 (Y7 R.ns 0)<|NG<|ddF R 0) Z:=by
 refine zi K J N Z M L _ 0 0 0 (.giv 0) _ (Ql K) K.n1 K.t1 (Ir R) .giv (ZG _) (λc O=>by cases O) (by show 0<=0;decide) (by show 0<=0;decide) (by show 0<=mo;lia) (λq h=>Tx q h) λe J=>by cases J
def OW(K:FK R T)(Z:R.en=true)(N:400<=mo)(G:Jp->WSt->Prop)(q:∀L,Pst R L->G (.hd<|Y7 R.tg<|R.tg.length-1) L):Cg true T (g0 R) mo (.st<|.want 0) (S0 (Y7 R.ns 0)<|NG<|ddF R 0) G:=by
 refine zh K Z N G q _ 0 0 0 0 (.giv 0) _ (Ql K) (by lia) K.n1 K.t1 ?_ (Ir R) (ZG _) (by show 0 ∉ [];simp) Y (λc O=>by cases O) (λq h=>Tx q h) (.inl<|.inl ⟨rfl,rfl⟩);exact⟨λp M=>(by cases M),λx J=>(by cases J),λe Z=>(by cases Z),by show([]:List Nat).Nodup;simp,λe Z=>(by cases Z),λe Z=>(by cases Z),λx J=>(by cases J),Y,by show 0<=0;decide,by show 0<=0;decide,by show 0<=0;decide,by show 0<=0;decide,by show 0<=0;decide⟩
abbrev ks3(R:FP):pi:=[(R.kd,.tags R.tg)]
structure FO(R:FP):Prop where
 n1:1<=R.ns.length
 n8:R.ns.length<=8
 t1:1<=R.tg.length
 t4:R.tg.length<=4
 wk:Wds 97 [R.kd,R.own,R.oth]
 wt:∃tgs r,Wds 65 tgs/\r<4/\R.tg=tgs.take (1+r)
 wn:Wds 97 R.ns
def sh3:Vh (ks3 R) R.kd=some (.tags R.tg):=by simp[Vh]
def Lj(R:FP):(fds R).map (λx=>x.1.1)=R.ns:=by
 unfold fds;rw[vi];refine kE λi=>?_;rw[ZH];rcases jr i R.ns.length with h|h
 .rw [jb h]
  exact(Vg h).symm
 .rw [jZ (by rw[vo];exact h),jZ h]
  rfl
def FO.nd(o:FO R):((fds R).map λx=>x.1.1).Nodup:=by rw[Lj];exact o.wn.nd
def Mq(h:j<R.ns.length):ddF R j∈fds R:=jK<|jD.mpr h
def zZ(o:FO R)(h:x∈fds R):V4 ((fds R).map (·.1)) x.1.1=some x.1.2:=LN (ds:=fds R) o.nd h
def Pl(Z:1<=R.tg.length)(h:x∈ltg R j):x∈R.tg:=by
 unfold ltg at h
 split at h
 .obtain ⟨i,_,rfl⟩:=ZW.mp h
  exact ZJ<|Vg<|vY _<|by lia
 .exact h
def ET{g:kY}{hd:Hds}:∀{l:kQ},(∀x∈l,x∈R.tg)->∀b∈l.map Bd.tag,Kd (ks3 R) hd g R.kd b:=λh b J=>by
 obtain⟨x,Z,rfl⟩:=ZW.mp J;exact Kd.tag sh3<|h x Z
def zP{g:kY}{hd:Hds}(o:FO R)(e:VH g (Sum.inr R.own)=some (.str R.kd)):Kd (ks3 R) hd g R.kd (lkB R j):=by
 unfold lkB
 split
 .exact Kd.choose sh3 (Kd.name e) (by rw[ZA,X4]) (ET λx=>Pl o.t1)
 .exact Kd.name e
def EU{g:kY}(o:FO R)(e:VH g (Sum.inr R.own)=some (.str R.kd)):Kd (ks3 R) (V4<|(fds R).map (·.1)) g R.kd (onB R j):=by
 have J:nxF R j<R.ns.length:=vY _ (by have:=o.n1;lia);refine Kd.ask (ps:=[(R.own,R.kd)]) (zZ o<|Mq J) rfl λi a p Z G=>?_
 cases i with
 |zero=>cases Z;cases G;exact zP o e
 |succ i=>simp at Z
def zQ(o:FO R):Kd (ks3 R) (V4<|(fds R).map (·.1)) (kvP [(R.own,R.kd)]) R.kd (bdF R j):=by
 have e:VH (kvP [(R.own,R.kd)]) (Sum.inr R.own)=some (.str R.kd):=Vn rfl;have J:=o.wk.nd;have Z:R.oth≠R.own:=λz=>by simp[z]at J
 unfold bdF
 split
 .unfold enB
  refine Kd.choose sh3 (Kd.name e) (by rw[ZA,vo]) λb G=>?_;obtain⟨i,_,rfl⟩:=ZW.mp G;unfold brB
  split
  .exact Kd.name e
  .exact EU o e
 .unfold unB
  split
  .exact Kd.choose sh3 (EU o e) (by rw[ZA]) (ET λx h=>h)
  .split
   .refine Kd.letb ?_ (by simp) (EU o ?_) (Kd.name<|by rw[JA,Zp rfl])
    .exact (Vo λq=>Z (Sum.inr.inj (show(Sum.inr R.own:Key)=Sum.inr R.oth from q)).symm).trans rfl
    .rw [JA,Zq λq=>Z (Sum.inr.inj q).symm]
     exact e
   .exact EU o e
theorem Rk:∀l:kQ,Bd.oks (l.map Bd.tag)/\Bd.deps (l.map Bd.tag)<=1
 |[]=>by simp[Bd.oks,Bd.deps]
 |a::l=>by
  obtain⟨Z,J⟩:=Rk l;rw[ZV];unfold Bd.oks Bd.deps;exact⟨⟨by simp[Bd.ok],Z⟩,by simp only[Bd.dep];lia⟩
def zK(o:FO R):(lkB R j).ok/\(lkB R j).dep<=2:=by
 have Z:=o.t1;have G:=o.t4;obtain⟨J,L⟩:=Rk<|ltg R j;unfold lkB
 split
 .refine ⟨?_,?_⟩
  .unfold Bd.ok
   exact⟨by simp[Bd.ok],by rw[ZA,X4],⟨Z,by lia⟩,J⟩
  .unfold Bd.dep
   simp only[Bd.dep];lia
 .exact ⟨by simp[Bd.ok],by simp[Bd.dep]⟩
def Cp(o:FO R):(onB R j).ok/\(onB R j).dep<=3:=by
 obtain⟨Z,J⟩:=zK (j:=j) o;unfold onB;exact⟨by simp[Bd.ok,Bd.oks,Z],by simp only[Bd.dep,Bd.deps];lia⟩
def Qu(o:FO R):(bdF R j).ok/\(bdF R j).dep<=5/\(bdF R j).size<=40:=by
 have L:=o.t1;have G:=o.t4;obtain⟨Z,M⟩:=Cp (j:=j) o;have T:=MU (R:=R) (j:=j) G;unfold bdF
 split
 .have go:∀l:List Nat,Bd.oks (l.map<|brB R j)/\Bd.deps (l.map<|brB R j)<=3:=λl=>by
   induction l with
   |nil=>simp[Bd.oks,Bd.deps]
   |cons a l ih=>
    rw[ZV];unfold Bd.oks Bd.deps
    have:(brB R j a).ok/\(brB R j a).dep<=3:=by
     unfold brB
     split
     .exact ⟨by simp[Bd.ok],by simp[Bd.dep]⟩
     .exact ⟨Z,M⟩
    exact⟨⟨this.1,ih.1⟩,by lia⟩
  obtain⟨g1,N⟩:=go<|List.range R.tg.length;have O:=Lm (R:=R) (j:=j) G;refine⟨?_,?_,by lia⟩
  .unfold enB Bd.ok
   exact⟨by simp[Bd.ok],by rw[ZA,vo],⟨L,by lia⟩,g1⟩
  .unfold enB Bd.dep
   simp only[Bd.dep];lia
 .unfold unB
  obtain⟨g1,N⟩:=Rk R.tg
  have J:∀l:kQ,Bd.sizes (l.map Bd.tag)=l.length:=λl=>by
   induction l with
   |nil=>simp[Bd.sizes]
   |cons a l ih=>rw[ZV];unfold Bd.sizes;rw[ih];simp[Bd.size];lia
  split
  .refine ⟨?_,?_,?_⟩
   .unfold Bd.ok
    exact⟨Z,by rw[ZA],⟨L,by lia⟩,g1⟩
   .unfold Bd.dep;lia
   .unfold Bd.size;rw[J];lia
  .split
   .refine ⟨by simp[Bd.ok,Z],?_,?_⟩
    .simp only[Bd.dep];lia
    .simp only[Bd.size];lia
   .exact ⟨Z,by lia,by lia⟩
def FO.tn(o:FO R):R.tg.Nodup:=by
 obtain⟨Z,r,w,h,e⟩:=o.wt;rw[e];exact w.nd.sublist<|jq _ _
def FO.no(o:FO R):R.own≠R.oth:=λz=>by
 have Z:=o.wk.nd;simp[z]at Z
def FO.k(o:FO R):FK R (fds R):=⟨o.n1,o.n8,o.t1,o.t4,o.tn,o.no,o.nd,λj h=>Mq h,λx h=>by
 obtain⟨j,_,rfl⟩:=ZW.mp h;exact(Qu o).1⟩
def c3(R:FP):pj:=λ_=>1+R.tg.length
def FO.kk(o:FO R):KK 30 (c3 R) (λ_=>0) (ks3 R):=by
 rintro i y s h
 cases i with
 |zero=>
  cases h;exact⟨o.t1,o.t4,Y,Y,o.tn⟩
 |succ i=>simp at h
def FO.kg(o:FO R):KG (ks3 R):=by
 obtain⟨Z,r,w,h,e⟩:=o.wt;have J:=o.wk;exists ⟨by simp,λy h=>J.len y ?_,λy h=>J.abc y ?_⟩,⟨Z,w,?_⟩
 .have:y=R.kd:=by simpa using h
  rw[this];exact Za
 .have:y=R.kd:=by simpa using h
  rw[this];exact Za
 .rintro i y ts hh
  cases i with
  |zero=>cases hh;exact⟨r,h,by rw[e];rfl⟩
  |succ i=>simp at hh
 .rintro i1 i2 y1 y2 a b h1 h2
  cases i1 with
  |zero=>cases h1
  |succ i=>simp at h1
def FO.hd(o:FO R):∀x∈fds R,QK ((ks3 R).map (·.1)) (c3 R) 50 x.1:=by
 have J:=o.t4;intro x Z;obtain⟨j,_,rfl⟩:=ZW.mp Z;exists by show 1<=3;decide,λp h=>?_,by simp[ddF],by simp[ddF],λp h=>?_
 .have h':p∈ [(R.own,R.kd)]:=h
  rw[ZQ]at h';subst h';simp
 .have h':p∈ [(R.own,R.kd)]:=h
  rw[ZQ]at h';subst h';have m:R.own∈ [R.kd,R.own,R.oth]:=by simp
  exact⟨(o.wk.len _ m).1,(o.wk.len _ m).2,o.wk.abc _ m⟩
 .show 1*(1+R.tg.length)<=50
  lia
def FO.rt(o:FO R):∀x∈fds R,K4.DRt (ks3 R) (fds R) x:=by
 have J:∀z Z,Vh (ks3 R) z=some (.tags Z)->1<=Z.length:=λz Z e=>(o.kk.at e).1;intro x G;obtain⟨j,_,rfl⟩:=ZW.mp G;obtain⟨L,N,M⟩:=Qu (j:=j) o;refine⟨⟨L,by show(bdF R j).dep<=_;lia,by show(bdF R j).size<=_;lia⟩,?_⟩;exact Kd.kdn o.kg J 13 _ _ _ (zQ o) (by show(bdF R j).dep<13;lia)
def Em(Z:kT)(m:Nat):Ug (Z.map V.int) none (some (m:Int))=(Z.take m).map V.int:=by
 unfold Ug;rw[HT.sIx_none,HT.sIx_nat,List.drop_zero,Nat.sub_zero,ZA,j3];rcases Nat.le_total m Z.length with h|h
 .rw [ji h]
 .rw [Nat.min_eq_right h,Zg (by rw[ZA];exact ZG _),Zg (by rw[ZA];exact h)]
def QC(Z:kT)(m:Nat)(G:kS):∃J:kT,Ug (Z.map V.int) (some (m:Int)) G=J.map V.int/\J.length<=Z.length-m:=by
 unfold Ug;refine⟨_,by rw[<-List.map_drop,<-j3],?_⟩;rw[ZN,j0,ZA,HT.sIx_nat];refine Zb (Nat.min_le_right _ _) ?_;rcases Nat.le_total m Z.length with h|h
 .rw [ji h]
  exact ZG _
 .rw [Nat.min_eq_right h,vk]
  exact Zc _
theorem RK:∀Z:kT,HasL H (Z.map V.int)<|Z.map Dat.int
 |[]=>Z6
 |w::Z=>Z4 (by unfold Has;rfl)<|RK Z
theorem TY:∀Z:kT,Dat.deps (Z.map Dat.int)<=1
 |[]=>by simp[Dat.deps]
 |w::Z=>by
  rw[ZV];unfold Dat.deps;have:=TY Z;simp only[Dat.dep];lia
end L2
namespace K4
open PySem L2
section
def Om:Yh ["script","many","found","k","cell"] ["script","many"] (Yd Ma):=Y2
inductive SFo(K:W.Frag)(H:Hp)(Q:VK):List V->Prop
 |mk (a:Addr) (ns:List Int) (m:Nat) (m1:1<=m) (m2:m<=60) (hS:SqL K H a (ns.map V.int)) (hl:ns.length<=63)
  (q:∀(p:Addr)(ms:List Int)(H':Hp),Same H H'->H p=none->H' p=some (.lst (ms.map V.int))->1<=ms.length->ms.length<=m->Q (.ref p) H'):SFo K H Q [.ref a,.int (m:Nat)]
def SY(K:W.Frag):Sp:=λZ H Q _=>SFo K H Q Z
def C4(B:Blt v)(me:v "enumerate"=none)(F:Fun K "_law_folded" "_law_folded" Ma f fd):Ye P w K v base CX0 (n+4) f fd ["script","many"] (SY K):=by
 refine F.oi Om λJ2 A S s H vs Q E hr h=>?_;obtain⟨a,N,m,m1,m2,hS,hl,q⟩:=h;refine⟨_,YY (Yz 2 Om.nd<|VT Ui rfl B.list Jo (pa1<|V0 XE (pv 0) JV<|JE<|pv 1))
  (YY (Ja Zv rfl (Xz rfl me (pa1<|V0 XE (pv 0) (JE<|pv 1)<|JE Ya)) (Ve (n:=2) rfl (Yn (Ym 3 Om.nd)<|Yn (Ym 4 Om.nd) VM))
   (YZ<|Jw (VB V9 (Yk Y8 (pv 2) (VB V8 (pv 3)<|pv 1) λ_ _=>rfl)<|pv 4)<|MQ (pv 2) (VB V8 (pv 3)<|pv 1) set_list))
  (YY (Y3 (Yp (MS hr) (pv 2) (JJ Vq)<|Yx _) (YZ<|VZ<|Uy Zz Z0 Z1 JM (pv 2)<|pa1<|Ya) Yo)
  (YZ<|Yi<|pv 2))),?_⟩
 dsimp only[Vf,Cx.nox,Cx.wish];show let T0:=_;let T1:=_;let T2:=Yl (VF _ T1 _) T0;let T3:=_;let T4:=Yl (XS _ _ T3) T2;Yl _ T4 _ _ _
 intros
 refine⟨_,Y,a,_,Y,hS,λl1 h1=>?_⟩;rw[Em];refine up_in h1 _ λH1 M g1=>⟨l1,_,Y,.inl<|Z3 g1,λJ R=>?_⟩;refine up_in R _ λH2 u g2=>⟨_,Y,63,Y,a,_,Y,u.seq<|M.seq hS,λl h3=>?_⟩;obtain⟨zs,ez,lz⟩:=QC N m<|some 63;rw[ez];refine up_in h3 _ λH3 d g3=>⟨l,false,_,Y,Z3 g3,?_⟩;have C:l≠J:=(Yb g2 h3).symm;have g:=d _ _ g2;have X:(N.take m).length=min m N.length:=ZN
 let I:pc:=λi U p=>SameB J H3 p/\∃(Z:kT)(D T:pf),U=[some (.ref a),some<|.int (m:Nat),some<|.ref J,D,T]/\Z.length=min m N.length/\p J=some (.lst<|Z.map V.int)
 refine Mp (tp:=false) (xs:=zs.map V.int) I ⟨λ_ _ _ e=>e,N.take m,_,_,Y,X,g⟩ (λi U p _ z=>Z3<|z.1 _ _ C g3) ?_ ?_
 .rintro BB RR i x U H4 r hx ⟨b4,Z,D,T,rfl,lm,g4⟩ hr'
  rw[ZH]at hx;obtain⟨ce,j,rfl⟩:=Zj.mp hx;have iz:=(ZF.mp j).1;have ml:Z.length=m:=by lia
  refine up_in hr' _ λH5 G t=>?_;have O:=G _ _ g4;have im:i % m<Z.length:=by rw[ml];exact vY _<|by lia
  have em:((i:Nat):Int) % ((m:Nat):Int)=((i % m:Nat):Int):=(qu i m).symm;exists _,Z2 t,Y;exists by lia,_,V.int<|Z[i % m]'im,Z3 O,by rw[em];exact VE (by rw[ZH,ZD im];rfl),by lia,J,_,_,i % m,rfl,rfl,O,?_
  .rw [em]
   unfold ixN;rw[Zp (by lia),Zp (by rw[ZA];lia),jP]
  .refine fld_in J _ λH6 k y=>⟨λb o n e=>k _ _ n<|G _ _<|b4 _ _ n e,Z.set (i % m)<|Z[i % m]'im+ce,_,_,rfl,by rw[List.length_set];exact lm,?_⟩
   rw[y,List.map_set]
 .rintro U H4 ⟨b4,Z,D,T,rfl,lm,g4⟩
  have L:∀{b o},H b=some o->H4 b=some o:=λe=>b4 _ _ (Yb (M _ _ e) R)<|d _ _<|u _ _<|M _ _ e;have f2:H J=none:=M.free R;refine⟨sl 0,λe he=>?_⟩;refine up_in he _ λH5 G t=>⟨.lst<|Z.map Dat.int,.lst [],?_,?_,?_,_,rfl,?_⟩
  .unfold Has
   exact⟨J,_,Y,G _ _ g4,RK _⟩
  .unfold Has
   exact⟨e,_,Y,t,Z6⟩
  .have:=TY Z
   simp only[Dat.dep];lia
  rw[S3]
  cases Z with
  |nil=>
   refine VG Y ⟨.inl ⟨Y,_,Z3<|G _ _ g4⟩,J,_,_,rfl,rfl,G _ _ g4,Y1 (by simp),?_⟩;refine fld_in J _ λH6 k y=>?_;exact q J [0] H6 (λb o e=>k _ _ (Yb (M _ _ e) R)<|G _ _<|L e) f2 y (by simp)<|by simpa using m1
  |cons c Z=>
   refine Y0 (by simp) ?_;exact q J (c::Z) H5 (λb o e=>G _ _<|L e) f2 (G _ _ g4) (by simp)<|by lia
end
end K4
namespace L2
open PySem PySem.Spec PyProof.Rows
def vI(K:W.Frag)(n:Nat)(t:TGs):TG:=λv U H Q=>JI v λa=>∃Z,SqL K H a Z/\Z.length=n/\t Z U H Q
def S6(F:X.calm=true)(h:PGs X M t)(D:(assignEach M X.env).length=n:=by rfl)(L:(assignEach M X.env).findIdx? (·.1)=none:=by rfl):PG X (.Tuple M k pos) (vI X.K n t):=by
 intro Z s U H v u Q I r J;replace J:=JI.old J;obtain⟨a,C,O,B,E,J⟩:=J;subst C;cases r;obtain⟨G,N,T,j⟩:=I.list B;rw[assign_Tuple];refine Zl<|jm ?_;unfold unpack;have S:n=G.toArray.size:=by rw[ZO,<-E,N.length]
 rw[D,L,S];refine Zl<|wpAny_holding<|W.kun_itemsOf (I.ok.hd F) T.isList λA R=>?_;have P:Inv X Z U H {s with heap:=A}:=I.kept (t':=s.toks) λb o e=>R b o (Ze<|ZP e) e;exact h Z _ U H O _ Q P (by simpa using N) J
end L2
namespace L2
open PySem
theorem UQ:∀Z:kQ,HasL H (Z.map V.str)<|Z.map Dat.str
 |[]=>Z6
 |w::Z=>Z4 (by unfold Has;rfl)<|UQ Z
def Uo{Z:kQ}{k:Nat}{x:Str}(h:Z[k]?=some x):atI (Z.map V.str) (k:Int)=some (.str x):=VE (by rw[ZH,h];rfl)
def MY(h:H a=some (.tup [.str "name",.str x])):Has H (.ref a) (Bd.name x).dat:=by
 unfold Bd.dat;exact Yv h<|Z4 Y5<|Z5 Y5
def RY(h:H c=some (.tup [.str "ask",.str f,.ref b]))(J:H b=some (.tup [v]))(Z:Has H v d.dat):Has H (.ref c) (Bd.ask f [d]).dat:=by
 conv=>arg 3;unfold Bd.dat
 refine Yv h<|Z4 Y5<|Z4 Y5<|Z5<|Yv J ?_;unfold Bd.dats;refine Z4 Z ?_;unfold Bd.dats;exact Z6
def Gd(h:H c=some (.tup [.str "choose",v,.ref b]))(M:Has H v d.dat)(L:H b=some (.tup Z))(G:HasL H Z (Bd.brs N J)):Has H (.ref c) (Bd.choose d J N).dat:=by
 conv=>arg 3;unfold Bd.dat
 exact Yv h<|Z4 Y5<|Z4 M<|Z5<|Yv L G
def Pn(h:H c=some (.tup [.str "let",.str x,.str y,v,u]))(J:Has H v d.dat)(Z:Has H u e.dat):Has H (.ref c) (Bd.letb x y d e).dat:=by
 conv=>arg 3;unfold Bd.dat
 exact Yv h<|Z4 Y5<|Z4 Y5<|Z4 Y5<|Z4 J<|Z5 Z
theorem Mu{α:Type}(f:α->Bd)(g:α->Str):∀l:List α,Bd.brs (l.map f) (l.map g)=l.map λx=>.tup [.str (g x),(f x).dat]
 |[]=>by unfold List.map Bd.brs;rfl
 |a::l=>by rw[ZV,ZV];unfold Bd.brs;rw[Mu f g l];rfl
def M6(Z:kQ):(List.range Z.length).map (Y7 Z)=Z:=by
 refine kE λi=>?_;rw[ZH];rcases jr i Z.length with h|h
 .rw [jb h]
  exact(Vg h).symm
 .rw [jZ (by rw[vo];exact h),jZ h]
  rfl
def Es(f:Nat->Bd)(Z:kQ):Bd.brs ((List.range Z.length).map f) Z=(List.range Z.length).map λi=>.tup [.str (Y7 Z i),(f i).dat]:=by
 have:=Mu f (Y7 Z)<|List.range Z.length
 rwa [M6]at this
def Nt(Z:kQ):Bd.brs (Z.map Bd.tag) Z=Z.map λt=>.tup [.str t,.tup [.str "tag",.str t]]:=by
 have:=Mu Bd.tag id Z;rw[List.map_id]at this;rw[this];refine j8 λt _=>?_;unfold Bd.dat
 rfl
def Sv(tg:kQ):kQ:=(List.range tg.length).map λi=>Y7 tg<|(i+1) % tg.length
def lkD(own:Str)(tg:kQ)(far lk:Bool):Bd:=if(far || lk)=true then .choose (.name own) tg ((if far=true then Sv tg else tg).map Bd.tag)else .name own
def wtB(w:Nat)(b:Bd)(oth kd:Str)(tg:kQ):Bd:=if w=1 then .choose b tg (tg.map Bd.tag)else if w=2 then .letb oth kd b (.name oth)else b
def Rl(h:H c=some (.tup [.str "tag",.str x])):Has H (.ref c) (.tup [.str "tag",.str x]):=Yv h<|Z4 Y5<|Z5 Y5
end L2
namespace K4
open PySem L2
section
variable{C CK:Addr}
abbrev Sw(K:W.Frag):List V->Hp->VK->Prop:=λxs H Q=>∃p ys,xs=[V.ref p]/\(SqL K H p ys\/SqT K H p ys)/\Q (.int (ys.length:Nat)) H
abbrev lnp:kQ:=["stream","own","tags","far"]
def Of:Yh ["stream","own","tags","far","kept"] lnp (Yd LF):=Y2
def AS:List.Nodup [("k":Str),"tags"]:=by decide +kernel
def K5:List.Nodup [("tag":Str)]:=by decide +kernel
inductive SLn(H:Hp)(Q:VK):List V->Prop
 |mk (p tl:Addr) (own:Str) (tg:List Str) (far:Bool) (st:JU H p) (ne:tl≠p) (htl:H tl=some (.lst (tg.map V.str))) (t1:1<=tg.length) (t4:tg.length<=4) (q:∀u lk H',SameB p H H'->JU H' p->Has H' u (lkD own tg far lk).dat->Q u H'):SLn H Q [.ref p,.str own,.ref tl,.bl far]
def SW:Sp:=λZ H Q _=>SLn H Q Z
def C0(B:Blt mg)(F:Fun K "_law_link" "_law_link" LF f fd)(DT:Df P w K mg base n "_law_take" ["stream","many"] Gj):Ye P w K mg base CX0 (n+1) f fd lnp SW:=by
 refine F.oi Of λM2 A J2 s H M Q E hr h=>?_;obtain⟨p,tl,own,Z,T,st,ne,G2,t1,t4,q⟩:=h;refine⟨_,YY (Yz 4 Of.nd<|Yj<|pa2 (Yr)<|pv 1)
  (YY (Y3 (Vz<|pv 3) (YZ<|Yz 4 Of.nd<|Yj<|pa3 (Yr) (pv 4)<|VT Vy rfl B.tuple Vm (pa1<|JF ["k"] [2] (JL rfl B.range (pa1<|Y9 Yw rfl B.len Zu (pa1<|pv 2))) (Vc (i:=0)<|by decide) (λcl C fp s H=>Ym 0 AS rfl (Or.inl rfl) (Or.inr rfl)) λcl C fp s H=>Yj<|pa2 (Yk (r:=Ts K) Y8 (pv 1) (pv 0) λ_ _=>rfl)<|Yj<|pa2 (Yr)<|Yk (r:=Ts K) Y8 (pv 1) (VB V8 (VB V9 (pv 0)<|Ya)<|Y9 (r:=Sw K) Yw rfl B.len Zu (pa1<|pv 1)) λ_ _=>rfl))<|YZ<|Y3 (Yp VX (VW DT hr<|pa2 (pv 0)<|Ya) Ya<|Yx _) (YZ<|Yz 4 Of.nd<|Yj<|pa3 (Yr) (pv 4)<|VT Vy rfl B.tuple Vm (pa1<|JF ["tag"] [] (Jz<|pv 2) (Vc (i:=0)<|by decide) (λcl C fp s H=>Ym 0 K5 rfl (Or.inl rfl) (Or.inr rfl)) λcl C fp s H=>Yj<|pa2 (pv 0)<|Yj<|pa2 (Yr)<|pv 0)) Yo)
  (YZ<|Yi<|pv 4)),?_⟩
 dsimp only[Vf,Cx.nox,Cx.wish];show let T0:=_;let T1:=_;let T2:=_;let T3:=VF _ T2 _;let T4:=Yl (VF _ T1 T3) T0;Yl _ T4 _ _ _
 intros
 refine⟨sl 2,λa1 G3=>?_⟩;refine up_in G3 _ λH1 d g1=>?_;have O:=st.sm d;have L:=d _ _ G2;have I:=MY g1;dsimp only[Vv];refine Jb (λU J=>∃u lk,U=[some (.ref p),some<|.str own,some<|.ref tl,some<|.bl T,some u]/\SameB p H J/\JU J p/\Has J u (lkD own Z T lk).dat) ?_ ?_
 .rintro U J ⟨u,lk,rfl,b,st',hu⟩
  exact q u lk J b st' hu
 intro N hN;refine⟨_,Y,DF (λzc=>?_) λzc=>?_⟩
 .subst zc
  refine⟨tl,_,Y,.inl<|Z3 L,Z.length,by rw[ZA],by lia,by lia,?_⟩;refine Vd Z.length (JH<|by lia) (λi M J=>Same H1 J/\M.length=i/\HasL J M ((List.range i).map λk=>Dat.tup [.str (Y7 Z k),.tup [.str "tag",.str (Y7 Z<|(k+1) % Z.length)]])) ⟨Z8 _,rfl,Z6⟩ (λi M J z=>z.2.1) (λi M J hi z=>hi) (λM J z=>ZG _) ?_ ?_
  .rintro i M J y H'' Rr hi ⟨X,z2,z3⟩ ⟨rfl,rfl⟩ hR
   have h2:=X _ _ L;have im:(i+1) % Z.length<Z.length:=vY _ (by lia);rw[show(0:Int)+(i:Int)=((i:Nat):Int) by lia];exists _,_,Z3 h2,Uo<|Vg hi,tl,_,rfl,.inl<|Z3 h2;refine⟨by rw[ZA];lia,_,.str<|Y7 Z<|(i+1) % Z.length,Z3 h2,?_,sl 2,λa ha=>?_⟩
   .rw [ZA,show((i:Nat):Int)+1=((i+1:Nat):Int) by lia,<-qu]
    exact Uo<|Vg im
   refine up_in ha _ λHa x ga=>⟨sl 2,λc S=>?_⟩;refine up_in S _ λHc j gc=>hR _ _ ⟨X.trans<|x.trans j,by rw[ZL,z2];rfl,?_⟩;rw[jo,ZK];exact Z7 (z3.mono<|x.trans j)<|Z5<|Yv gc<|Z4 Y5<|Z5<|Rl<|j _ _ ga
  rintro M H2 l ⟨X,z2,z3⟩ hl;refine up_in hl _ λH3 s3 g3=>⟨l,_,Y,.inl ⟨Z3 g3,λt ht=>?_⟩⟩;refine up_in ht _ λH4 R g4=>⟨sl 3,λc S=>?_⟩;refine up_in S _ λH5 G g5=>hN _ _ ⟨_,false,Y,(d.trans<|X.trans<|s3.trans<|R.trans G).sb,O.sm<|X.trans<|s3.trans<|R.trans G,?_⟩;show Has H5 _ (Bd.choose (.name own) Z<|(Sv Z).map Bd.tag).dat;refine Gd g5 (I.mono<|X.trans<|s3.trans<|R.trans G) (G _ _ g4) ?_;unfold Sv;rw[vi,Es]
  have e:(λi=>Dat.tup [.str (Y7 Z i),((Bd.tag ∘ λi=>Y7 Z<|(i+1) % Z.length) i).dat])=λk=>Dat.tup [.str (Y7 Z k),.tup [.str "tag",.str (Y7 Z<|(k+1) % Z.length)]]:=by
   funext k
   show Dat.tup [_,(Bd.tag _).dat]=_;unfold Bd.dat
   rfl
  rw[e];exact z3.mono<|s3.trans<|R.trans G
 .have ef:T=false:=by cases T <;> simp_all
  subst ef;refine⟨p,2,Y,O,by decide,by decide,λr H2 r0 r2 o g=>⟨Y,_,Y,DF (λzr=>?_) λzr=>?_⟩⟩
  .have htl2:=o.sb _ _ ne L
   have v:=VL (O.tkB o.sb) _ (Bd.ti _) I;exists ⟨_,Z3 htl2⟩;refine UW (us:=Z) (D:=Dat.str) (F:=λt=>.tup [.str t,.tup [.str "tag",.str t]]) (λJ s=>itl<|Z3<|s _ _ htl2) (UQ _) (by lia) (λt y H7 Rr m s7 hy hR=>?_) λM l H7 fl s7 hl G1=>?_
   .obtain rfl:=has_str hy
    refine⟨sl 2,λa ha=>?_⟩;refine up_in ha _ λHa x ga=>⟨sl 2,λc S=>?_⟩;refine up_in S _ λHc j gc=>hR _ _ (x.trans j) ?_;exact Yv gc<|Z4 Y5<|Z5<|Rl<|j _ _ ga
   .refine ⟨l,M,rfl,.inl ⟨Z3 hl,λt ht=>?_⟩⟩
    refine up_in ht _ λH4 R g4=>⟨sl 3,λc S=>?_⟩;refine up_in S _ λH5 G g5=>hN _ _ ⟨_,true,Y,d.sb.trans<|o.sb.trans (s7.trans<|R.trans G).sb,g.sm<|s7.trans<|R.trans G,?_⟩;show Has H5 _ (Bd.choose (.name own) Z<|Z.map Bd.tag).dat;refine Gd g5 (v.mono<|s7.trans<|R.trans G) (G _ _ g4) ?_;rw[Nt];exact G1.mono<|R.trans G
  .exact hN _ _ ⟨_,false,rfl,d.sb.trans o.sb,g,VL (O.tkB o.sb) _ (Bd.ti _) I⟩
abbrev wtp:kQ:=["way","onward","other","kind","tags"]
def yS:Yh wtp wtp (Yd TQ):=Y2
inductive SWt(H:Hp)(Q:VK):List V->Prop
 |mk (wy:Nat) (v:V) (b:Bd) (oth kd:Str) (tl:Addr) (tg:List Str) (hv:Has H v b.dat) (htl:H tl=some (.lst (tg.map V.str))) (t4:tg.length<=4) (q:∀u H',Same H H'->Has H' u (wtB wy b oth kd tg).dat->Q u H'):SWt H Q [.int (wy:Nat),v,.str oth,.str kd,.ref tl]
def SN:Sp:=λZ H Q _=>SWt H Q Z
def Cq(B:Blt e)(F:Fun K "_law_waiting" "_law_waiting" TQ f fd):Ye P w K e base CX0 (n+1) f fd wtp SN:=by
 refine F.oi yS λJ2 A S s H g Q E hr h=>?_;obtain⟨G,v,b,r,kd,tl,d,X,Z,t4,q⟩:=h;refine⟨_,YY (Y3 (Yp VX (pv 0) Ya<|Yx _) (YZ<|Yi<|Yj<|pa3 (Yr) (pv 1)<|VT Vy rfl B.tuple Vm (pa1<|JF ["tag"] [] (Jz<|pv 4) (Vc (i:=0)<|by decide) (λcl C fp s H=>Ym 0 K5 rfl (Or.inl rfl) (Or.inr rfl)) λcl C fp s H=>Yj<|pa2 (pv 0)<|Yj<|pa2 (Yr)<|pv 0)) Yo)
  (YY (Y3 (Yp VX (pv 0) Ya<|Yx _) (YZ<|Yi<|Yj<|pa5 (Yr) (pv 2) (pv 3) (pv 1)<|Yj<|pa2 (Yr)<|pv 2) Yo)
  (YZ<|Yi<|pv 1)),?_⟩
 dsimp only[Vf,Cx.nox,Cx.wish];show let T0:=_;let T1:=_;let T2:=Yl (VF _ T1 _) T0;let T3:=_;Yl (VF _ T3 _) T2 _ _ _
 intros
 refine⟨Y,_,Y,DF (λO=>?_) λO=>?_⟩
 .have M:G=1:=by have:=Zt O;injection this with this;lia
  exists ⟨_,Z3 Z⟩;refine UW (us:=d) (D:=Dat.str) (F:=λt=>.tup [.str t,.tup [.str "tag",.str t]]) (λH' s=>itl<|Z3<|s _ _ Z) (UQ _) (by lia) (λt y H7 Rr m R o hR=>?_) λg l H7 fl R hl U=>?_
  .obtain rfl:=has_str o
   refine⟨sl 2,λa j=>?_⟩;refine up_in j _ λHa u ga=>⟨sl 2,λc J=>?_⟩;refine up_in J _ λHc k gc=>hR _ _ (u.trans k) ?_;exact Yv gc<|Z4 Y5<|Z5<|Rl<|k _ _ ga
  .refine ⟨l,g,rfl,.inl ⟨Z3 hl,λt x=>?_⟩⟩
   refine up_in x _ λH4 T g4=>⟨sl 3,λc J=>?_⟩;refine up_in J _ λH5 L g5=>q _ _ (R.trans<|T.trans L) ?_;unfold wtB;rw[Zp M];refine Gd g5 (X.mono<|R.trans<|T.trans L) (L _ _ g4) ?_;rw[Nt];exact U.mono<|T.trans L
 have M:G≠1:=λz=>O (by rw[z];exact decide_eq_true Y);refine⟨Y,_,Y,DF (λN=>?_) λN=>?_⟩
 .have e2:G=2:=by have:=Zt N;injection this with this;lia
  refine⟨sl 2,λa j=>?_⟩;refine up_in j _ λH1 p g1=>⟨sl 5,λc J=>?_⟩;refine up_in J _ λH2 I g2=>q _ _ (p.trans I) ?_;unfold wtB;rw[Zq M,Zp e2];exact Pn g2 (X.mono<|p.trans I)<|MY<|I _ _ g1
 .have e2:G≠2:=λz=>N (by rw[z];exact decide_eq_true Y)
  refine q _ _ (Z8 _) ?_;unfold wtB;rw[Zq M,Zq e2];exact X
end
end K4
namespace L2
open PySem
def CF(G:tg.Nodup){i:Nat}(Z:i<tg.length):(Y7 tg i=Y7 tg (tg.length-1))↔i+1=tg.length:=by
 have J:=Vg Z;have L:=Vg (l:=tg) (j:=tg.length-1) (by lia);refine⟨λz=>?_,λz=>by rw[show tg.length-1=i by lia]⟩;rw[z]at J;have:=(List.getElem?_inj Z G).mp<|J.trans L.symm;lia
def brF(R:FP)(j:Nat)(t:Str):Dat:=.tup [.str t,(if t=Y7 R.tg (R.tg.length-1)then(if j+1=R.ns.length then Bd.name R.own else onB R j)else onB R j).dat]
def As(J:R.tg.Nodup):Bd.brs ((List.range R.tg.length).map<|brB R j) R.tg=R.tg.map (brF R j):=by
 rw[Es]
 conv=>rhs;rw[<-M6 R.tg]
 rw[vi];refine j8 λi L=>?_;have G:=jD.mp L;show _=Dat.tup [_,_];unfold brB;have Z:=CF J G
 by_cases z:i+1=R.tg.length
 .rw [Zp (Z.mpr z)]
  by_cases y:j+1=R.ns.length
  .rw [Zp y,Zp ⟨z,y⟩]
  .rw [Zq y,Zq λq=>y q.2]
 .rw [Zq (λq=>z<|Z.mp q),Zq λq=>z q.1]
end L2
namespace K4
open PySem L2
section
abbrev edp:kQ:=["names","own","tags","links"]
def E6:Yh ["names","own","tags","links","bodies","k","onward","last"] edp (Yd Mb):=Y2
def AQ:List.Nodup [("tag":Str),"last","onward","tags"]:=by decide +kernel
inductive SEd(H:Hp)(Q:VK):List V->Prop
 |mk (nl tl ll:Addr) (R:FP) (ls:List V) (hnl:H nl=some (.lst (R.ns.map V.str))) (htl:H tl=some (.lst (R.tg.map V.str))) (hll:H ll=some (.lst ls)) (hls:HasL H ls ((List.range R.ns.length).map λj=>(lkB R j).dat)) (n1:1<=R.ns.length) (n8:R.ns.length<=8) (t1:1<=R.tg.length) (t4:R.tg.length<=4) (tn:R.tg.Nodup)
  (q:∀(p:Addr)(vs:List V)(H':Hp),Same H H'->H p=none->H' p=some (.lst vs)->HasL H' vs ((List.range R.ns.length).map λj=>(enB R j).dat)->Q (.ref p) H'):SEd H Q [.ref nl,.str R.own,.ref tl,.ref ll]
def SZ:Sp:=λZ H Q _=>SEd H Q Z
def C5(B:Blt mg)(F:Fun K "_law_ending" "_law_ending" Mb f fd):Ye P w K mg base CX0 (n+1) f fd edp SZ:=by
 refine F.oi E6 λD3 A R7 s H g Q E hr h=>?_;obtain⟨nl,tl,ll,R,ls,J2,M2,R1,T8,n1,n8,t1,t4,tn,q⟩:=h;refine⟨_,YY (Yz 4 E6.nd<|JJ<|Vq)
  (YY (Ja Zv rfl (JL rfl B.range (pa1<|Y9 Yw rfl B.len Zu (pa1<|pv 0))) (Ym 5 E6.nd)
   (YY (Yz 6 E6.nd (Yj<|pa3 (Yr) (Yk Y8 (pv 0) (VB V8 (VB V9 (pv 5)<|Ya)<|Y9 Yw rfl B.len Zu (pa1<|pv 0)) λ_ _=>rfl)<|Yj<|pa1<|Yk Y8 (pv 3) (pv 5) λ_ _=>rfl) (hx:=Or.inr rfl))
  (YY (Yz 7 E6.nd (pv 6) (hx:=Or.inr rfl))
  (YY (Y3 (Yp VX (pv 5) (VB Bu (Y9 Yw rfl B.len Zu (pa1<|pv 0))<|Ya)<|Yx _) (YZ<|Yz 7 E6.nd (Yj<|pa2 (Yr)<|pv 1) (hx:=Or.inr rfl)) Yo)
  (YZ<|VZ<|Uy Zz Z0 Z1 JM (pv 4)<|pa1<|Yj<|pa3 (Yr) (Yj<|pa2 (Yr)<|pv 1)<|VT Vy rfl B.tuple Vm (pa1<|JF ["tag"] [7,6,2] (Jz<|pv 2) (Vc (i:=0)<|by decide) (λcl C fp s H=>Ym 0 AQ rfl (Or.inl rfl) (Or.inr rfl)) λcl C fp s H=>Yj<|pa2 (pv 0)<|Yk (r:=Ts K) Y8 (JJ<|pa2 (pv 2)<|pv 1) (VT Fg rfl B.int Fi (pa1<|V6 VX (pv 0) (Yk (r:=Ts K) Y8 (pv 3)<|G9 Xa Ya) rfl)) λ_ _=>rfl))))))
  (YZ<|Yi<|pv 4)),?_⟩
 show let T0:=_;let T1:=_;let T2:=_;let T3:=Yl (VF _ T2 _) T1;let T4:=Yl _ T3;let T5:=Yl _ T4;let T6:=Yl (XS _ _ T5) T0;Yl _ T6 _ _ _
 intros
 try dsimp only[Vf,Cx.nox,Cx.wish]
 refine⟨sl 0,λbl Z=>?_⟩;refine up_in Z _ λH1 s1 g1=>?_;have O1:=T8.mono s1
 have T:∀l:List Nat,∀f:Nat->Bd,Dat.tis (l.map λj=>(f j).dat)=true:=λl f=>by
  induction l with
  |nil=>simp[Dat.tis]
  |cons a l ih=>rw[ZV];unfold Dat.tis;rw[ih,Bd.ti];rfl
 exists nl,_,Y,.inl<|Z3<|s1 _ _ J2,R.ns.length,by rw[ZA],by lia,by lia
 let I:pc:=λi U L=>SameB bl H1 L/\∃g z5 z6 z7,U=[some (.ref nl),some<|.str R.own,some<|.ref tl,some<|.ref ll,some<|.ref bl,z5,z6,z7]/\g.length=i/\L bl=some (.lst g)/\HasL L g ((List.range i).map λj=>(enB R j).dat)
 refine Ti (n:=R.ns.length) I ⟨λ_ _ _ e=>e,[],_,_,_,Y,Y,g1,Z6⟩ ?_ ?_
 .rintro BB RR i U H2 hi ⟨b2,g,z5,z6,z7,rfl,lv,g2,hvs⟩
  have R5:=Jx b2 g1;have G:=b2 _ _ (Yb J2 Z)<|s1 _ _ J2;have G3:=b2 _ _ (Yb M2 Z)<|s1 _ _ M2;have R0:=b2 _ _ (Yb R1 Z)<|s1 _ _ R1;have X:=Vt R5 _ (T _ _) O1;have R8:=X.length;rw[ZA,vo]at R8;have nm:(i+1) % R.ns.length<R.ns.length:=vY _ (by lia);rw[show(0:Int)+(i:Int)=((i:Nat):Int) by lia];have il:i<ls.length:=by lia
  obtain⟨dv,e1,hv⟩:=X.get<|ZD il;rw[ZH,jb hi]at e1;cases e1;exists nl,_,Y,.inl<|Z3 G;refine⟨by rw[ZA];lia,_,.str<|Y7 R.ns<|(i+1) % R.ns.length,Z3 G,?_,_,_,Z3 R0,VE<|ZD il,sl 1,λa ha=>?_⟩
  .rw [ZA,show((i:Nat):Int)+1=((i+1:Nat):Int) by lia,<-qu]
   exact Uo<|Vg nm
  refine up_in ha _ λH3 s3 g3=>⟨sl 3,λc hc=>?_⟩;refine up_in hc _ λH4 s4 g4=>?_;have v:Has H4 (.ref c) (onB R i).dat:=RY g4 (s4 _ _ g3)<|hv.mono<|s3.trans s4;dsimp only[Vv];refine Jb (λU L=>H4=L/\U=[some (.ref nl),some<|.str R.own,some<|.ref tl,some<|.ref ll,some<|.ref bl,some<|.int (i:Nat),some<|.ref c,some (.ref c)]) ?_ λN hN=>hN _ _ ⟨rfl,rfl⟩;rintro U L ⟨rfl,rfl⟩;refine Jb (λU L=>∃u,U=[some (.ref nl),some<|.str R.own,some<|.ref tl,some<|.ref ll,some<|.ref bl,some<|.int (i:Nat),some<|.ref c,some u]/\Same H4 L/\Has L u (if i+1=R.ns.length then Bd.name R.own else onB R i).dat) ?_ ?_
  case refine_2=>
   intro N hN;refine⟨nl,_,Y,.inl<|Z3<|s4 _ _<|s3 _ _ G,rfl,_,rfl,DF (λzc=>?_) λzc=>?_⟩
   .have e:i+1=R.ns.length:=by
     have:=Zt zc;injection this with this;rw[ZA]at this;lia
    refine⟨sl 2,λd hd=>?_⟩;refine up_in hd _ λH5 s5 g5=>hN _ _ ⟨_,Y,s5,?_⟩;rw[Zp e];exact MY g5
   .have e:i+1≠R.ns.length:=λz=>zc (by rw[ZA,<-z];exact decide_eq_true<|congrArg V.int<|by lia)
    refine hN _ _ ⟨_,Y,Z8 _,?_⟩;rw[Zq e];exact v
  rintro U H5 ⟨u,rfl,s5,hu⟩;have p:=s3.trans<|s4.trans s5;have D0:=v.mono s5;refine⟨.inl ⟨Y,_,Z3<|p _ _ g2⟩,sl 2,λd hd=>?_⟩;refine up_in hd _ λH6 s6 g6=>?_;have J:=s6 _ _<|p _ _ G3;exists ⟨_,Z3 J⟩;refine UW (us:=R.tg) (D:=Dat.str) (F:=brF R i) (λL s=>itl<|Z3<|s _ _ J) (UQ _) (by lia) (λt y H7 Rr m s7 hy hR=>?_) λws l H7 fl s7 hl T7=>?_
  .obtain rfl:=has_str hy
   refine⟨sl 2,λx hx=>?_⟩;refine up_in hx _ λH8 S g8=>?_;have G2:=S _ _<|s7 _ _ J;have n0:R.tg≠[]:=λz=>by rw[z]at t1;cases t1
   have el:R.tg.map V.str=R.tg.dropLast.map V.str++[.str (Y7 R.tg<|R.tg.length-1)]:=by
    have e:=(vf n0).symm;have e2:=Vg (l:=R.tg) (j:=R.tg.length-1) (by lia);rw[<-List.getLast?_eq_getElem?,List.getLast?_eq_getLast n0]at e2
    conv=>lhs;rw[e]
    rw[ZK,ZT e2]
    rfl
   refine⟨1,Y,_,.str<|Y7 R.tg<|R.tg.length-1,Z3 G2,by rw[el];exact U8 _ _,Y,.inr ⟨_,Y,?_⟩⟩;have R6:=s5.trans<|s6.trans<|s7.trans S
   by_cases z:t=Y7 R.tg (R.tg.length-1)
   .refine ⟨_,u,Z3 g8,?_,sl 2,λe he=>?_⟩
    .rw [Zp (by rw[z];exact decide_eq_true Y)]
     rfl
    refine up_in he _ λH9 M g9=>hR _ _ (S.trans M) ?_;unfold brF;rw[Zp z];exact Yv g9<|Z4 Y5<|Z5<|hu.mono<|s6.trans<|s7.trans<|S.trans M
   .refine ⟨_,.ref c,Z3 g8,?_,sl 2,λe he=>?_⟩
    .rw [Zq (λq=>z (by have:=Zt q;injection this))]
     rfl
    refine up_in he _ λH9 M g9=>hR _ _ (S.trans M) ?_;unfold brF;rw[Zq z];exact Yv g9<|Z4 Y5<|Z5<|v.mono<|R6.trans M
  refine⟨l,ws,Y,.inl ⟨Z3 hl,λx hx=>?_⟩⟩;refine up_in hx _ λH8 S g8=>⟨sl 3,λy hy=>?_⟩;refine up_in hy _ λH9 M g9=>?_;have G1:=s7.trans<|S.trans M;have k:=p.trans<|s6.trans G1;have R3:=k _ _ g2;refine⟨bl,_,_,Y,Y,R3,Y1<|by lia,?_⟩;refine fld_in bl _ λF1 R4 T9=>⟨λb o n e=>R4 _ _ n<|k _ _<|b2 _ _ n e,_,_,_,_,rfl,?_,T9,?_⟩
  .rw [ZL,lv];rfl
  have O:=Jx R4 R3;rw[jo,ZK];refine Z7 (Vt O _ (T _ _)<|hvs.mono k)<|Z5<|VL O _ (Bd.ti _) ?_;unfold enB;refine Gd g9 (MY<|G1 _ _ g6) (M _ _ g8) ?_;rw[As tn];exact T7.mono<|S.trans M
 .rintro U H2 ⟨b2,g,z5,z6,z7,rfl,lv,g2,hvs⟩
  exact q bl g H2 (λb o e=>b2 _ _ (Yb e Z)<|s1 _ _ e) Z g2 hvs
end
end K4
namespace L2
open PySem PySem.Spec PyProof.Rows
def yp(K:W.Frag):R2:=λx y H Q=>∃(p:Addr)(J:kZ)(Z:ph)(d:Dat),y=.ref p/\SqT K H p J/\HasL H J Z/\Has H x d/\Dat.deps Z<=4/\Q (.bl<|Z.any λe=>e.pq d) H
theorem Nu:∀{Z:kZ}{G:kP}{J:ph}(e:Value->Bool),Vals Z G->HasL H Z J->(∀(i:Nat)(u:Value)(c:Dat),G[i]?=some u->J[i]?=some c->e u=c.pq d)->G.any e=J.any λc=>c.pq d
 |[],_,[],e,r,h,_=>by cases r;rfl
 |[],_,_::_,e,r,h,_=>by unfold HasL at h;exact h.elim
 |x::Z,_,[],e,r,h,_=>by unfold HasL at h;exact h.elim
 |x::Z,_,c::J,e,r,h,hz=>by
  cases r with
  |cons R L=>
   unfold HasL at h;rw[jj,jj,hz 0 _ c rfl rfl,Nu e L h.2 λi u O N M=>hz (i+1) u O N M]
def Bv(hr:Vu (k+6) X.A):OpR X (compareOp .In) (yp X.K):=by
 intro P s U H x y v u Q I a n h;obtain⟨p,o,S,d,rfl,hq,z,hd,dp,q⟩:=h;cases n;obtain⟨Z,r,pl,hz⟩:=I.tuple hq;have E:Vu 5 X.A.in1:=(hr.mono (by lia:6<=k+6)).in1;have l:=r.length
 let e:Value->Bool:=λu=> @decide (∃(i:Nat)(c:Dat),Z[i]?=some u/\S[i]?=some c/\c.pq d=true)<|Classical.propDecidable _
 have L:∀(i:Nat)(T:Value),Z[i]?=some T->∃O G,RelV O T/\S[i]?=some G/\Has H O G:=λi T J=>by
  have t:=(ZF.mp J).1;have g:=ZD (show i<o.length by lia);obtain⟨u2,M,B⟩:=r.get g;rw[J]at M;cases M;obtain⟨G,A,F⟩:=z.get g;exact⟨_,G,B,A,F⟩
 have one:∀(i:Nat)(u:Value)(c:Dat),Z[i]?=some u->S[i]?=some c->e u=c.pq d:=λi u c J m=>by
  obtain⟨O,G,C,N,R⟩:=L i u J;rw[m]at N;cases N
  cases b:c.pq d with
  |true=>exact @decide_eq_true _ (Classical.propDecidable _) ⟨i,c,J,m,b⟩
  |false=>
   refine @decide_eq_false _ (Classical.propDecidable _) ?_;rintro⟨j,c',f1,f2,f3⟩;obtain⟨x2,c2,d2,f,d4⟩:=L j u f1;rw[f2]at f;cases f;rw[RelV.inj C d2]at R;rw[Has.inj c c' R d4,f3]at b;cases b
 refine SeqAt.in_tupleAt e pl (λw hw=>?_) ⟨.bl _,H,I,Y,?_⟩
 .obtain ⟨i,t,ei⟩:=vZ.mp (show w∈Z by simpa using hw)
  have J:Z[i]?=some w:=by rw[ZD t,ei]
  obtain⟨O,G,C,N,R⟩:=L i w J;rw[one i w G J N];have dl:=Dat.deps_get N;exact(Gc I.hok 4 G d X.A.in1 (Zb dl dp) R hd C a E).eq
 .rw [show Z.toArray.any e=Z.any e by simp,Nu e r z one]
  exact q
def Fd{α:Type}{us:List α}{D F:α->Dat}(t:α->Bool)(T:∀Z,Same H Z->Itx J Z B)(S:HasL H B (us.map D))(q:us.length<=10000)(P:∀u x N (R:Bool->V->Hp->Prop),u∈us->Same H N->Has N x (D u)->(∀v L,t u=true->Same N L->Has L v (F u)->R true v L)->(t u=false->∀L,Same N L->R false .non L)->g x s0 N λA j=>tc A j λb L=>if b=true then te A L (R true)else R false .non L)(hd:∀G p Z,H p=none->Same H Z->Z p=some (.lst G)->HasL Z G ((us.filter t).map F)->Q (.ref p) Z):My J g tc te s0 Q H:=by
 have I:=S.length;rw[ZA]at I;refine Di B.length (JH<|by lia) (λi G Z=>Same H Z/\G.length<=i/\HasL Z G (((us.take i).filter t).map F)) ⟨Z8 _,ZG _,Z6⟩ (λi G Z z=>z.2.1) ?_ ?_ ?_ ?_
 .rintro i G Z hi ⟨s,_⟩
  exact(T Z s).go i hi
 .rintro G Z ⟨s,_⟩
  exact(T Z s).stop
 .rintro i G Z x H'' R hi ⟨s,z2,z3⟩ yl rT rF
  obtain⟨rfl,y⟩:=(T Z s).yld i x H'' yl;obtain⟨u,U,X⟩:=getD S y
  have E:(us.take<|i+1).filter t=(us.take i).filter t++ if t u=true then[u]else[]:=by
   rw[take_snoc U,qX]
   congr 1
   cases h:t u <;> simp[h]
  refine P u x _ R (ZJ U) s (X.mono s) (λv L O M C=>rT _ _ ⟨s.trans M,by rw[ZL];exact vV z2,?_⟩) λO L M=>rF _ ⟨s.trans M,jg z2,?_⟩
  .rw [E,Zp O,ZK]
   exact Z7 (z3.mono M)<|Z5 C
  .rw [E,Zq (by rw[O];exact Zi),j5]
   exact z3.mono M
 .rintro G Z p ⟨s,z2,z3⟩ hp
  rw[Zg (jF I.symm)]at z3;exact hd G p _ (s.free hp) (s.trans<|Ys hp _) Yf<|z3.mono<|Ys hp _
theorem Wx:∀(n:Nat)(Z:List Mk1),Z.length=n->(∀d∈Vi Z,d.dep<=n+2)/\∀k c,Z[k]?=some c->∃m,(Vi Z)[k+1]?=some (.tup [m,Js c.2])
 |0,Z,h=>by
  obtain rfl:=vg h;refine⟨λd hd=>?_,λk c e=>by simp at e⟩;have:d=.tup []:=ZQ.mp hd;subst this;simp[Dat.dep,Dat.deps]
 |n+1,Z,h=>by
  have L:Z≠[]:=λz=>by rw[z]at h;cases h
  have e:=(vf L).symm;have M:Z.dropLast.length=n:=by rw[jf,h];rfl
  obtain⟨G,N⟩:=Wx n Z.dropLast M;have bl:=Ul Z.dropLast;generalize Z.getLast L=x at e;generalize Z.dropLast=c0 at e M G N bl;subst e;rw[UJ]
  have R:(Js x.2).dep<=2:=by
   have:=TY x.2;unfold Js Dat.dep;lia
  refine⟨λd hd=>?_,λk c J=>?_⟩
  .rcases ZX.mp hd with q|q
   .have:=G d q;lia
   .rw [ZQ]at q
    subst q
    have:((Vi c0).getD x.1<|.tup []).dep<=n+2:=by
     rw[ve]
     cases e:(Vi c0)[x.1]? with
     |none=>simp[Dat.dep,Dat.deps]
     |some y=>exact G y<|ZJ e
    unfold L3;simp only[Dat.dep,Dat.deps]at this R |-;lia
  .rcases jr k c0.length with q|q
   .rw [vd q]at J
    obtain⟨m,O⟩:=N k c J;exact⟨m,by rw[vd (by lia)];exact O⟩
   .have kl:=(ZF.mp J).1
    rw[ZL,vc]at kl;have:k=c0.length:=by lia
    subst this;rw[vb (ZG _),vk]at J;cases J;exact⟨_,by rw[<-bl,vb<|ZG _,vk];rfl⟩
def Az(Z:List Mk1)(k:Nat):(bD Z k).dep<=Z.length+2:=by
 unfold bD;rw[ve]
 cases e:(Vi Z)[k]? with
 |none=>simp[Dat.dep,Dat.deps]
 |some y=>exact(Wx _ Z rfl).1 y<|ZJ e
def QF(Z:List Mk1):bD Z 0=.tup []:=by
 have go:∀(n:Nat)(Z:List Mk1),Z.length=n->(Vi Z)[0]?=some (.tup []):=λn=>by
  induction n with
  |zero=>intro Z h;obtain rfl:=vg h;rfl
  |succ n ih=>
   intro Z h;have J:Z≠[]:=λz=>by rw[z]at h;cases h
   have e:=(vf J).symm;have bl:=Ul Z.dropLast;rw[e,UJ,vd (by lia)];exact ih _ (by rw[jf,h];rfl)
 unfold bD;rw[ve,go _ Z rfl]
 rfl
def LJ(c:Mk1):DH (some c)=DH (some (0,c.2)):=by
 obtain⟨a,b⟩:=c
 match b with
 |[]=>rfl
 |[x]=>rfl
 |x::y::z=>rfl
def QG{cs:List Mk1}(h:k<cs.length):∃m Z,bD cs (k+1)=.tup [m,Js Z]/\isA cs (k+1)=DH (some (0,Z)):=by
 obtain⟨m,J⟩:=(Wx _ cs rfl).2 k _<|ZD h;exists m,cs[k].2,?_
 .unfold bD
  rw[ve,J]
  rfl
 .rw [RJ,ZD h]
  exact LJ _
def FW(h:H a=some (.tup [.str "dry"])):Has H (.ref a) (.tup [.str "dry"]):=Yv h<|Z5 Y5
end L2
namespace L2
open PySem
def F0(Z:kT)(J:1<=Z.length)(N:Z.length<=3):∃M L G,(Z++[0,0]).take 3=[M,L,G]:=by
 cases Z with
 |nil=>cases J
 |cons a t=>
  cases t with
  |nil=>exact⟨a,0,0,Y⟩
  |cons b t=>
   cases t with
   |nil=>exact⟨a,b,0,Y⟩
   |cons c t=>exact⟨a,b,c,Y⟩
def zL{l:kQ}(h:l.length=3):∃a b c,l=[a,b,c]:=by
 obtain⟨a,t,rfl,Z⟩:=V2 h;obtain⟨b,u,rfl,J⟩:=V2 Z;obtain⟨c,v,rfl,G⟩:=V2 J;obtain rfl:=vg G;exact⟨a,b,c,Y⟩
def Wds.tk(w:Wds o Z)(k:Nat):Wds o (Z.take k):=⟨w.nd.sublist<|jq _ _,λy h=>w.len y<|Zk h,λy h=>w.abc y<|Zk h⟩
def IM(s:JU H p)(b:SameB a H Z)(n:a≠p):JU Z p:=let⟨w,x,y,z,h⟩:=s;⟨w,x,y,z,b _ _ n.symm h⟩
def Pj(c:Int):∃m:Nat,c % 101=(m:Int)/\m<101:=by
 have J:=jC c (show(101:Int)≠0 by decide);have G:=jk c (show(0:Int)<101 by decide);obtain⟨m,Z⟩:=jO J;exact⟨m,Z,by lia⟩
end L2
namespace K4
open PySem L2
section
variable{C CK:Addr}
abbrev lwN:kQ:=["script","cells","stream","tags","names","kind","own","other","ending","links","bodies","k","onward","definitions","book","most","goings","outcome","done","births","askings"]
def JP:Yh lwN ["script"] (Yd B9):=Y2
def AR:List.Nodup [("k":Str),"ending","names","own","stream","tags"]:=by decide +kernel
def AU:List.Nodup [("k":Str),"bodies","kind","names","own"]:=by decide +kernel
def Qe:List.Nodup [("birth":Str),"wanter"]:=by decide +kernel
def zC:List.Nodup [("birth":Str)]:=by decide +kernel
inductive zq(K:W.Frag)(H:Hp)(Q:VK):List V->Prop
 |mk (a:Addr) (ns:List Int) (hS:SqL K H a (ns.map V.int)) (hl:ns.length<=63) (q:∀H',Q (.bl true) H'):zq K H Q [.ref a]
def D5(K:W.Frag):Sp:=λZ H Q _=>zq K H Q Z
def AD(B:Blt mg)(F:Fun K "law" "law" B9 f fd)(DS:Df P w K mg base (n+119) "_law_stream" ["cell"] NC)(DT:Df P w K mg base (n+119) "_law_take" ["stream","many"] Gj)(DW:Df P w K mg base (n+119) "_law_words" ["stream","many","letters","ways"] GD)(DM:Df P w K mg base (n+119) "_law_small" ["stream","many"] Rp)(DO:Df P w K mg base (n+119) "_law_folded" ["script","many"] (SY K))(DL:Df P w K mg base (n+119) "_law_link" lnp SW)(DE:Df P w K mg base (n+119) "_law_ending" edp SZ)(DY:Df P w K mg base (n+119) "_law_waiting" wtp SN)(DA:Df P w K mg base (n+119) "asked" Dp (BJ P w C CK 8))(mN:mg "by_names"=some (.ref gN))(kN:W.keepIn K (.ref gN)=true)(GN:Ye P w K mg base CX0 (n+119) gN gNd Dp (IX P w C CK 8))(b4:Binds K gNd Dp [.bool false])(mBk:mg "Book"=some (.ref C))(MB:Mk K C g)(GB:Ye P w K mg base CX0 (n+118) g gd ["self","kinds","definitions"] (Sa C CK))(bB:Binds K gd ["self","kinds","definitions"] []):Ye P w K mg base CX0 (n+120) f fd ["script"] (D5 K):=by
 refine F.oi JP λcdv A outer s H vs Q E hr h=>?_;obtain⟨a,ns,hS,hl,q⟩:=h;refine⟨_,YY (Yz 1 JP.nd<|V0 XE (VB Kb (VW DO hr<|pa2 (pv 0)<|Ya)<|JJ<|pa2 (Ya)<|Ya) JV<|JE<|Ya)
  (YY (Yz 2 JP.nd (VW DS hr<|pa1<|Yk Y8 (pv 1)<|Ya) (hx:=Or.inr rfl))
  (YY (Yz 3 JP.nd (V0 XE (VW DW hr<|pa4 (pv 2) (Ya) (Yr)<|Ya) JV<|JE<|VB V9 (Ya)<|VW DT hr<|pa2 (pv 2)<|Ya) (hx:=Or.inr rfl))
  (YY (Yz 4 JP.nd (V0 XE (VW DM hr<|pa2 (pv 2)<|Ya) JV<|JE<|VB V9 (Ya)<|VW DT hr<|pa2 (pv 2)<|Ya) (hx:=Or.inr rfl))
  (YY (Jw (VW DM hr<|pa2 (pv 2)<|Ya)<|S6 (n:=3) rfl (Yn (Ym 5 JP.nd (hx:=Or.inr rfl))<|Yn (Ym 6 JP.nd (hx:=Or.inr rfl))<|Yn (Ym 7 JP.nd) VM))
  (YY (Yz 8 JP.nd (V6 VX (VB V8 (Yk Y8 (pv 1)<|Ya)<|Ya) Ya rfl) (hx:=Or.inr rfl))
  (YY (Xy (i0:=9) ["k"] [8,4,6,2,3] JP.nd rfl (Or.inl rfl) (JL rfl B.range (pa1<|Y9 Yw rfl B.len Zu (pa1<|pv 4))) (Vc (i:=0)<|by decide) (λcl C fp s H=>Ym 0 AR rfl (Or.inl rfl) (Or.inr rfl)) (λcl C fp s H=>VW DL hr<|pa4 (pv 4) (pv 3) (pv 5)<|Xg (pv 1)<|Ux<|V6 VX (pv 0) (VB Bu (Y9 (r:=Sw K) Yw rfl B.len Zu (pa1<|pv 2))<|Ya) rfl))
  (YY (Yz 10 JP.nd (JJ<|Vq) (hx:=Or.inr rfl))
  (YY (Ja Zv rfl (JL rfl B.range (pa1<|Y9 Yw rfl B.len Zu (pa1<|pv 4))) (Ym 11 JP.nd)
   (YY (Yz 12 JP.nd<|Yj<|pa3 (Yr) (Yk Y8 (pv 4) (VB V8 (VB V9 (pv 11)<|Ya)<|Y9 Yw rfl B.len Zu (pa1<|pv 4)) λ_ _=>rfl)<|Yj<|pa1<|Yk Y8 (pv 9) (pv 11) λ_ _=>rfl)
  (YZ<|VZ<|Uy Zz Z0 Z1 JM (pv 10)<|pa1<|VW DY hr<|pa5 (VW DT hr<|pa2 (pv 2)<|Ya) (pv 12) (pv 7) (pv 5)<|pv 3)))
  (YY (Y3 (Vz<|pv 8) (YZ<|Yz 10 JP.nd (VW DE hr<|pa4 (pv 4) (pv 6) (pv 3)<|pv 9) (hx:=Or.inr rfl)) Yo)
  (YY (Xy (i0:=13) ["k"] [10,5,4,6] JP.nd rfl (Or.inl rfl) (JL rfl B.range (pa1<|Y9 Yw rfl B.len Zu (pa1<|pv 4))) (Vc (i:=0)<|by decide) (λcl C fp s H=>Ym 0 AU rfl (Or.inl rfl) (Or.inr rfl)) (λcl C fp s H=>Yj<|pa4 (Yk (r:=Ts K) Y8 (pv 3) (pv 0) λ_ _=>rfl) (Yj<|pa1<|Yj<|pa2 (pv 4)<|pv 2) (pv 2)<|Yk (r:=Ts K) Y8 (pv 1) (pv 0) λ_ _=>rfl))
  (YY (Yz 14 JP.nd<|Uc MB GB hr rfl mBk bB .nil Y4 (pa2 (JJ<|pa1<|Yj<|pa2 (pv 5)<|Yj<|pa2 (Yr)<|VT Vy rfl B.tuple Vm (pa1<|pv 3))<|pv 13))
  (YY (Yz 15 JP.nd<|VB V9 (Ya)<|VB V8 (Yk Y8 (pv 1)<|Ya)<|Ya)
  (YY (Yz 16 JP.nd<|VB V9 (Ya)<|VB V8 (Yk Y8 (pv 1)<|Ya)<|Ya)
  (YY (Jw (VW DA hr<|pa5 (pv 14) (Yk Y8 (pv 4)<|Ya) (Yj<|pa1<|Yk Y8 (pv 3)<|Ya) (pv 15)<|X0)<|Ve (n:=2) rfl (Yn (Ym 17 JP.nd)<|Yn (Ym 18 JP.nd) VM))
  (YY (Y3 (JZ<|Vz<|pv 8) (YY (Y3 (PW.pt<|UD (Yp (TH hr) (pv 17) (Yj<|pa1<|Yr)<|Yx _)<|Jn<|Yp (TH hr) (pv 18) (JJ<|Vq)<|Yx _) (YZ<|JT) Yo)
  (YZ<|Yi<|V6 (MS hr) (JY GN hr rfl mN kN b4 (.cons (show RelV (V.bl false) (Value.bool false)from rfl) .nil) Y4 (pa4 (pv 14) (Yk Y8 (pv 4)<|Ya) (Yj<|pa1<|Yk Y8 (pv 3)<|Ya)<|pv 16)) (Yj<|pa2 (Yj<|pa1<|Yr)<|pv 16) rfl)) Yo)
  (YY (Xy (i0:=19) ["birth","wanter"] [] JP.nd rfl (Or.inl rfl) (Jz<|pv 18) TZ (λcl C fp s H=>Ve (n:=2) rfl (Yn (Ym 0 Qe rfl (Or.inl rfl) (Or.inr rfl))<|Yn (Ym 1 Qe rfl (Or.inl rfl) (Or.inr rfl)) VM)) (λcl C fp s H=>pv 0))
  (YY (O0 (i0:=20) ["birth"] [] JP.nd rfl (Or.inl rfl) (Jz<|pv 19) (Vc (i:=0)<|by decide) (λcl C fp s H=>Ym 0 zC rfl (Or.inl rfl) (Or.inr rfl)) (λcl C fp s H=>PW.pt<|UD (Yp (MS hr) (pv 0) (Yj<|Vq)<|Yx _)<|Jn<|PW.pt<|MN (Yp VX (Y9 (r:=Sw K) Yw rfl B.len Zu (pa1<|Yk (r:=VY K) Yq (pv 0)<|Ya)) Ya<|Yx _)<|GO<|Yp RD (Yk (r:=VY K) Yq (Yk (r:=VY K) Yq (pv 0)<|Ya)<|Ya) Ya<|Yx _) (λcl C fp s H=>pv 0))
  (YY (Y3 (PW.pt<|UD (Yp (TH hr) (pv 17) (Yj<|pa2 (Yr)<|Yk Y8 (pv 3)<|G9 Xa Ya)<|Yx _)<|Jn<|Yp UF (Y9 Yw rfl B.len Zu (pa1<|pv 20)) (VB Uz (Y9 Yw rfl B.len Zu (pa1<|pv 3))<|Y9 Yw rfl B.len Zu (pa1<|pv 4))<|Yx _) (YZ<|JT) Yo)
  (YZ<|Yi<|V6 (Bv hr) (Yk (r:=VY K) Yq (JY GN hr rfl mN kN b4 (.cons (show RelV (V.bl false) (Value.bool false)from rfl) .nil) Y4 (pa4 (pv 14) (Yk Y8 (pv 4)<|Ya) (Yj<|pa1<|Yk Y8 (pv 3)<|Ya)<|pv 16))<|Ya) (Yj<|pa2 (pv 17)<|Yj<|pa1<|Yr) rfl))))))))))))))))))),?_⟩
 show let T0:=_;let T1:=_;let T2:=Yl (VF _ T1 _) T0;let T3:=Yl _ T2;let T4:=Yl _ T3;let T5:=_;let T6:=_;let T7:=Yl (VF _ T6 _) T5;let T8:=Yl (VF _ T7 _) T4;let T9:=Yl _ T8;let T10:=Yl _ T9;let T11:=Yl _ T10;let T12:=Yl _ T11;let T13:=Yl _ T12;let T14:=_;let T15:=Yl (VF _ T14 _) T13;let T16:=_;let T17:=Yl _ T16;let T18:=Yl (XS _ _ T17) T15;let T19:=Yl _ T18;let T20:=Yl _ T19;let T21:=Yl _ T20;let T22:=Yl _ T21;let T23:=Yl _ T22;let T24:=Yl _ T23;let T25:=Yl _ T24;Yl _ T25 _ _ _
 intros
 try dsimp only[Vf,Cx.nox,Cx.wish]
 refine⟨a,ns,3,by decide,by decide,hS,hl,λfl ms H1 s1 f1 g1 l1 l2=>?_⟩;refine⟨sl 2,λl0 hl0=>?_⟩;refine up_in hl0 _ λH2 s2 g2=>?_;refine⟨fl,l0,_,_,Y,Y,s2 _ _ g1,g2,Zh (Y1 (by rw[ZA];simp;lia)),λl3 h3=>?_⟩;rw[show ms.map V.int++[V.int 0,V.int 0]=(ms++[0,0]).map V.int by rw[ZK];rfl];refine up_in h3 _ λH3 s3 g3=>⟨3,Y,l3,_,Y,Z3 g3,λl4 h4=>?_⟩;have e3:Ug ((ms++[0,0]).map V.int) none (some 3)=((ms++[0,0]).take 3).map V.int:=Em _ 3;obtain⟨c0,c1,c2,ec⟩:=F0 ms l1 l2;rw[e3,ec];refine up_in h4 _ λH4 s4 g4=>?_;refine⟨_,_,Z3 g4,(show atI [V.int c0,V.int c1,V.int c2] 0=some (V.int c0)from Y),c0,Y,λp H5 f5 b5 st5=>?_⟩;have R6:l4≠p:=Yb g4 f5;refine⟨p,4,65,2,?_,st5,.inr Y,by decide,.inl ⟨by decide,by decide⟩,λtl0 tgs H6 b6 st6 ft nt ht l4' wt=>?_⟩
 .rw [<-RL];rfl
 refine⟨p,4,Y,st6,by decide,by decide,λr H7 r0 r4 b7 st7=>?_⟩;obtain⟨rr,rfl⟩:=jO r0;refine⟨_,Y,tl0,_,Y,Z3<|b7.sb _ _ nt ht,λtl htl=>?_⟩;dsimp only;rw[show(1:Int)+(rr:Int)=((1+rr:Nat):Int) by lia,Nj _ _ (by rw[ZA,l4'];lia),<-j3];refine up_in htl _ λH8 s8 g8=>?_;have st8:=st7.sm s8;have G1:tl≠p:=st7.ne htl;have lt:(tgs.take<|1+rr).length=1+rr:=by rw[ZN];lia
 refine⟨p,8,Y,st8,by decide,λnl0 ns8 H9 b9 st9 fn0 nn0 hn0 ln8 wn=>?_⟩;refine⟨p,8,Y,st9,by decide,by decide,λr' H10 r0' r8 b10 st10=>?_⟩;obtain⟨nr,rfl⟩:=jO r0';refine⟨_,Y,nl0,_,Y,Z3<|b10.sb _ _ nn0 hn0,λnl hnl=>?_⟩;dsimp only;rw[show(1:Int)+(nr:Int)=((1+nr:Nat):Int) by lia,Nj _ _ (by rw[ZA,ln8];lia),<-j3];refine up_in hnl _ λH11 s11 g11=>?_;have st11:=st10.sm s11;have I8:nl≠p:=st10.ne hnl;have lnn:(ns8.take<|1+nr).length=1+nr:=by rw[ZN];lia
 have wn':Wds 97 (ns8.take<|1+nr):=wn.tk _;refine⟨p,3,Y,st11,by decide,λkl ks3' H12 b12 st12 fkl nkl hkl l3' wk=>?_⟩;obtain⟨kd,own,M2,rfl⟩:=zL l3';exists _,Z3 hkl,Y;generalize etg:tgs.take (1+rr)=tg at g8 lt;generalize enm:ns8.take (1+nr)=nm at g11 lnn wn';have h4c:=b12 _ _ R6<|s11 _ _<|b10.sb _ _ R6<|b9 _ _ R6<|s8 _ _<|b7.sb _ _ R6<|b6 _ _ R6<|b5.sb _ _ R6 g4;have D3:=b12 _ _ G1<|s11 _ _<|b10.sb _ _ G1<|b9 _ _ G1 g8;have R4:=b12 _ _ I8 g11;clear g4 g8 g11 hn0 hkl ht htl hnl g1 g2 g3;exists _,_,Z3 h4c,(show atI [V.int c0,V.int c1,V.int c2] 1=some (V.int c1)from Y),(by show(0:Int)<2;decide),Y;obtain⟨en,een⟩:∃en:Bool,decide (V.int (c1 % 2)=V.int 1)=en:=⟨_,rfl⟩;dsimp only;rw[een];clear een;refine⟨nl,_,Y,.inl<|Z3 R4,nm.length,by rw[ZA],by lia,by lia,?_⟩;refine Vd nm.length (JH<|by lia) (λi vs Z=>SameB p H12 Z/\JU Z p/\vs.length=i/\∃O:List Bool,O.length=i/\HasL Z vs ((List.range i).map λj=>(lkD own tg (en && decide (j+1=nm.length))<|O.getD j false).dat)) ⟨SameB.refl _ _,st12,rfl,[],rfl,Z6⟩ (λi vs Z z=>z.2.2.1) (λi vs Z hi z=>hi) (λvs Z z=>ZG _) ?_ ?_
 .rintro i vs Z y H'' Rr hi ⟨b,st,z2,O,z3,z4⟩ ⟨rfl,rfl⟩ hR
  have htl':=b _ _ G1 D3;have hnl':=b _ _ I8 R4;rw[show(0:Int)+(i:Int)=((i:Nat):Int) by lia]
  have G2:∀(l:List Nat)(f:Nat->Bd),Dat.tis (l.map λj=>(f j).dat)=true:=λl f=>by
   induction l with
   |nil=>simp[Dat.tis]
   |cons a l ih=>rw[ZV];unfold Dat.tis;rw[ih,Bd.ti];rfl
  have fin:∀u lk H2,SameB p H'' H2->JU H2 p->Has H2 u (lkD own tg (en && decide (i+1=nm.length)) lk).dat->Rr u H2:=λu lk H2 b2 st2 hu=>by
   refine hR _ _ ⟨b.trans b2,st2,by rw[ZL,z2];rfl,O++[lk],by rw[ZL,z3];rfl,?_⟩;rw[jo,ZK];refine Z7 ?_<|Z5 ?_
   .have h2:=Vt (st.tkB b2) _ (G2 _ _) z4
    have e:(List.range i).map (λj=>(lkD own tg (en && decide (j+1=nm.length))<|(O++[lk]).getD j false).dat)=(List.range i).map λj=>(lkD own tg (en && decide (j+1=nm.length))<|O.getD j false).dat:=by
     refine j8 λj hj=>?_;have:=jD.mp hj;rw[ve,ve,vd (by lia)]
    rw[e];exact h2
   .have e:(O++[lk]).getD i false=lk:=by
     rw[ve,<-z3,vb<|ZG _,vk]
     rfl
    show Has H2 u (lkD own tg (en && decide (i+1=nm.length))<|(O++[lk]).getD i false).dat;rw[e];exact hu
  exists en,Y
  cases en with
  |false=>exact Y0 (by decide) ⟨p,tl,own,tg,false,st,G1,htl',by lia,by lia,fin⟩
  |true=>
   refine VG Y ⟨nl,_,Y,.inl<|Z3 hnl',rfl,?_⟩
   have e:decide (V.int (i:Nat)=V.int (((nm.map V.str).length:Nat)-1:Int))=decide (i+1=nm.length):=by
    rw[ZA,decide_eq_decide]
    constructor
    .intro z;injection z with z;lia
    .intro z;congr 1;lia
   dsimp only;rw[e];exact⟨p,tl,own,tg,decide<|i+1=nm.length,st,G1,htl',by lia,by lia,fin⟩
 rintro vls H13 ll ⟨b13,st13,z2,O,z3,z4⟩ hll;refine up_in hll _ λH14 I7 g14=>?_
 have G2:∀(l:List Nat)(f:Nat->Bd),Dat.tis (l.map λj=>(f j).dat)=true:=λl f=>by
  induction l with
  |nil=>simp[Dat.tis]
  |cons a l ih=>rw[ZV];unfold Dat.tis;rw[ih,Bd.ti];rfl
 have hls14:=z4.mono I7;have st14:=st13.sm I7;have nll:ll≠p:=st13.ne hll;have R1:=I7 _ _<|b13 _ _ G1 D3;have S:=I7 _ _<|b13 _ _ I8 R4;have h4d:=I7 _ _<|b13 _ _ R6 h4c;refine⟨sl 0,λbl F9=>?_⟩;refine up_in F9 _ λH15 J2 g15=>?_;have F4:=st14.sm J2;have nbl:bl≠p:=st14.ne F9;have hls15:=hls14.mono J2
 let R0:FP:=⟨nm,tg,kd,own,M2,λj=>O.getD j false,λ_=>0,en⟩
 have n1:1<=R0.ns.length:=by show 1<=nm.length;lia
 have n8:R0.ns.length<=8:=by show nm.length<=8;lia
 have t1:1<=R0.tg.length:=by show 1<=tg.length;lia
 have t4:R0.tg.length<=4:=by show tg.length<=4;lia
 have F5:HasL H15 vls ((List.range nm.length).map λj=>(lkB R0 j).dat):=hls15;have ll1:=F5.length;rw[ZA,vo]at ll1;have en1:JU H15 p:=F4;have nbt:tl≠bl:=Yb R1 F9;have nbn:nl≠bl:=Yb S F9;have nbL:ll≠bl:=Yb g14 F9;have nb4:l4≠bl:=Yb h4d F9
 let ST:Option V->Option V->Option V->Option V->Option V->Option V->Option V->Option V->Option V->Option V->Option V->St:=λx10 c X x13 x14 x15 x16 x17 x18 x19 x20=>[some (.ref a),some<|.ref l4,some<|.ref p,some<|.ref tl,some<|.ref nl,some<|.str kd,some<|.str own,some<|.str M2,some<|.bl en,some<|.ref ll,x10,c,X,x13,x14,x15,x16,x17,x18,x19,x20]
 exists nl,_,Y,.inl<|Z3<|J2 _ _ S,nm.length,by rw[ZA],by lia,by lia
 let I:pc:=λi U Z=>(∀b o,b≠p->b≠bl->H15 b=some o->Z b=some o)/\JU Z p/\∃(vs:kZ)(ws:List Nat)(c X:pf),U=ST (some<|.ref bl) c X none none none none none none none none/\vs.length=i/\ws.length=i/\Z bl=some (.lst vs)/\HasL Z vs ((List.range i).map λj=>(wtB (ws.getD j 0) (onB R0 j) M2 kd tg).dat)
 refine Ti (n:=nm.length) I ⟨λ_ _ _ _ e=>e,F4,[],[],none,none,Y,Y,Y,g15,Z6⟩ ?_ ?_
 .rintro BB RR i U H16 hi ⟨fr,st16,vs,ws,c,X,rfl,lv,lw,g16,hvs⟩
  have T:=fr _ _ I8 nbn<|J2 _ _ S;have O1:=fr _ _ G1 nbt<|J2 _ _ R1;have F3:=fr _ _ nll nbL<|J2 _ _ g14;have I1:TK H15 H16:=λb ys e=>fr b _ (λz=>by obtain⟨y4,hp⟩:=F4.at;rw[z,hp]at e;cases e) (λz=>by rw[z,g15]at e;cases e) e;have R5:=Vt I1 _ (G2 _ _) F5;have nmod:(i+1) % nm.length<nm.length:=vY _ (by lia);rw[show(0:Int)+(i:Int)=((i:Nat):Int) by lia];have il:i<vls.length:=by lia
  obtain⟨dv,e1,hv⟩:=R5.get<|ZD il;rw[ZH,jb hi]at e1;cases e1;exists nl,_,Y,.inl<|Z3 T;refine⟨by rw[ZA];lia,_,.str<|Y7 nm<|(i+1) % nm.length,Z3 T,?_,_,_,Z3 F3,VE<|ZD il,sl 1,λa1 ha1=>?_⟩
  .rw [ZA,show((i:Nat):Int)+1=((i+1:Nat):Int) by lia,<-qu]
   exact Uo<|Vg nmod
  refine up_in ha1 _ λH17 F8 g17=>⟨sl 3,λa2 ha2=>?_⟩;refine up_in ha2 _ λH18 s18 g18=>?_;have hon:Has H18 (.ref a2) (onB R0 i).dat:=RY g18 (s18 _ _ g17)<|hv.mono<|F8.trans s18;have M:=F8.trans s18;have st18:=st16.sm M;have g18b:=M _ _ g16;refine⟨.inl ⟨Y,_,Z3 g18b⟩,p,4,Y,st18,by decide,by decide,λw H19 w0 w4 b19 st19=>?_⟩;obtain⟨w,rfl⟩:=jO w0;have tk19:=st18.tkB b19.sb;have D0:=b19.sb _ _ G1<|M _ _ O1;refine⟨w,.ref a2,onB R0 i,M2,kd,tl,tg,VL tk19 _ (Bd.ti _) hon,D0,by lia,λu H20 F7 hu=>?_⟩;have g20:=F7 _ _<|b19.sb _ _ nbl g18b;refine⟨bl,_,_,Y,Y,g20,Y1<|by lia,?_⟩;refine fld_in bl _ λH21 b21 g21=>?_;have tk21:=Jx b21 g20;have st21:=IM (st19.sm F7) b21 nbl;exists λb o n1 n2 e=>b21 _ _ n2<|F7 _ _<|b19.sb _ _ n1<|M _ _<|fr b o n1 n2 e,st21,_,ws++[w],_,_,rfl,by rw[ZL,lv];rfl,by rw[ZL,lw];rfl,g21;rw[jo,ZK];refine Z7 ?_<|Z5 ?_
  .have h2:=Vt tk21 _ (G2 _ _)<|(Vt tk19 _ (G2 _ _)<|hvs.mono M).mono F7
   have e:(List.range i).map (λj=>(wtB ((ws++[w]).getD j 0) (onB R0 j) M2 kd tg).dat)=(List.range i).map λj=>(wtB (ws.getD j 0) (onB R0 j) M2 kd tg).dat:=by
    refine j8 λj hj=>?_;have:=jD.mp hj;rw[ve,ve,vd (by lia)]
   rw[e];exact h2
  .have e:(ws++[w]).getD i 0=w:=by
    rw[ve,<-lw,vb<|ZG _,vk]
    rfl
   show Has H21 u (wtB ((ws++[w]).getD i 0) (onB R0 i) M2 kd tg).dat;rw[e];exact VL tk21 _ (Bd.ti _) hu
 rintro U H16 ⟨fr,st16,vs,ws,c,X,rfl,lv,lw,g16,hvs⟩
 let R:FP:=⟨nm,tg,kd,own,M2,λj=>O.getD j false,λj=>ws.getD j 0,en⟩
 have T:=fr _ _ I8 nbn<|J2 _ _ S;have O1:=fr _ _ G1 nbt<|J2 _ _ R1;have F3:=fr _ _ nll nbL<|J2 _ _ g14;have h4e:=fr _ _ R6 nb4<|J2 _ _ h4d;have I1:TK H15 H16:=λb ys e=>fr b _ (λz=>by obtain⟨y4,hp⟩:=F4.at;rw[z,hp]at e;cases e) (λz=>by rw[z,g15]at e;cases e) e;have R5:HasL H16 vls ((List.range R.ns.length).map λj=>(lkB R j).dat):=Vt I1 _ (G2 _ _) F5;have on:FO R:=⟨n1,n8,t1,t4,wk,⟨tgs,rr,wt,by lia,etg.symm⟩,wn'⟩;dsimp only[Vv,II];refine Jb (λU Z=>∃(b2:Addr)(F6:kZ),U=ST (some<|.ref b2) c X none none none none none none none none/\Same H16 Z/\Z b2=some (.lst F6)/\HasL Z F6 ((List.range nm.length).map λj=>(bdF R j).dat)) ?_ ?_
 case refine_2=>
  intro N hN;refine⟨en,Y,DF (λzc=>?_) λzc=>?_⟩
  .refine ⟨nl,tl,ll,R,vls,T,O1,F3,R5,n1,n8,t1,t4,on.tn,λb2 F6 Z s' f' g' h'=>hN _ _ ⟨b2,F6,rfl,s',g',?_⟩⟩
   have e:(λj=>(bdF R j).dat)=λj=>(enB R j).dat:=by
    funext j
    show Bd.dat (if en=true then enB R j else unB R j)=_;rw[Zp zc]
   rw[e];exact h'
  .refine hN _ _ ⟨bl,vs,rfl,Z8 _,g16,?_⟩
   have e:(λj=>(bdF R j).dat)=λj=>(wtB (ws.getD j 0) (onB R0 j) M2 kd tg).dat:=by
    funext j
    show Bd.dat (if en=true then enB R j else unB R j)=_;rw[Zq zc]
    rfl
   rw[e];exact hvs
 rintro U H17 ⟨b2,F6,rfl,F8,g17,I9⟩;have F2:=F8 _ _ T;have S1:=F8 _ _ O1;have lv2:=I9.length;rw[ZA,vo]at lv2;refine⟨nl,_,Y,.inl<|Z3 F2,nm.length,by rw[ZA],by lia,by lia,?_⟩;refine Vd nm.length (JH<|by lia) (λi us Z=>Same H17 Z/\us.length=i/\HasL Z us ((List.range i).map λj=>FZ<|ddF R j)) ⟨Z8 _,rfl,Z6⟩ (λi vs Z z=>z.2.1) (λi vs Z hi z=>hi) (λvs Z z=>ZG _) ?_ ?_
 .rintro i us Z y H'' Rr hi ⟨u1,u2,u3⟩ ⟨rfl,rfl⟩ hR
  rw[show(0:Int)+(i:Int)=((i:Nat):Int) by lia];have il:i<F6.length:=by lia
  obtain⟨dv,e1,hv⟩:=I9.get<|ZD il;rw[ZH,jb hi]at e1;cases e1;refine⟨_,.str<|Y7 nm i,Z3<|u1 _ _ F2,Uo<|Vg hi,sl 2,λa1 ha1=>?_⟩;refine up_in ha1 _ λHa sa ga=>⟨sl 1,λa2 ha2=>?_⟩;refine up_in ha2 _ λHb sb gb=>⟨_,_,Z3<|sb _ _<|sa _ _<|u1 _ _ g17,VE<|ZD il,sl 4,λa3 ha3=>?_⟩;refine up_in ha3 _ λHc sc gc=>hR _ _ ⟨u1.trans<|sa.trans<|sb.trans sc,by rw[ZL,u2];rfl,?_⟩;rw[jo,ZK];refine Z7 (u3.mono<|sa.trans<|sb.trans sc)<|Z5 ?_;exact Yv gc<|Z4 Y5<|Z4 (Yv (sc _ _ gb)<|Z5<|Yv (sc _ _<|sb _ _ ga)<|Z4 Y5<|Z5 Y5)<|Z4 Y5<|Z5<|hv.mono<|u1.trans<|sa.trans<|sb.trans sc
 rintro us H18 dl ⟨u1,u2,u3⟩ hdl;refine up_in hdl _ λH19 s19 g19=>?_;have I6:=u1.trans s19
 have hds:HasL H19 us ((fds R).map FZ):=by
  have:=u3.mono s19;unfold fds;rw[vi];exact this
 have D0:=I6 _ _ S1;refine⟨tl,_,Y,.inl ⟨Z3 D0,λt1' ht1=>?_⟩⟩;refine up_in ht1 _ λH20 F7 g20=>⟨sl 2,λt2 ht2=>?_⟩;refine up_in ht2 _ λH21 s21 g21=>⟨sl 2,λt3 ht3=>?_⟩;refine up_in ht3 _ λH22 s22 g22=>⟨sl 1,λkl2 hkl2=>?_⟩;refine up_in hkl2 _ λH23 s23 g23=>?_;have I5:=F7.trans<|s21.trans<|s22.trans s23;intro bx dx hx0 hdx hne;have sX:Same H23 (upd (upd H23 dx<|.own bx) bx<|.ins C dx []):=λb o e=>by rw[Yg (Yb e hx0),Yg (Yb e hdx)];exact e
 have tx:upd (upd H23 dx<|.own bx) bx (.ins C dx []) bx=some (.ins C dx []):=Yf;generalize upd (upd H23 dx<|.own bx) bx (.ins C dx [])=H24 at tx sX |-
 have hk:HasL H24 [.ref t3] ((ks3 R).map NZ):=by
  refine Z5<|Yv (sX _ _<|s23 _ _ g22)<|Z4 Y5<|Z5 ?_;unfold Shp.dat;exact Yv (sX _ _<|s23 _ _<|s22 _ _ g21)<|Z4 Y5<|Z5<|Yv (sX _ _<|s23 _ _<|s22 _ _<|s21 _ _ g20)<|UQ _
 have I4:=I5.trans sX;have lfd:(fds R).length=nm.length:=by unfold fds;rw[ZA,vo]
 refine⟨bx,dx,kl2,dl,_,_,ks3 R,c3 R,λ_=>0,fds R,tx,sX _ _ g23,hk,on.kk,by simp,on.kg,(λk h=>⟨tg,by rw[ZQ.mp h]⟩),by simp,by simp,I4 _ _ g19,hds.mono I4,by lia,by lia,by rw[Lj];exact on.wn,on.hd,on.rt,λH25 keep bi=>⟨Y,?_⟩⟩
 have k25:∀{b o},H17 b=some o->H25 b=some o:=λe=>by
  have e23:=I5 _ _<|I6 _ _ e;exact keep _ _ (Yb e23 hx0)<|sX _ _ e23
 have R8:=k25 S1;have F1:=k25 F2;have h425:=k25<|F8 _ _ h4e;clear hk g23 g22 g21 g20 hds g19 u3 I9 g17 R5 hvs g16 F5 hls15 hls14 z4 g15 g14 R1 S h4d D3 R4 h4c;obtain⟨m,em,m1⟩:=Pj c2;dsimp only[Vv];refine Jb (λU Z=>H25=Z/\U=ST (some<|.ref b2) c X (some<|.ref dl) (some<|.ref bx) (some<|.int ((400+m:Nat):Int)) none none none none none) ?_ ?_
 case refine_2=>
  intro N hN;refine⟨_,_,Z3 h425,(show atI [V.int c0,V.int c1,V.int c2] 2=some (V.int c2)from Y),(by show(0:Int)<101;decide),?_⟩;have e:V.int (400+c2 % 101)=V.int ((400+m:Nat):Int):=by rw[em];congr 1
  exact hN _ _ ⟨Y,congrArg (λv=>ST (some<|.ref b2) c X (some<|.ref dl) (some<|.ref bx) (some v) none none none none none) e⟩
 rintro U Z ⟨rfl,rfl⟩;refine Jb (λU Z=>H25=Z/\U=ST (some<|.ref b2) c X (some<|.ref dl) (some<|.ref bx) (some<|.int ((400+m:Nat):Int)) (some<|.int ((1900+m:Nat):Int)) none none none none) ?_ ?_
 case refine_2=>
  intro N hN;refine⟨_,_,Z3 h425,(show atI [V.int c0,V.int c1,V.int c2] 2=some (V.int c2)from Y),(by show(0:Int)<101;decide),?_⟩;have e:V.int (1900+c2 % 101)=V.int ((1900+m:Nat):Int):=by rw[em];congr 1
  exact hN _ _ ⟨Y,congrArg (λv=>ST (some<|.ref b2) c X (some<|.ref dl) (some<|.ref bx) (some<|.int ((400+m:Nat):Int)) (some v) none none none none) e⟩
 rintro U Z ⟨rfl,rfl⟩;have K0:=on.k;have n00:0<nm.length:=by lia
 have t00:0<tg.length:=by lia
 have ra:∀{Z gv},Same H25 Z->Z gv=some (.tup [.str (Y7 tg 0)])->RgA Z C CK bx gv (ks3 R) (λ_=>0) (fds R) (ddF R 0) [Y7 tg 0]:=λs g=>⟨bi.mono s,Mq n00,g,rfl,(by show 1<=3;lia),(by simp[ddF]),λi p u h1 h2=>by
  cases i with
  |zero=>
   cases h1;cases h2;exact⟨tg,sh3,ZJ<|Vg t00⟩
  |succ i=>simp at h2⟩
 have a0:atI (nm.map V.str) 0=some (.str<|Y7 nm 0):=Uo (k:=0)<|Vg n00;have b0:atI (tg.map V.str) 0=some (.str<|Y7 tg 0):=Uo (k:=0)<|Vg t00;clear bi;refine⟨_,_,Z3 F1,a0,_,_,Z3 R8,b0,sl 1,λgv hgv=>?_⟩;refine up_in hgv _ λH26 s26 g26=>?_
 cases hen:en with
 |false=>
  have he:R.en=false:=hen;obtain⟨j1,Rr,G,gs1,eR,eh,_⟩:=NB (bw:=true) (mo:=400+m) K0 he (λRr G=>Rr=.dry/\G.h=[]/\True) (λ_=>by lia) (by lia) λG _ h=>⟨rfl,h,trivial⟩;have dok:QL G:=⟨λk hk=>(by rw[eh]at hk;cases hk),by rw[eh];show 0<=900;lia⟩;refine⟨bx,gv,ks3 R,λ_=>0,fds R,ddF R 0,[Y7 tg 0],400+m,true,j1,Rr,G,ra s26 g26,by lia,by lia,gs1,dok,λt r l us1 Hm H27 sm s27 ht hr' fl' hl' hus=>?_⟩;subst eR;obtain⟨td,rfl,htd⟩:=hr';have edn:dnL G=[]:=by unfold dnL;rw[eh];rfl
  rw[edn]at hus;obtain rfl:=VC hus;exists _,Z2 ht,Y;refine⟨en,Y,VG (by rw[hen];rfl) ?_⟩;refine⟨sl 1,λd1 hd1=>?_⟩;refine up_in hd1 _ λH28 s28 g28=>?_;refine⟨.tup [.str "dry"],.tup [.str "dry"],FW<|s28 _ _ htd,FW g28,by simp[Dat.dep,Dat.deps],_,rfl,Y0 (by rw[Dat.pq_self];simp) ?_⟩;refine⟨sl 0,λd2 hd2=>?_⟩;refine up_in hd2 _ λH29 s29 g29=>?_;have L:=s28.trans s29;refine⟨.lst [],.lst [],?_,?_,by simp[Dat.dep,Dat.deps],_,Y,Y0 (by rw[Dat.pq_self];simp) ?_⟩
  .unfold Has
   exact⟨l,[],Y,L _ _ hl',Z6⟩
  .unfold Has
   exact⟨d2,[],Y,g29,Z6⟩
  obtain⟨j2,Rr2,SR2,gs2,eR2,eB⟩:=NB (bw:=false) (mo:=1900+m) K0 he (λRr G=>Rr=.dry/\G.bg=1900+m) (λz=>by cases z) (by lia) λG h _=>⟨rfl,h⟩;have J:=s26.trans<|s27.trans L;refine⟨_,_,Z3<|J _ _ F1,a0,_,_,Z3<|J _ _ R8,b0,sl 1,λgv2 hgv2=>?_⟩;refine up_in hgv2 _ λH30 G3 g30=>?_;refine⟨bx,gv2,ks3 R,λ_=>0,fds R,ddF R 0,[Y7 tg 0],1900+m,false,j2,Rr2,SR2,ra (J.trans G3) g30,by lia,by lia,gs2,λt' r' Hm' H31 sm' s31 R3 hr2=>?_⟩;subst eR2;obtain⟨td2,rfl,htd2⟩:=hr2;refine⟨sl 1,λd3 hd3=>?_⟩;refine up_in hd3 _ λH32 s32 g32=>⟨sl 2,λd4 hd4=>?_⟩;refine up_in hd4 _ λH33 I2 g33=>?_;rw[eB]at R3;have I3:=s32.trans I2;exists .tup [.tup [.str "dry"],.int ((1900+m:Nat):Int)],.tup [.tup [.str "dry"],.int ((1900+m:Nat):Int)],?_,?_,?_
  .exact Yv (I3 _ _ R3) (Z4 (FW<|I3 _ _ htd2)<|Z5 (by unfold Has;rfl))
  .exact Yv g33 (Z4 (FW<|I2 _ _ g32)<|Z5 (by unfold Has;rfl))
  .simp only[Dat.dep,Dat.deps]
   lia
  .rw [Dat.pq_self]
   exact q H33
 |true=>
  have he:R.en=true:=hen;obtain⟨j1,Rr,G,gs1,eR,ps⟩:=OW (mo:=400+m) K0 he (by lia) (λRr G=>Rr=.hd (Y7 tg<|tg.length-1)/\Pst R G) λG h=>⟨rfl,h⟩;refine⟨bx,gv,ks3 R,λ_=>0,fds R,ddF R 0,[Y7 tg 0],400+m,true,j1,Rr,G,ra s26 g26,by lia,by lia,gs1,ps.dn,λt r l us1 Hm H27 sm s27 ht hr' fl' hl' hus=>?_⟩;subst eR;have hr2:Has H27 r (.tup [.str "worth",.str (Y7 tg<|tg.length-1)]):=hr';exists _,Z2 ht,Y;refine⟨en,Y,Y0 (by rw[hen];decide) ?_⟩;exists ⟨_,Z3 hl'⟩;have lh:=ps.l;refine UW (us:=G.h) (D:=λp=>.tup [bD G.s.1 p.1,owD G.s.1 ((G.r.lookup p.1).getD none)]) (F:=λp=>bD G.s.1 p.1) (λZ s=>itl<|Z3<|s _ _ hl') hus (by lia) (λu y H7 Rr' hm s7 hy hR=>?_) λbvs bl3 H28 fb s28 hb3 hbv=>?_
  .obtain ⟨t',ys,rfl,R3,hyl⟩:=Yu hy
   obtain⟨x1,r1,rfl,e1,hlA⟩:=Yc hyl;obtain⟨x2,r2,rfl,e2,hlB⟩:=Yc hlA;obtain rfl:=VC hlB;exact⟨_,Z2 R3,Y,hR _ _ (Z8 _) e1⟩
  exists ⟨_,Z3 hb3⟩;refine Fd (us:=G.h) (D:=λp=>bD G.s.1 p.1) (F:=λp=>bD G.s.1 p.1) (λp=>isA G.s.1 p.1) (λZ s=>itl<|Z3<|s _ _ hb3) hbv (by lia) (λu y H7 Rr' hm s7 hy rT rF=>?_) λavs al H29 fa s29 ha hav=>?_
  .have uk:=(ps.dn.ok u.1<|jK hm).1
   have dp:=Az G.s.1 u.1;have ls:=ps.sl;refine⟨sl 0,λe1 he1=>?_⟩;refine up_in he1 _ λH8 s8 g8=>?_;exists bD G.s.1 u.1,.tup [],hy.mono s8,Yv g8 Z6,by lia,_,rfl;obtain⟨k,wv⟩:=u
   cases k with
   |zero=>
    rw[show bD G.s.1 ((0,wv):Nat×Str).1=.tup []from QF _];refine VG (by rw[Dat.pq_self])<|VG rfl ?_;exact rT _ _ Y s8 (hy.mono s8)
   |succ k=>
    obtain⟨m',pl,e1,e2⟩:=QG (cs:=G.s.1) (k:=k) uk;have hy8:Has H8 y (.tup [m',Js pl]):=by rw[<-e1];exact hy.mono s8
    have eb:(bD G.s.1 ((k+1,wv):Nat×Str).1).pq (.tup [])=false:=by
     rw[show bD G.s.1 ((k+1,wv):Nat×Str).1=_ from e1];unfold Dat.pq Dat.pqs
     rfl
    refine Y0 (by rw[eb];decide) ?_;obtain⟨t',ys,rfl,R3,hyl⟩:=Yu hy8;obtain⟨x1,r1,rfl,f1',hlA⟩:=Yc hyl;obtain⟨x2,r2,rfl,f2',hlB⟩:=Yc hlA;obtain rfl:=VC hlB;obtain⟨pa,rfl,hpa⟩:=Jk f2';have isE:isA G.s.1 ((k+1,wv):Nat×Str).1=DH (some (0,pl)):=e2;exists _,_,Z2 R3,at1,pa,_,Y,.inr<|Z2 hpa,rfl,_,rfl
    cases pl with
    |nil=>exact Y0 (by decide)<|Y0 (by decide)<|rF isE H8 s8
    |cons x pl=>
     cases pl with
     |cons y2 z2'=>exact Y0 (by simp;lia)<|Y0 (by decide)<|rF isE H8 s8
     |nil=>
      refine VG (decide_eq_true Y) ⟨_,_,Z2 R3,at1,_,_,Z2 hpa,(show atI [V.int x] 0=some (V.int x)from Y),_,Y,?_⟩
      by_cases zx:0<x
      .exact VG (decide_eq_true zx) (rT _ _ (isE.trans<|decide_eq_true zx) s8<|hy.mono s8)
      .exact Y0 (by simp;lia) (rF (isE.trans<|Zy zx) H8 s8)
  have L:=s28.trans s29;have J:=s26.trans<|s27.trans L;have R7:=J _ _ R8;have S2:=J _ _ F1
  have el:tg.map V.str=tg.dropLast.map V.str++[.str (Y7 tg<|tg.length-1)]:=by
   have n0:tg≠[]:=λz=>by rw[z]at t00;cases t00
   have e:=(vf n0).symm;have e2:=Vg (l:=tg) (j:=tg.length-1) (by lia);rw[<-List.getLast?_eq_getElem?,List.getLast?_eq_getLast n0]at e2
   conv=>lhs;rw[e]
   rw[ZK,ZT e2]
   rfl
  refine⟨1,Y,_,.str<|Y7 tg<|tg.length-1,Z3 R7,by rw[el];exact U8 _ _,sl 2,λw1 hw1=>?_⟩;refine up_in hw1 _ λH30 G3 g30=>?_;have hrr:=hr2.mono<|L.trans G3;refine⟨.tup [.str "worth",.str (Y7 tg<|tg.length-1)],.tup [.str "worth",.str (Y7 tg<|tg.length-1)],hrr,Yv g30<|Z4 Y5<|Z5 Y5,by simp[Dat.dep,Dat.deps],_,rfl,Y0 (by rw[Dat.pq_self];simp) ?_⟩;have lav:=hav.length;have cmul:OH ((tg.map V.str).length:Nat) ((nm.map V.str).length:Nat):=.inl (by rw[ZA];lia);rw[ZA,ps.n]at lav;refine⟨al,_,Y,.inl<|Z3<|G3 _ _ ha,tl,_,rfl,.inl<|Z3<|G3 _ _ R7,nl,_,rfl,.inl<|Z3<|G3 _ _ S2,cmul,rfl,_,rfl,Y0 ?_ ?_⟩
  .rw [ZA,ZA,lav]
   show ¬(!decide (V.int ((tg.length*nm.length:Nat):Int)=V.int ((tg.length:Int)*(nm.length:Int))))=true;rw[Int.natCast_mul];simp
  obtain⟨j2,Rr2,SR2,gs2,eR2⟩:=OX (mo:=1900+m) K0 he (by lia) (λRr G=>Rr=.dry\/Rr=.hd (Y7 tg<|tg.length-1)) (λ_=>.inl rfl) λ_=>.inr rfl;refine⟨_,_,Z3<|G3 _ _ S2,a0,_,_,Z3<|G3 _ _ R7,b0,sl 1,λgv2 hgv2=>?_⟩;refine up_in hgv2 _ λH31 s31 g31=>?_;refine⟨bx,gv2,ks3 R,λ_=>0,fds R,ddF R 0,[Y7 tg 0],1900+m,false,j2,Rr2,SR2,ra (J.trans<|G3.trans s31) g31,by lia,by lia,gs2,λt' r' Hm' H32 sm' s32 R3 hr3=>?_⟩;refine⟨_,_,Z2 R3,at0,sl 1,λw2 hw2=>?_⟩;refine up_in hw2 _ λH33 I2 g33=>⟨sl 2,λw3 hw3=>?_⟩;refine up_in hw3 _ λH34 s34 g34=>?_;have s3034:=s31.trans<|s32.trans<|I2.trans s34
  have hx:∃d,(d=.tup [.str "dry"]\/d=.tup [.str "worth",.str (Y7 tg<|tg.length-1)])/\Has H32 r' d:=by
   rcases eR2 with z|z
   .subst z
    obtain⟨td,rfl,htd⟩:=hr3;exact⟨_,.inl Y,FW htd⟩
   .subst z
    exact⟨_,.inr Y,hr3⟩
  obtain⟨d,hd,hrd⟩:=hx;exists w3,_,[.tup [.str "worth",.str (Y7 tg<|tg.length-1)],.tup [.str "dry"]],d,rfl,Z2 g34,Z4 (hrr.mono s3034)<|Z5<|FW<|s34 _ _ g33,hrd.mono<|I2.trans s34,?_
  .simp [Dat.dep,Dat.deps]
  .have e:([Dat.tup [.str "worth",.str (Y7 tg<|tg.length-1)],.tup [.str "dry"]].any λe=>e.pq d)=true:=by
    rw[jj,jj];rcases hd with rfl|rfl
    .rw [Dat.pq_self (.tup [.str "dry"]),Bool.true_or,Bool.or_true]
    .rw [Dat.pq_self,Bool.true_or]
   rw[e];exact q H34
end
def At(K:W.Frag)(f:Addr)(x q:Str)(st:Stmt):Prop:=∃(L:Value)(G:kW)(kV M J:Value)(O:kW)(Z N:Value)(sl:Array (Option Value)),K.lookup f=some ⟨L,G,.func<|W.fnOf x q (JO st) (Vw st) (Yd st) .none kV M J O Z N,sl⟩/\W.codeIn K Z q=true/\W.keepIn K (.ref f)=true
def At.of{K:W.Frag}{f:Addr}{x q:Str}{st:Stmt}{L:Value}{G:kW}{kV M J:Value}{O:kW}{Z N:Value}{sl:Array (Option Value)}(l:K.lookup f=some ⟨L,G,.func<|W.fnOf x q (JO st) (Vw st) (Yd st) .none kV M J O Z N,sl⟩)(d:W.codeIn K Z q=true)(k:W.keepIn K (.ref f)=true):At K f x q st:=⟨L,G,kV,M,J,O,Z,N,sl,l,d,k⟩
section
variable{K:W.Frag}{x q:Str}{st:Stmt}{f:Addr}{fd:FuncData}{ps:kQ}
def BA1(x q:Str)(st:Stmt)(ps:kQ)(us:kP):Prop:=∀(kV Z G:Value)(M:kW)(J L:Value),bindArgs (W.fnOf x q (JO st) (Vw st) (Yd st) .none kV Z G M J L) ⟨us,[]⟩=pure (ps.zip us)
def OI:Nat->(List Value->Prop)->Prop
 |0,R=>R []
 |n+1,R=>∀a,OI n λus=>R (a::us)
theorem OI.at:∀{n:Nat}{R:List Value->Prop}{Z:kP},OI n R->Z.length=n->R Z
 |0,_,[],h,_=>h
 |_+1,R,a::_,h,e=>OI.at (R:=λZ=>R (a::Z)) (h a)<|Nat.succ.inj e
def _root_.L2.Fun.bn(F:Fun K x q st f fd)(ps:kQ)(h:OI ps.length (BA1 x q st ps)):Binds K fd ps []:=F.binds λ_ _ _ _ _ _ _ e=>h.at e _ _ _ _ _ _
def _root_.L2.Fun.b1(F:Fun K x q st f fd)(p:Str)(h:∀a,BA1 x q st [p] [a]:=by exact λ_ _ _ _ _ _ _=>Y):Binds K fd [p] []:=F.bn [p] h
def _root_.L2.Fun.b2(F:Fun K x q st f fd)(p Z:Str)(h:∀a b,BA1 x q st [p,Z] [a,b]:=by exact λ_ _ _ _ _ _ _ _=>Y):Binds K fd [p,Z] []:=F.bn [p,Z] h
def _root_.L2.Fun.b3(F:Fun K x q st f fd)(p J Z:Str)(h:∀a b c,BA1 x q st [p,J,Z] [a,b,c]:=by exact λ_ _ _ _ _ _ _ _ _=>Y):Binds K fd [p,J,Z] []:=F.bn [p,J,Z] h
def _root_.L2.Fun.b4(F:Fun K x q st f fd)(p G J Z:Str)(h:∀a b c d,BA1 x q st [p,G,J,Z] [a,b,c,d]:=by exact λ_ _ _ _ _ _ _ _ _ _=>Y):Binds K fd [p,G,J,Z] []:=F.bn [p,G,J,Z] h
def _root_.L2.Fun.b5(F:Fun K x q st f fd)(p L G J Z:Str)(h:∀a b c d i,BA1 x q st [p,L,G,J,Z] [a,b,c,d,i]:=by exact λ_ _ _ _ _ _ _ _ _ _ _=>Y):Binds K fd [p,L,G,J,Z] []:=F.bn [p,L,G,J,Z] h
end
def At.fn{K:W.Frag}{f:Addr}{x q:Str}{st:Stmt}(h:At K f x q st):∃Z,Fun K x q st f Z:=by
 obtain⟨_,_,_,_,_,_,_,_,_,l,d,k⟩:=h;exact⟨_,Lg (st:=st) l d k⟩
def GA(K:W.Frag)(x:Str)(f:Addr)(st:Stmt):Prop:=W.nsIn K mainGlobals x=some (some<|.ref f)/\At K f x x st
def GR(K:W.Frag)(a:Addr)(y x:Str)(f:Addr)(st:Stmt):Prop:=W.nsIn K a y=some (some<|.ref f)/\At K f x x st
def GM(K:W.Frag)(C:Addr)(x q:Str)(f:Addr)(st:Stmt):Prop:=(W.findIn K (.ref C) x=some (some<|.ref f)/\W.isFn K (.ref f)=true)/\At K f x q st
def GN(K:W.Frag)(x:Str):Prop:=W.nsIn K mainGlobals x=some none
def GC(K:W.Frag)(x:Str)(f:Addr):Prop:=W.nsIn K mainGlobals x=some (some<|.ref f)
def GV(K:W.Frag)(x:Str)(v:V)(u:Value):Prop:=W.nsIn K mainGlobals x=some (some u)/\RelV v u
def GF(K:W.Frag)(C:Addr)(x:Str):Prop:=W.findIn K (.ref C) x=some none
def GA.go{K:W.Frag}{h:Heap}{J:Str->Option Value}{x:Str}{f:Addr}{st:Stmt}(X:K.In h)(G:h.Ns mainGlobals J)(a:GA K x f st):∃Z,Fun K x x st f Z/\W.keepIn K (.ref f)=true/\J x=some (.ref f):=
 let⟨Z,F⟩:=a.2.fn
 ⟨Z,F,F.kp,W.mg_of X G a.1⟩
def GR.go{K:W.Frag}{c:Addr}{y x:Str}{f:Addr}{st:Stmt}(a:GR K c y x f st):∃Z,Fun K x x st f Z/\W.keepIn K (.ref f)=true/\W.nsIn K c y=some (some<|.ref f):=
 let⟨Z,F⟩:=a.2.fn
 ⟨Z,F,F.kp,a.1⟩
def GM.go{K:W.Frag}{c:Addr}{x q:Str}{f:Addr}{st:Stmt}(a:GM K c x q f st):∃Z,Fun K x q st f Z/\VJ K c x f:=
 let⟨Z,F⟩:=a.2.fn
 ⟨Z,F,a.1.1,a.1.2,F.kp⟩
def GV.go{K:W.Frag}{h:Heap}{Z:Str->Option Value}{x:Str}{v:V}{u:Value}(X:K.In h)(G:h.Ns mainGlobals Z)(a:GV K x v u):Z x=some u/\RelV v u:=⟨W.mg_of X G a.1,a.2⟩
structure CA(K:W.Frag)(C:Addr):Prop where
 pg:W.plainGet K C Str.empty=true
 hd:W.hasDictIn K C=true
 po:W.plainOver K C=true
 sa:W.findIn K (.ref C) "__setattr__"=some (some (.builtin "object.__setattr__"))
 ma:W.makesIn K C=true
 kc:W.keepIn K (.ref C)=true
def AtD(K:W.Frag)(f:Addr)(x q:Str)(st:Stmt):Prop:=∃(R:Value)(O:kW)(kV B N:Value)(E:kW)(Z D:Value)(sl:Array (Option Value))(T:Addr)(M:Value)(L:kW)(J:Nat)(G:Array (Option Value)),K.lookup f=some ⟨R,O,.func<|W.fnOf x q (JO st) (Vw st) (Yd st) (.ref T) kV B N E Z D,sl⟩/\W.codeIn K Z q=true/\W.keepIn K (.ref f)=true/\K.lookup T=some ⟨M,L,.seq #[.bool false] J,G⟩
def AtD.of{K:W.Frag}{f T:Addr}{x q:Str}{st:Stmt}{R M:Value}{O L:kW}{kV B N:Value}{E:kW}{Z D:Value}{sl G:Array (Option Value)}{J:Nat}(l:K.lookup f=some ⟨R,O,.func<|W.fnOf x q (JO st) (Vw st) (Yd st) (.ref T) kV B N E Z D,sl⟩)(d:W.codeIn K Z q=true)(k:W.keepIn K (.ref f)=true)(t:K.lookup T=some ⟨M,L,.seq #[.bool false] J,G⟩):AtD K f x q st:=⟨R,O,kV,B,N,E,Z,D,sl,T,M,L,J,G,l,d,k,t⟩
def GAD(K:W.Frag)(x:Str)(f:Addr)(st:Stmt):Prop:=W.nsIn K mainGlobals x=some (some<|.ref f)/\AtD K f x x st
def GAD.go{K:W.Frag}{h:Heap}{Z:Str->Option Value}{x:Str}{f:Addr}{st:Stmt}(X:K.In h)(G:h.Ns mainGlobals Z)(a:GAD K x f st):∃E,Mx K x x st f E/\W.keepIn K (.ref f)=true/\Z x=some (.ref f):=by
 obtain⟨D,B,R,kV,F,O,S,I,A,sl,T,N,M,J,L,l,d,k,t⟩:=a;exact⟨_,⟨⟨B,R,kV,F,O,S,I,A,sl,T,N,M,J,L,Y,l,d,t⟩,k⟩,k,W.mg_of X G D⟩
def all_at{l:W.OpenLaw}{w:World}{K:W.Frag}{h:Heap}{mg:Str->Option Value}{fa CK C CG CO CW CD aR fA fN f1 f2 f3 f4 f5 f6 f7 f8 f9 f10 f11 f12 f13 f14 f15 f16 f17 f18 f19 f20 f21 f22 f23 f24 f25 f26 f27 f28 f29 f30 f31 f32 f33 f34 f35 f36 f37 f38 f39 f40 f41 f42 f43 f44 f45 f46 f47 f48 f49 f50 f51 f52 f53 f54 f55 f56 f57 f58 f59 f60 f61 f62 f63 f64 f65 f66 f67 f68 f69 f70 f71 f72 f73 f74 f75 f76 f77 f78 f79 f80 f81 f82 f83 f84 f85 f86:Addr}{es:Array DictEntry}{nR:Nat}{u1v u2v u3v u4v u5v u6v u7v u8v u9v u10v u11v u12v u13v:Value}(X:K.In h)(G:h.Ns mainGlobals mg)(hfa:mg "law"=some (.ref fa))(aC:GC K "Kinds" CK)(aB:GC K "Book" C)(aG':GC K "Ground" CG)(aO':GC K "Going" CO)(aW':GC K "Walk" CW)(aD':GC K "Doing" CD)(aU:GC K "RULES" aR)(lR:K.lookup aR=some ⟨.type "dict",none,.dict es nR,#[]⟩)(kR:W.KeysLit w.params es.toList)(aA:GAD K "asked" fA Bj)(aN':GAD K "by_names" fN G0)(a1:GA K "parts" f1 BR)(a2:GA K "part_at" f2 Gx)(a3:GA K "kind_or_place" f3 sKP)(a4:GA K "kind_of_part" f4 BX)(a5:GA K "is_name" f5 MJ)(a6:GA K "is_tag" f6 Ba)(a7:GA K "is_spelt" f7 BP)(a8:GA K "are_parameters" f8 Bk)(a9:GA K "row_count" f9 Wb)(a10:GA K "rows_over" f10 Wa)(a11:GA K "part_of" f11 MF)(a12:GA K "is_row_over" f12 Xe)(a13:GA K "is_asking" f13 Wc)(a14:GA K "check_asking" f14 UZ)(a15:GA K "named" f15 BU)(a16:GA K "check_most" f16 Xf)(a17:GA K "walk_of" f17 MC)(a18:GA K "_law_mixed" f18 BV)(a19:GA K "_law_stream" f19 ME)(a20:GA K "_law_take" f20 Ij)(a21:GA K "_law_words" f21 BO)(a22:GA K "_law_small" f22 BQ)(a23:GA K "_law_folded" f23 Ma)(a24:GA K "_law_link" f24 LF)(a25:GA K "_law_ending" f25 Mb)(a26:GA K "_law_waiting" f26 TQ)(a27:GA K "law" f27 B9)(a28:GR K aR "tag" "kind_of_tag_body" f28 Il)(a29:GR K aR "name" "kind_of_name_body" f29 BZ)(a30:GR K aR "pair" "kind_of_pair_body" f30 BY)(a31:GR K aR "one" "kind_of_one_body" f31 Im)(a32:GR K aR "other" "kind_of_other_body" f32 MH)(a33:GR K aR "choose" "kind_of_choose_body" f33 Gz)(a34:GR K aR "ask" "kind_of_ask_body" f34 Ip)(a35:GR K aR "let" "kind_of_let_body" f35 Io)(a36:GM K CK "__init__" "Kinds.__init__" f36 Iq)(a37:GM K CK "take" "Kinds.take" f37 BW)(a38:GM K CK "take_tags" "Kinds.take_tags" f38 Ik)(a39:GM K CK "names" "Kinds.names" f39 BS)(a40:GM K CK "worths_of" "Kinds.worths_of" f40 WZ)(a41:GM K CK "shape_of" "Kinds.shape_of" f41 Gw)(a42:GM K CK "kind_of_tag" "Kinds.kind_of_tag" f42 MI)(a43:GM K CK "kind_of_pair" "Kinds.kind_of_pair" f43 Gy)(a44:GM K CK "is_worth" "Kinds.is_worth" f44 Xv)(a45:GM K C "__init__" "Book.__init__" f45 Bg)(a46:GM K C "take_heads" "Book.take_heads" f46 Bc)(a47:GM K C "is_head" "Book.is_head" f47 Bh)(a48:GM K C "check_bodies" "Book.check_bodies" f48 MM)(a49:GM K C "kinds" "Book.kinds" f49 ML)(a50:GM K C "names" "Book.names" f50 MK)(a51:GM K C "parameters" "Book.parameters" f51 Be)(a52:GM K C "kind_of" "Book.kind_of" f52 Bf)(a53:GM K C "body_of" "Book.body_of" f53 Bi)(a54:GM K C "told_of" "Book.told_of" f54 Bb)(a55:GM K CG "__init__" "Ground.__init__" f55 Le)(a56:GM K CG "number_at" "Ground.number_at" f56 DZ)(a57:GM K CG "part_given" "Ground.part_given" f57 Xl)(a58:GM K CG "head_given" "Ground.head_given" f58 Xm)(a59:GM K CO "__init__" "Going.__init__" f59 K2)(a60:GM K CO "begin" "Going.begin" f60 B2)(a61:GM K CO "take_head" "Going.take_head" f61 Wi)(a62:GM K CO "go_on" "Going.go_on" f62 K3)(a63:GM K CO "from_body" "Going.from_body" f63 Wl)(a64:GM K CO "from_thing" "Going.from_thing" f64 Xj)(a65:GM K CO "from_head" "Going.from_head" f65 Wj)(a66:GM K CO "with_let" "Going.with_let" f66 TJ)(a67:GM K CO "thing_at" "Going.thing_at" f67 X3)(a68:GM K CO "make_cell" "Going.make_cell" f68 XM)(a69:GM K CW "__init__" "Walk.__init__" f69 Ft)(a70:GM K CW "birth_of" "Walk.birth_of" f70 Gg)(a71:GM K CW "done" "Walk.done" f71 Fu)(a72:GM K CW "want" "Walk.want" f72 Fs)(a73:GM K CW "end" "Walk.end" f73 Q7)(a74:GM K CW "outcome" "Doing.outcome" f74 WL)(a75:GM K CW "whole_of" "Doing.whole_of" f75 WJ)(a76:GM K CW "head_of_cell" "Doing.head_of_cell" f76 XR)(a77:GM K CW "go_into" "Doing.go_into" f77 Gb)(a78:GM K CW "going_of" "Doing.going_of" f78 WM)(a79:GM K CD "__init__" "Doing.__init__" f79 Lx)(a80:GM K CD "want" "Doing.want" f80 Lw)(a81:GM K CD "end" "Doing.end" f81 Av)(a82:GM K CD "outcome" "Doing.outcome" f82 WL)(a83:GM K CD "whole_of" "Doing.whole_of" f83 WJ)(a84:GM K CD "head_of_cell" "Doing.head_of_cell" f84 XR)(a85:GM K CD "go_into" "Doing.go_into" f85 Gb)(a86:GM K CD "going_of" "Doing.going_of" f86 WM)(z1:GN K "len")(z2:GN K "isinstance")(z3:GN K "bool")(z4:GN K "str")(z5:GN K "int")(z6:GN K "tuple")(z7:GN K "list")(z8:GN K "dict")(z9:GN K "all")(z10:GN K "zip")(z11:GN K "max")(z12:GN K "range")(z13:GN K "sorted")(z14:GN K "min")(z15:GN K "sum")(z16:GN K "enumerate")(z17:GN K "any")(z18:GN K "ValueError")(g1:GV K "SMALL" (.str<|Str.ofString "abcdefghijklmnopqrstuvwxyz") u1v)(g2:GV K "GREAT" (.str<|Str.ofString "ABCDEFGHIJKLMNOPQRSTUVWXYZ") u2v)(g3:GV K "LONGEST" (.int 8) u3v)(g4:GV K "MOST_KINDS" (.int 6) u4v)(g5:GV K "MOST_TAGS" (.int 4) u5v)(g6:GV K "MOST_WORTHS" (.int 30) u6v)(g7:GV K "MOST_PAIRS_DEEP" (.int 2) u7v)(g8:GV K "MOST_DEFINITIONS" (.int 8) u8v)(g9:GV K "MOST_PARAMETERS" (.int 3) u9v)(g10:GV K "MOST_ROWS" (.int 200) u10v)(g11:GV K "MOST_ROWS_IN_ALL" (.int 400) u11v)(g12:GV K "MOST_CELLS" (.int 500) u12v)(g13:GV K "MOST_GOINGS" (.int 2000) u13v)(caCK:CA K CK)(caC:CA K C)(caCG:CA K CG)(caCO:CA K CO)(caCW:CA K CW)(caCD:CA K CD)(nk1:GF K CK "shapes")(nk2:GF K CK "worths")(nk3:GF K CK "heights")(nk4:GF K CK "pairs_deep")(nk5:GF K CK "tag_kinds")(nk6:GF K CK "pair_kinds")(nb1:GF K C "sorts")(nb2:GF K C "told")(nb3:GF K C "rows")(nb4:GF K C "turns")(ng1:GF K CG "book")(ng2:GF K CG "given")(ng3:GF K CG "births")(ng4:GF K CG "numbers")(ng5:GF K CG "starts")(no1:GF K CO "ground")(no2:GF K CO "number")(no3:GF K CO "f")(no4:GF K CO "place")(no5:GF K CO "known")(no6:GF K CO "body")(no7:GF K CO "waiting")(nw1:GF K CW "ground")(nw2:GF K CW "most")(nw3:GF K CW "begun")(nw4:GF K CW "under_way")(nw5:GF K CW "wanters")(nw6:GF K CW "wants")(nw7:GF K CW "heads")(nd1:GF K CD "ground")(nd2:GF K CD "most")(nd3:GF K CD "begun")(nd4:GF K CD "under_way")(y1:W.specialIn K (.ref CD) "__getattribute__"=some (some<|.builtin "type.__getattribute__"))(y2:W.readsIn K CD (.type "type")=true)(y3:W.findCls K (.ref CD) (.type "type") "__init__"=some (.val<|.ref f79)):∃fd:FuncData,(∀(s:Shared)(v:Value),BindsTo s fd ⟨[v],[]⟩ [("script",v)])/\∀base:Heap,K.In base->base.Ns mainGlobals mg->Ye l.prog w K mg base CX0 120 fa fd ["script"] (D5 K):=by
 have e:=hfa.symm.trans<|W.mg_of X G a27.1;cases e;obtain⟨d1,F1,k1,m1⟩:=a1.go X G;obtain⟨d2,F2,k2,m2⟩:=a2.go X G;obtain⟨d3,F3,k3,m3⟩:=a3.go X G;obtain⟨d4,F4,k4,m4⟩:=a4.go X G;obtain⟨d5,F5,k5,m5⟩:=a5.go X G;obtain⟨d6,F6,k6,m6⟩:=a6.go X G;obtain⟨d7,F7,k7,m7⟩:=a7.go X G;obtain⟨d8,F8,k8,m8⟩:=a8.go X G;obtain⟨d9,F9,k9,m9⟩:=a9.go X G;obtain⟨d10,F10,k10,m10⟩:=a10.go X G;obtain⟨d11,F11,k11,m11⟩:=a11.go X G;obtain⟨d12,F12,k12,m12⟩:=a12.go X G;obtain⟨d13,F13,k13,m13⟩:=a13.go X G;obtain⟨d14,F14,k14,m14⟩:=a14.go X G;obtain⟨d15,F15,k15,m15⟩:=a15.go X G;obtain⟨d16,F16,k16,m16⟩:=a16.go X G;obtain⟨d17,F17,k17,m17⟩:=a17.go X G;obtain⟨d18,F18,k18,m18⟩:=a18.go X G;obtain⟨d19,F19,k19,m19⟩:=a19.go X G;obtain⟨d20,F20,k20,m20⟩:=a20.go X G;obtain⟨d21,F21,k21,m21⟩:=a21.go X G;obtain⟨d22,F22,k22,m22⟩:=a22.go X G;obtain⟨d23,F23,k23,m23⟩:=a23.go X G;obtain⟨d24,F24,k24,m24⟩:=a24.go X G;obtain⟨d25,F25,k25,m25⟩:=a25.go X G;obtain⟨d26,F26,k26,m26⟩:=a26.go X G;obtain⟨_,_,kV,dc,pm,an,cd,ct,_,l',d',k27⟩:=a27.2;have F27:=Lg (st:=B9) l' d' k27;obtain⟨d28,F28,k28,a28⟩:=a28.go;obtain⟨d29,F29,k29,a29⟩:=a29.go;obtain⟨d30,F30,k30,a30⟩:=a30.go;obtain⟨d31,F31,k31,a31⟩:=a31.go;obtain⟨d32,F32,k32,a32⟩:=a32.go;obtain⟨d33,F33,k33,a33⟩:=a33.go;obtain⟨d34,F34,k34,a34⟩:=a34.go;obtain⟨d35,F35,k35,a35⟩:=a35.go;obtain⟨d36,F36,w36⟩:=a36.go;obtain⟨d37,F37,w37⟩:=a37.go;obtain⟨d38,F38,w38⟩:=a38.go;obtain⟨d39,F39,w39⟩:=a39.go;obtain⟨d40,F40,w40⟩:=a40.go;obtain⟨d41,F41,w41⟩:=a41.go;obtain⟨d42,F42,w42⟩:=a42.go;obtain⟨d43,F43,w43⟩:=a43.go;obtain⟨d44,F44,w44⟩:=a44.go;obtain⟨d45,F45,w45⟩:=a45.go;obtain⟨d46,F46,w46⟩:=a46.go;obtain⟨d47,F47,w47⟩:=a47.go;obtain⟨d48,F48,w48⟩:=a48.go;obtain⟨d49,F49,w49⟩:=a49.go;obtain⟨d50,F50,w50⟩:=a50.go;obtain⟨d51,F51,w51⟩:=a51.go;obtain⟨d52,F52,w52⟩:=a52.go;obtain⟨d53,F53,w53⟩:=a53.go;obtain⟨d54,F54,w54⟩:=a54.go;obtain⟨d55,F55,w55⟩:=a55.go;obtain⟨d56,F56,w56⟩:=a56.go;obtain⟨d57,F57,w57⟩:=a57.go;obtain⟨d58,F58,w58⟩:=a58.go;obtain⟨d59,F59,w59⟩:=a59.go;obtain⟨d60,F60,w60⟩:=a60.go;obtain⟨d61,F61,w61⟩:=a61.go;obtain⟨d62,F62,w62⟩:=a62.go;obtain⟨d63,F63,w63⟩:=a63.go;obtain⟨d64,F64,w64⟩:=a64.go;obtain⟨d65,F65,w65⟩:=a65.go;obtain⟨d66,F66,w66⟩:=a66.go;obtain⟨d67,F67,w67⟩:=a67.go;obtain⟨d68,F68,w68⟩:=a68.go;obtain⟨d69,F69,w69⟩:=a69.go;obtain⟨d70,F70,w70⟩:=a70.go;obtain⟨d71,F71,w71⟩:=a71.go;obtain⟨d72,F72,w72⟩:=a72.go;obtain⟨d73,F73,w73⟩:=a73.go;obtain⟨d74,F74,w74⟩:=a74.go;obtain⟨d75,F75,w75⟩:=a75.go;obtain⟨d76,F76,w76⟩:=a76.go;obtain⟨d77,F77,w77⟩:=a77.go;obtain⟨d78,F78,w78⟩:=a78.go;obtain⟨d79,F79,w79⟩:=a79.go;obtain⟨d80,F80,w80⟩:=a80.go;obtain⟨d81,F81,w81⟩:=a81.go;obtain⟨d82,F82,w82⟩:=a82.go;obtain⟨d83,F83,w83⟩:=a83.go;obtain⟨d84,F84,w84⟩:=a84.go;obtain⟨d85,F85,w85⟩:=a85.go;obtain⟨d86,F86,w86⟩:=a86.go;obtain⟨dA,FA,kA,mA⟩:=aA.go X G;obtain⟨dN,FN,kN,mN⟩:=aN'.go X G;have mC:=W.mg_of X G aC;have mB:=W.mg_of X G aB;have mG:=W.mg_of X G aG';have mO:=W.mg_of X G aO';have mW:=W.mg_of X G aW';have mD:=W.mg_of X G aD';have mU:=W.mg_of X G aU;have B:Blt mg:=⟨vx X G z1,vx X G z2,vx X G z3,vx X G z4,vx X G z5,vx X G z6,vx X G z7,vx X G z8,vx X G z9,vx X G z10,vx X G z11,vx X G z12,vx X G z13⟩;have nmin:=vx X G z14;have nsum:=vx X G z15;have nenumerate:=vx X G z16;have nany:=vx X G z17;have nValueError:=vx X G z18;obtain⟨q1,r1⟩:=g1.go X G;obtain⟨q2,r2⟩:=g2.go X G;obtain⟨q3,r3⟩:=g3.go X G;obtain⟨q4,r4⟩:=g4.go X G;obtain⟨q5,r5⟩:=g5.go X G;obtain⟨q6,r6⟩:=g6.go X G;obtain⟨q7,r7⟩:=g7.go X G;obtain⟨q8,r8⟩:=g8.go X G;obtain⟨q9,r9⟩:=g9.go X G;obtain⟨q10,r10⟩:=g10.go X G;obtain⟨q11,r11⟩:=g11.go X G;obtain⟨q12,r12⟩:=g12.go X G;obtain⟨q13,r13⟩:=g13.go X G;have T:KCl K CK:=⟨⟨caCK.pg,caCK.hd,caCK.po,caCK.sa⟩,nk1,nk2,nk3,nk4,nk5,nk6⟩;have TB:BCl K C:=⟨⟨caC.pg,caC.hd,caC.po,caC.sa⟩,nb1,nb2,nb3,nb4⟩;have TG:GCl K CG:=⟨⟨caCG.pg,caCG.hd,caCG.po,caCG.sa⟩,ng1,ng2,ng3,ng4,ng5⟩;have TO:OCl K CO:=⟨⟨caCO.pg,caCO.hd,caCO.po,caCO.sa⟩,no1,no2,no3,no4,no5,no6,no7⟩;have TW:WCl K CW:=⟨⟨⟨caCW.pg,caCW.hd,caCW.po,caCW.sa⟩,nw1,nw2,nw3,nw4⟩,nw5,nw6,nw7⟩;have TD:DCl K CD:=⟨⟨caCD.pg,caCD.hd,caCD.po,caCD.sa⟩,nd1,nd2,nd3,nd4⟩;refine⟨W.fnOf "law" "law" (JO B9) (Vw B9) (Yd B9) .none kV dc pm an cd ct,λs v=>.of_eq Y,λbase hIn _=>?_⟩;have tk:∀n,Ye l.prog w K mg base CX0 (n+2) f20 _ ["stream","many"] Gj:=λn=>PP F20 (Kk (n:=n) F18) (F18.b2 _ _) k18 m18;have wo:∀n,Ye l.prog w K mg base CX0 (n+3) f21 _ ["stream","many","letters","ways"] GD:=λn=>Kc B F21 (tk n) (F20.b2 _ _) k20 m20;have sm:∀n,Ye l.prog w K mg base CX0 (n+4) f22 _ ["stream","many"] Rp:=λn=>Ki F22 (wo n) (F21.b4 _ _ _ _) k21 m21;have pA:Ye l.prog w K mg base CX0 1 f1 _ _ Xs:=ok_parts (n:=0) B F1;have sp:Ye l.prog w K mg base CX0 1 f7 _ _ GE:=Kh (n:=0) B F7 q3 r3;have na:Ye l.prog w K mg base CX0 2 f5 _ _ (Uv 97):=FG (n:=1) F5 sp (F7.b2 _ _) k7 m7 q1 r1;have ta:Ye l.prog w K mg base CX0 2 f6 _ _ (Uv 65):=Ks (n:=1) F6 sp (F7.b2 _ _) k7 m7 q2 r2;have tt:Ye l.prog w K mg base CX0 3 f38 _ _ (BC CK):=PQ (n:=2) B T F38 q5 r5 ta (F6.b1 _) k6 m6;have kt:Ye l.prog w K mg base CX0 4 f37 _ _ (Rt CK):=Kl (n:=3) B T F37 (na.mono<|by decide) (F5.b1 _) k5 m5 tt (F38.b3 _ _ _) w38;have ini:Ye l.prog w K mg base CX0 5 f36 _ _ (BE CK):=PZ (n:=4) B T F36 q4 r4 kt (F37.b3 _ _ _) w37;have knm:Ye l.prog w K mg base CX0 1 f39 _ _ (XD CK):=Kj (n:=0) B T F39;have kwo:Ye l.prog w K mg base CX0 1 f40 _ _ (J6 CK):=NN (n:=0) B T F40;have ksh:Ye l.prog w K mg base CX0 1 f41 _ _ (XC CK):=By (n:=0) T F41;have kto:Ye l.prog w K mg base CX0 1 f42 _ _ (Gn CK):=FF (n:=0) T F42;have kpo:Ye l.prog w K mg base CX0 1 f43 _ _ (WU CK):=B1 (n:=0) T F43;have bki:Ye l.prog w K mg base CX0 1 f49 _ _ (Je C CK):=FI (n:=0) TB F49;have bnm:Ye l.prog w K mg base CX0 1 f50 _ _ (Uw C CK):=FH (n:=0) B TB F50;have to:Ye l.prog w K mg base CX0 1 f54 _ _ (Gi C CK):=PN (n:=0) B TB F54;have cP:Ye l.prog w K mg base CX0 2 f51 _ _ (Gk C CK):=PR (n:=1) TB F51 w54 to<|F54.b2 _ _;have cK:Ye l.prog w K mg base CX0 2 f52 _ _ (Rq C CK):=Kq (n:=1) TB F52 w54 to<|F54.b2 _ _;have cY:Ye l.prog w K mg base CX0 2 f53 _ _ (Rw C CK):=Kx (n:=1) TB F53 w54 to<|F54.b2 _ _;have kpt:Ye l.prog w K mg base CX0 2 f4 _ _ (GJ C CK):=Km (n:=1) TB T F4 w49 (bki) (F49.b1 _) w41 (ksh)<|F41.b2 _ _;have R1:RA l.prog w K mg base C CK (λk=>findBy JC es k) "tag" _:=⟨f28,_,U0 lR a28,PU (n:=2) TB T F28 w49 ((bki.mono<|by decide)) (F49.b1 _) w42 ((kto.mono<|by decide))<|F42.b2 _ _,k28,F28.b4 _ _ _ _⟩;have R2:RA l.prog w K mg base C CK (λk=>findBy JC es k) "name" _:=⟨f29,_,U0 lR a29,Kp (n:=2) F29,k29,F29.b4 _ _ _ _⟩;have R3:RA l.prog w K mg base C CK (λk=>findBy JC es k) "pair" _:=⟨f30,_,U0 lR a30,Ko (n:=2) TB T F30 w49 ((bki.mono<|by decide)) (F49.b1 _) w43 ((kpo.mono<|by decide))<|F43.b3 _ _ _,k30,F30.b4 _ _ _ _⟩;have R4:RA l.prog w K mg base C CK (λk=>findBy JC es k) "one" _:=⟨f31,_,U0 lR a31,PV (n:=2) F31 ⟨f4,_,m4,k4,F4.b3 _ _ _,kpt⟩,k31,F31.b4 _ _ _ _⟩;have R5:RA l.prog w K mg base C CK (λk=>findBy JC es k) "other" _:=⟨f32,_,U0 lR a32,FE (n:=2) F32 ⟨f4,_,m4,k4,F4.b3 _ _ _,kpt⟩,k32,F32.b4 _ _ _ _⟩;have R6:RA l.prog w K mg base C CK (λk=>findBy JC es k) "choose" _:=⟨f33,_,U0 lR a33,B0 (n:=0) B nany TB T F33 w49 ((bki.mono<|by decide)) (F49.b1 _) w41 ((ksh.mono<|by decide))<|F41.b2 _ _,k33,F33.b4 _ _ _ _⟩;have R7:RA l.prog w K mg base C CK (λk=>findBy JC es k) "ask" _:=⟨f34,_,U0 lR a34,PY (n:=0) TB F34 w50 ((bnm.mono<|by decide)) (F50.b1 _) w51 (cP) (F51.b2 _ _) w52 (cK)<|F52.b2 _ _,k34,F34.b4 _ _ _ _⟩;have R8:RA l.prog w K mg base C CK (λk=>findBy JC es k) "let" _:=⟨f35,_,U0 lR a35,PX (n:=2) F35,k35,F35.b4 _ _ _ _⟩;have kp:Ye l.prog w K mg base CX0 16 f3 _ _ (RB C CK 13):=Qn B nenumerate TB T F3 (F3.b3 _ _ _) m3 w49 (bki.mono<|by decide) (F49.b1 _) w39 (knm.mono<|by decide) (F39.b1 _) ⟨f1,_,m1,k1,F1.b1 _,pA.mono<|by decide⟩ mU (Pk hIn lR kR) (λL=>Iw L R1 R2 R3 R4 R5 R6 R7 R8) 13;have ap:Ye l.prog w K mg base CX0 3 f8 _ _ (Ry CK):=Kz (n:=2) B T F8 q9 r9 ⟨f5,_,m5,k5,F5.b1 _,na⟩ w39 ((knm.mono<|by decide))<|F39.b1 _;have rc:Ye l.prog w K mg base CX0 2 f9 _ _ (Xc CK):=NP (n:=1) B T F9 w40 (kwo)<|F40.b2 _ _;have ro:Ye l.prog w K mg base CX0 2 f10 _ _ (Xb CK):=NO (n:=1) B T F10 w40 (kwo)<|F40.b2 _ _;have ih:Ye l.prog w K mg base CX0 4 f47 _ _ (Rx C CK):=Ky (n:=3) TB T F47 ⟨f5,_,m5,k5,F5.b1 _,na.mono<|by decide⟩ ⟨f8,_,m8,k8,F8.b2 _ _,ap⟩ w39 ((knm.mono<|by decide))<|F39.b1 _;have th:Ye l.prog w K mg base CX0 5 f46 _ _ (IW C CK):=Kw (n:=4) B nenumerate TB F46 q8 r8 q10 r10 q11 r11 w47 ih (F47.b4 _ _ _ _) ⟨f9,_,m9,k9,F9.b2 _ _,rc.mono<|by decide⟩ ⟨f10,_,m10,k10,F10.b2 _ _,ro.mono<|by decide⟩;have cb:Ye l.prog w K mg base CX0 17 f48 _ _ (Sb C CK):=AN (n:=16) B nenumerate TB F48 w50 (bnm.mono<|by decide) (F50.b1 _) ⟨f3,_,m3,k3,F3.b3 _ _ _,kp⟩;have bi:Ye l.prog w K mg base CX0 18 f45 _ _ (Sa C CK):=AM (n:=17) (m:=5) (by decide) TB F45 ⟨caCK.ma,w36.1,w36.2,caCK.kc⟩ mC ini (F36.b2 _ _) w46 (th.mono<|by decide) (F46.b2 _ _) w48 cb<|F48.b1 _;have pat:Ye l.prog w K mg base CX0 2 f2 _ _ J3:=Bz (n:=1) F2 ⟨f1,_,m1,k1,F1.b1 _,pA⟩;have iw:Ye l.prog w K mg base CX0 4 f44 _ _ (ND CK 3):=LI B T F44 (F44.b3 _ _ _) w44 3;have iro:Ye l.prog w K mg base CX0 5 f12 _ _ (SS CK):=Cu (n:=4) B T F12 w44 iw<|F44.b3 _ _ _;have ia:Ye l.prog w K mg base CX0 6 f13 _ _ (BF C CK<|.bl true):=C2 (n:=5) TB F13 w50 (bnm.mono<|by decide) (F50.b1 _) w49 (bki.mono<|by decide) (F49.b1 _) w51 (cP.mono<|by decide) (F51.b2 _ _) ⟨f12,_,m12,k12,F12.b3 _ _ _,iro⟩;have cka:Ye l.prog w K mg base CX0 7 f14 _ _ (BF C CK .non):=C7 (n:=6) F14 ⟨f13,_,m13,k13,F13.b3 _ _ _,ia⟩;have ckm:Ye l.prog w K mg base CX0 1 f16 _ _ OZ:=C6 (n:=0) F16;have nam:Ye l.prog w K mg base CX0 3 f15 _ _ (IQ C CK):=Cy (n:=2) B TB F15 w51 (cP)<|F51.b2 _ _;have po:Ye l.prog w K mg base CX0 1 f11 _ _ SU:=Cv (n:=0) B F11;have pg:Ye l.prog w K mg base CX0 2 f57 _ _ (SV CG):=Cw (n:=1) B nany TG F57 ⟨f11,_,m11,k11,F11.b2 _ _,po⟩;have hg:Ye l.prog w K mg base CX0 3 f58 _ _ (SX CG):=C3 (n:=2) B TG F58 w57 pg<|F57.b3 _ _ _;have na:Ye l.prog w K mg base CX0 1 f56 _ _ (IR l.prog w CG):=Cz (n:=0) B TG F56;have gi:Ye l.prog w K mg base CX0 4 f55 _ _ (D8 l.prog w C CK CG):=AG (n:=3) B TG F55 ⟨f15,_,m15,k15,F15.b3 _ _ _,nam⟩;have oi':Ye l.prog w K mg base CX0 3 f59 _ _ (IP l.prog w C CK CG CO):=AC (L:=2) TB TG TO F59 w53 (cY)<|F53.b2 _ _;have tf:=QS (P:=l.prog) (w:=w) (C:=C) (CK:=CK) (base:=base) (L:=3) B TG TO F67 F68 ⟨f2,_,m2,k2,F2.b2 _ _,pat.mono<|by decide⟩ ⟨f15,_,m15,k15,F15.b3 _ _ _,nam⟩ w56 (na.mono<|by decide) (F56.b3 _ _ _) w67 (F67.b3 _ _ _) w68<|F68.b4 _ _ _ _;have wl:Ye l.prog w K mg base CX0 21 f66 _ _ (SO l.prog w C CK CG CO 8):=Cr (L:=20) B TG TO F66 w56 (na.mono<|by decide) (F56.b3 _ _ _) w68 ((tf 8).2)<|F68.b4 _ _ _ _;have fb:Ye l.prog w K mg base CX0 22 f63 _ _ (IU l.prog w C CK CG CO 8):=AJ (L:=21) TO F63 ⟨f2,_,m2,k2,F2.b2 _ _,pat.mono<|by decide⟩ w67 ((tf 9).1) (F67.b3 _ _ _) w66 (wl)<|F66.b4 _ _ _ _;have ft:Ye l.prog w K mg base CX0 4 f64 _ _ (IS CG CO):=AH (n:=3) TG TO F64 w58 (hg)<|F58.b3 _ _ _;have fh:Ye l.prog w K mg base CX0 4 f65 _ _ (IT CO):=AI (n:=0) nenumerate TO F65;have go:Ye l.prog w K mg base CX0 23 f62 _ _ (D7 l.prog w C CK CG CO 8):=AF (L:=22) B TO F62 w63 (fb) (F63.b3 _ _ _) w64 (ft.mono<|by decide) (F64.b2 _ _) w65 (fh.mono<|by decide)<|F65.b2 _ _;have beg:Ye l.prog w K mg base CX0 24 f60 _ _ (BH l.prog w C CK CG CO 8):=Pc (L:=23) TO F60 w62 (go)<|F62.b2 _ _;have thd:Ye l.prog w K mg base CX0 24 f61 _ _ (IO l.prog w C CK CG CO 8):=AB (L:=23) TO F61 w62 (go)<|F62.b2 _ _;have who:Ye l.prog w K mg base CX0 1 f75 _ _ D2:=Ke (n:=0) F75;have bir:Ye l.prog w K mg base CX0 1 f70 _ _ (BG l.prog w CG CW):=Pb (n:=0) TW TG F70;have wen:Ye l.prog w K mg base CX0 1 f73 _ _ (Xq true l.prog w C CK CG CO CW):=Kf (n:=0) TW F73;have dwho:Ye l.prog w K mg base CX0 1 f83 _ _ D2:=Ke (n:=0) F83;have dwen:Ye l.prog w K mg base CX0 1 f81 _ _ (Xq false l.prog w C CK CG CO CD):=Pa (n:=0) F81;have gof:Ye l.prog w K mg base CX0 5 f78 _ _ (Ru true l.prog w C CK CG CO CW):=EH (n:=3) TW.toDCl F78 mO ⟨caCO.ma,w59.1,w59.2,caCO.kc⟩ oi'<|F59.b3 _ _ _;have gin:Ye l.prog w K mg base CX0 25 f77 _ _ (Gp true l.prog w C CK CG CO CW 8):=EI (L:=24) TW.toDCl TO F77 w78 (gof.mono<|by decide) (F78.b2 _ _) w60 (beg)<|F60.b1 _;have wan:Ye l.prog w K mg base CX0 26 f72 _ _ (Xp true l.prog w C CK CG CO CW 8):=Kg (L:=25) B TW TO F72 w77 (gin)<|F77.b2 _ _;have hoc:Ye l.prog w K mg base CX0 27 f76 _ _ (D6 true l.prog w C CK CG CO CW 8):=Kt (L:=26) B TW.toDCl TO F76 w72 (wan) (F72.b2 _ _) w73 (wen.mono<|by decide) (F73.b3 _ _ _) w61 (thd.mono<|by decide)<|F61.b2 _ _;have out:Ye l.prog w K mg base CX0 28 f74 _ _ (Gm true l.prog w C CK CG CO CW 8):=EG (L:=27) TW.toDCl F74 w76 (hoc) (F76.b2 _ _) w75 (who.mono<|by decide)<|F75.b2 _ _;have dgof:Ye l.prog w K mg base CX0 5 f86 _ _ (Ru false l.prog w C CK CG CO CD):=EH (n:=3) TD F86 mO ⟨caCO.ma,w59.1,w59.2,caCO.kc⟩ oi'<|F59.b3 _ _ _;have dgin:Ye l.prog w K mg base CX0 25 f85 _ _ (Gp false l.prog w C CK CG CO CD 8):=EI (L:=24) TD TO F85 w86 (dgof.mono<|by decide) (F86.b2 _ _) w60 (beg)<|F60.b1 _;have dwan:Ye l.prog w K mg base CX0 26 f80 _ _ (Xp false l.prog w C CK CG CO CD 8):=Ku (L:=25) TD F80 w85 (dgin)<|F85.b2 _ _;have dhoc:Ye l.prog w K mg base CX0 27 f84 _ _ (D6 false l.prog w C CK CG CO CD 8):=Kt (L:=26) B TD TO F84 w80 (dwan) (F80.b2 _ _) w81 (dwen.mono<|by decide) (F81.b3 _ _ _) w61 (thd.mono<|by decide)<|F61.b2 _ _;have dout:Ye l.prog w K mg base CX0 28 f82 _ _ (Gm false l.prog w C CK CG CO CD 8):=EG (L:=27) TD F82 w84 (dhoc) (F84.b2 _ _) w83 (dwho.mono<|by decide)<|F83.b2 _ _;have don:Ye l.prog w K mg base CX0 2 f71 _ _ (Rv l.prog w C CK CG CO CW):=Kv (L:=1) TW F71 w70 (bir)<|F70.b2 _ _;have din:Ye l.prog w K mg base CX0 1 f79 _ _ (IV CW):=Qb (n:=0) TW.toDCl F79;have din2:Ye l.prog w K mg base CX0 1 f79 _ _ (IV CD):=Qb (n:=0) TD F79;have win:Ye l.prog w K mg base CX0 2 f69 _ _ (SQ CW):=Cs (n:=1) TW F69 mD ⟨y1,y2,y3,w79.kp⟩ din<|F79.b3 _ _ _;have wao:Ye l.prog w K mg base CX0 9 f17 _ _ (IN l.prog w C CK CG CO CW):=AA (n:=7) F17 ⟨f14,_,m14,k14,F14.b3 _ _ _,cka.mono<|by decide⟩ ⟨f16,_,m16,k16,F16.b2 _ _,ckm.mono<|by decide⟩ q12 r12 mW ⟨caCW.ma,w69.1,w69.2,caCW.kc⟩ (win.mono<|by decide) (F69.b3 _ _ _) mG ⟨caCG.ma,w55.1,w55.2,caCG.kc⟩ (gi.mono<|by decide)<|F55.b4 _ _ _ _;have ask:Ye l.prog w K mg base CX0 29 fA _ _ (BJ l.prog w C CK 8):=Pd (L:=28) TW FA ⟨f17,_,m17,k17,F17.b4 _ _ _ _,wao.mono<|by decide⟩ w74 (out) (F74.b2 _ _) w71 (don.mono<|by decide)<|F71.b1 _;have byn:Ye l.prog w K mg base CX0 29 fN _ _ (IX l.prog w C CK 8):=AL (L:=27) TD FN ⟨f14,_,m14,k14,F14.b3 _ _ _,cka.mono<|by decide⟩ ⟨f16,_,m16,k16,F16.b2 _ _,ckm.mono<|by decide⟩ q13 r13 mD ⟨caCD.ma,w79.1,w79.2,caCD.kc⟩ (din2.mono<|by decide) (F79.b3 _ _ _) mG ⟨caCG.ma,w55.1,w55.2,caCG.kc⟩ (gi.mono<|by decide) (F55.b4 _ _ _ _) w82 (dout)<|F82.b2 _ _;have fo:Ye l.prog w K mg base CX0 4 f23 _ _ (SY K):=C4 (n:=0) B nenumerate F23;have lnn:Ye l.prog w K mg base CX0 3 f24 _ _ SW:=C0 (n:=2) B F24 ⟨f20,_,m20,k20,F20.b2 _ _,tk 0⟩;have edd:Ye l.prog w K mg base CX0 1 f25 _ _ SZ:=C5 (n:=0) B F25;have wtt:Ye l.prog w K mg base CX0 1 f26 _ _ SN:=Cq (n:=0) B F26;exact AD (n:=0) (C:=C) (CK:=CK) B F27 ⟨f19,_,m19,k19,F19.b1 _,FD (n:=118) F19⟩ ⟨f20,_,m20,k20,F20.b2 _ _,tk 117⟩ ⟨f21,_,m21,k21,F21.b4 _ _ _ _,wo 116⟩ ⟨f22,_,m22,k22,F22.b2 _ _,sm 115⟩ ⟨f23,_,m23,k23,F23.b2 _ _,fo.mono<|by decide⟩ ⟨f24,_,m24,k24,F24.b4 _ _ _ _,lnn.mono<|by decide⟩ ⟨f25,_,m25,k25,F25.b4 _ _ _ _,edd.mono<|by decide⟩ ⟨f26,_,m26,k26,F26.b5 _ _ _ _ _,wtt.mono<|by decide⟩ ⟨fA,_,mA,kA,FA.b5 _ _ _ _ _,ask.mono<|by decide⟩ mN kN (byn.mono<|by decide) (FN.b4 _ _ _ _ _) mB ⟨caC.ma,w45.1,w45.2,caC.kc⟩ (bi.mono<|by decide)<|F45.b3 _ _ _
def goes{l:W.OpenLaw}{q:Program}{loose:kQ}{XP:(Str->Option Value)->Heap->Prop}{YP:World->Heap->Prop}{d:DefRec}{K:Params->W.Frag}(hn:l.most=some 63)(hdf:d.params.defaults=[])(hY:∀(w:World)(h:Heap),YP w h->(K w.params).In h)(F:∀(w:World)(mg:Str->Option Value)(fa:Addr)(h:Heap),(K w.params).In h->h.Ns mainGlobals mg->mg d.name=some (.ref fa)->
   ∃fd:FuncData,(∀(s:Shared)(u:Value),BindsTo s fd ⟨[u],[]⟩ [("script",u)])/\∀base:Heap,(K w.params).In base->base.Ns mainGlobals mg->Ye l.prog w (K w.params) mg base CX0 120 fa fd ["script"] (D5<|K w.params)):
  W.WalkO q loose XP YP l.row.toRowW d [] (λf vs=>PySem.call f vs):=
 L2.walk_of (n:=63) (k:=120) (x:="script") (CX:=λ_=>CX0) (sp:=λw=>D5<|K w.params) hn (by decide) hdf ⟨rfl,by decide,by decide⟩ hY F (λ_ _ a ns hl _ hS=>⟨a,ns,hS,hl,λ_=>rfl⟩) λ_ _ _ _ _ z=>z
end K4
end
namespace PySem.W.Fast
def tw10001649225190294974:=()
def tw10053237214808202137:=()
def tw10065791849800653635:=()
def tw10075516070772307520:=()
def tw10085927375202053282:=()
def tw1009617429875564363:=()
def tw10099368980667372815:=()
def tw10172714374610557026:=()
def tw10182809785587056258:=()
def tw10278089475773074055:=()
def tw10281835905831752251:=()
def tw1032589408477208029:=()
def tw10326006484225883818:=()
def tw10333233310492310731:=()
def tw10337867653348538154:=()
def tw10362299653469524562:=()
def tw10364322956085607842:=()
def tw10393262049722410843:=()
def tw10404222487386651762:=()
def tw1041382174437857803:=()
def tw10418436393339540553:=()
def tw10420847237550984938:=()
def tw10434547821132333028:=()
def tw10466752941745224744:=()
def tw10476387077864355630:=()
def tw10506783174731088401:=()
def tw10524507401678218696:=()
def tw10555114335805970626:=()
def tw10572694520424119837:=()
def tw10590308154964216732:=()
def tw10609573417035488935:=()
def tw10613928238994443705:=()
def tw10644361955367423860:=()
def tw10647669990673862047:=()
def tw10723800471786501568:=()
def tw10749370827791062043:=()
def tw10751974788568484169:=()
def tw10769264192764754013:=()
def tw1077054490559594089:=()
def tw10786905534980141449:=()
def tw10794500656235527869:=()
def tw10830549406422522280:=()
def tw10840330469335283160:=()
def tw10840803656986410333:=()
def tw10858833031922148530:=()
def tw1088009276954229394:=()
def tw10885947914075363432:=()
def tw10900793413834271786:=()
def tw10937458676257005262:=()
def tw10941930425110005948:=()
def tw10954193885028550834:=()
def tw10986544579203584386:=()
def tw10992982029131267901:=()
def tw11013837032889463258:=()
def tw11032513645142071351:=()
def tw11059163594835886504:=()
def tw11087262344201677923:=()
def tw11119560192186527184:=()
def tw11145537452226805361:=()
def tw11159880250024408768:=()
def tw11199292102805748981:=()
def tw11216362603670881888:=()
def tw11226072214739193020:=()
def tw11229742920286542651:=()
def tw11234160411937467339:=()
def tw1124989986356059508:=()
def tw11262613170384729539:=()
def tw11278017618613469946:=()
def tw11354037436261112748:=()
def tw11370996815087753472:=()
def tw11383004270157176009:=()
def tw11400909210359393551:=()
def tw11422809079525290818:=()
def tw11436145073659042599:=()
def tw11461724789729422011:=()
def tw11478694759315447485:=()
def tw11481898862622474486:=()
def tw11493386421189241320:=()
def tw11523872089186415752:=()
def tw11530487698908760202:=()
def tw11549178721816004646:=()
def tw11589072912489925357:=()
def tw1162036571361308845:=()
def tw11644285461283210682:=()
def tw1165026220323330095:=()
def tw11662276629757931962:=()
def tw11682109583062259123:=()
def tw11712770789215437747:=()
def tw11729807297240774829:=()
def tw11797265616668717431:=()
def tw11822485236253699758:=()
def tw11838668865232869800:=()
def tw11848583543330219439:=()
def tw11866150181499703809:=()
def tw11887107108823420050:=()
def tw11887353555783617836:=()
def tw11949173315807734733:=()
def tw11972358207523236336:=()
def tw12006108475677966685:=()
def tw12022814515468119324:=()
def tw12039518047519153550:=()
def tw1204420376295423900:=()
def tw12049470946872953132:=()
def tw12120954235003729566:=()
def tw12131936507427685103:=()
def tw12147876588907523603:=()
def tw12153961257645982090:=()
def tw12181644029205134967:=()
def tw12198291447197506682:=()
def tw12207804867738587770:=()
def tw12212506286294731656:=()
def tw12228050243233315840:=()
def tw12229031221792434960:=()
def tw12279176461738827111:=()
def tw12279302233924751976:=()
def tw12301702119771597602:=()
def tw12315213955209560006:=()
def tw12369133024547783118:=()
def tw12392951476631895803:=()
def tw12427138104881143756:=()
def tw12484871395181707946:=()
def tw12494950918303953006:=()
def tw12504744260189435170:=()
def tw12525980871759718618:=()
def tw12531021724341323521:=()
def tw1255359746408049390:=()
def tw1257361675814318818:=()
def tw12619995079574302338:=()
def tw12662702035903521521:=()
def tw12673568480005059606:=()
def tw12694116882597749027:=()
def tw1272475120413321286:=()
def tw12756568321097294788:=()
def tw12757059138858848403:=()
def tw1276387438430696240:=()
def tw1277678807802731226:=()
def tw12790855011637811114:=()
def tw12831625447391482258:=()
def tw1288525517017997330:=()
def tw12902393417435895703:=()
def tw12904725819810757628:=()
def tw1295421677707090886:=()
def tw12995504483035950725:=()
def tw13003867106268894396:=()
def tw13103049937373556318:=()
def tw13135640420246688818:=()
def tw13144463936828161865:=()
def tw13158385756253604072:=()
def tw13264815749904465070:=()
def tw13267051875488590836:=()
def tw13269596359345076140:=()
def tw13274958810992383243:=()
def tw13293107714754689397:=()
def tw13296037672929727463:=()
def tw13304308084462621330:=()
def tw13316153227431435769:=()
def tw13348241424662343247:=()
def tw13408109278544912750:=()
def tw13499128062517722132:=()
def tw13548694884639258287:=()
def tw13613191863364553811:=()
def tw13640008521459833284:=()
def tw13650536762372663341:=()
def tw1368699727456160963:=()
def tw13752699691140118864:=()
def tw13755033816556003663:=()
def tw13800275493438689117:=()
def tw13807129470065186627:=()
def tw1384283548624383543:=()
def tw13849753486960630693:=()
def tw1384985689873770826:=()
def tw13943758086844682087:=()
def tw13974269234508150436:=()
def tw13984377497129921683:=()
def tw13987046688208256016:=()
def tw14029788851864586198:=()
def tw14034806584639990217:=()
def tw14048040680941423928:=()
def tw14050626156976724576:=()
def tw14061074821968025171:=()
def tw14067970565791049671:=()
def tw14085124698773620811:=()
def tw14087150091114890163:=()
def tw14113626028927305866:=()
def tw14122644869885247176:=()
def tw14157342167961371754:=()
def tw14206913615852628147:=()
def tw1421288616501719497:=()
def tw14219755163400792951:=()
def tw14233515088491615995:=()
def tw14258068666160936305:=()
def tw14264580586713476781:=()
def tw14268501179761082310:=()
def tw14273491502921961086:=()
def tw14279946212431875625:=()
def tw14285825791221920370:=()
def tw14286353407043268171:=()
def tw14306682840548021175:=()
def tw14318703904530473815:=()
def tw14321102870594000837:=()
def tw14326550639656969310:=()
def tw14327709902013849949:=()
def tw143397201908683406:=()
def tw14370557910675822742:=()
def tw1437824471876475751:=()
def tw14406770712724667126:=()
def tw14415146881350201047:=()
def tw14435345109819828685:=()
def tw14437207804425783200:=()
def tw14458240351374418884:=()
def tw14465377868156502547:=()
def tw14472050967386254131:=()
def tw14486612379318336636:=()
def tw14498790951339520593:=()
def tw14564687632038102593:=()
def tw14615231264868180919:=()
def tw14649032938239689768:=()
def tw1467787865190568506:=()
def tw14726379484383129049:=()
def tw14740653411415851053:=()
def tw14744597631653443443:=()
def tw14759277013071719715:=()
def tw14762034548859095497:=()
def tw14765328259391200030:=()
def tw14771031575152013364:=()
def tw14772599068065012017:=()
def tw14799868281059770755:=()
def tw14800328744819666737:=()
def tw14946333227523589107:=()
def tw14967631786565719504:=()
def tw14999670523095818573:=()
def tw15004397503673225558:=()
def tw15035171779514864700:=()
def tw15044560655142304886:=()
def tw15059464587045737431:=()
def tw15093261856879403152:=()
def tw15106534970995054450:=()
def tw151590082455575953:=()
def tw15170389732669853857:=()
def tw15173966911485471532:=()
def tw15194243431070680949:=()
def tw15225656599131680692:=()
def tw15234691068685021679:=()
def tw15265853282010483756:=()
def tw15270963015718675868:=()
def tw15325108386641484445:=()
def tw15350778802220699529:=()
def tw15381551032213800666:=()
def tw15386896546811498556:=()
def tw15417128480594499809:=()
def tw15433543862452780166:=()
def tw15435640481340027187:=()
def tw15459980237088803715:=()
def tw15538944968651476945:=()
def tw15558330941787674331:=()
def tw15580017237453063939:=()
def tw15592005536772222232:=()
def tw15609995873029768810:=()
def tw15617392030483412276:=()
def tw15623366516977904811:=()
def tw15625596548758393426:=()
def tw15633652016500129775:=()
def tw15672521786269155240:=()
def tw15674188144220704136:=()
def tw15681671997151494157:=()
def tw15716201931584343267:=()
def tw15717113354435618810:=()
def tw1571822461559230587:=()
def tw15720879269068127922:=()
def tw15721826668867610118:=()
def tw15738053953231387577:=()
def tw15754253901838938966:=()
def tw15831318834661562038:=()
def tw15835110299740973261:=()
def tw15862015144190421606:=()
def tw15873549866676618627:=()
def tw15895805216219567377:=()
def tw15920225947559423600:=()
def tw15926718124785409613:=()
def tw15960074662689555009:=()
def tw15986086889000661238:=()
def tw15998380081333617894:=()
def tw1600480173246748607:=()
def tw16038908751346410548:=()
def tw16045242123108977310:=()
def tw16050776136419166549:=()
def tw16062979661098288762:=()
def tw16075649266355622766:=()
def tw16115065177543340385:=()
def tw16138938419724664707:=()
def tw16148207120089360257:=()
def tw16149096160875743394:=()
def tw16171833176611833611:=()
def tw16176371136102619726:=()
def tw1618294127022593892:=()
def tw16291994587606104939:=()
def tw16316226402047139591:=()
def tw16324267272821713451:=()
def tw16338532784348243167:=()
def tw16358845936626353874:=()
def tw16379657400188261153:=()
def tw16413763813377641232:=()
def tw16438356950434288570:=()
def tw16475022292560057997:=()
def tw1647670627803956144:=()
def tw16478600502788718656:=()
def tw16507117983282963386:=()
def tw1654478670434330252:=()
def tw16581930947452254556:=()
def tw16616853945770439674:=()
def tw16640308888711212308:=()
def tw16657506536575339079:=()
def tw16680073237936482632:=()
def tw16706352766608602300:=()
def tw16727239435277938517:=()
def tw1674780559297750862:=()
def tw16753633507436829112:=()
def tw16754125902449951934:=()
def tw16769641646091335638:=()
def tw16794138850276847820:=()
def tw16810174984656882652:=()
def tw16821646402439333589:=()
def tw16823482710031765212:=()
def tw16837075613826164339:=()
def tw16863676693889168970:=()
def tw16879379418733113535:=()
def tw16900230939014328131:=()
def tw16902434664287457541:=()
def tw16924371510521856581:=()
def tw16947674439305802026:=()
def tw16952521920557821992:=()
def tw16995149307942966701:=()
def tw17001017448035484494:=()
def tw1706557112129453600:=()
def tw17146448825118006772:=()
def tw17186912397843703590:=()
def tw17218662336438464105:=()
def tw17223025478713672842:=()
def tw17233230042641948601:=()
def tw17236640846622805832:=()
def tw17324388861094997510:=()
def tw17365937085780239157:=()
def tw17380932934950236113:=()
def tw17409305603027429401:=()
def tw17435372887751985212:=()
def tw17476821763848251708:=()
def tw17529287367171568513:=()
def tw17556534102934048136:=()
def tw17578121785638529945:=()
def tw17604387767724872257:=()
def tw17628845855639258483:=()
def tw17656379190289273762:=()
def tw17660522623181258417:=()
def tw17661853701751775819:=()
def tw17701730472953499930:=()
def tw17702094604527147116:=()
def tw17703034438233711777:=()
def tw1774262972974981197:=()
def tw17771182819144871381:=()
def tw17787787536797168977:=()
def tw17803031113069859023:=()
def tw17881307222656770813:=()
def tw17937582055148276579:=()
def tw17948954752902665495:=()
def tw1795405556966489905:=()
def tw17971207932121111527:=()
def tw17974000599781759165:=()
def tw17977938009983562716:=()
def tw17982320509706458977:=()
def tw1798994669708163834:=()
def tw17990709864702682511:=()
def tw18028796915398877131:=()
def tw18051556921001784326:=()
def tw18103058350634796273:=()
def tw18152114779654775617:=()
def tw18152680940572286881:=()
def tw18165328989460488512:=()
def tw18183694795584326825:=()
def tw18243691651935426373:=()
def tw18265001303465772898:=()
def tw18301686130068179464:=()
def tw18309970231711203327:=()
def tw18336908956455687806:=()
def tw18380966764017904909:=()
def tw18393947829594721668:=()
def tw18413600772528963935:=()
def tw18435712325020075170:=()
def tw18442989718923726993:=()
def tw1847062248133056485:=()
def tw1869823895793919266:=()
def tw1900608777445017181:=()
def tw1900989029415976260:=()
def tw1902192100055332562:=()
def tw190441145558908190:=()
def tw1920373989485675333:=()
def tw1921609064357738934:=()
def tw1923555935574271357:=()
def tw1943591511367212997:=()
def tw1948759936887525824:=()
def tw196222276171465164:=()
def tw1969995734740186973:=()
def tw2005960183309695314:=()
def tw2090507918295858544:=()
def tw2136175254763050222:=()
def tw2139223616267945555:=()
def tw216929819306393887:=()
def tw2175322521602676047:=()
def tw2177533179694169132:=()
def tw2198483335359970591:=()
def tw2203968963322517138:=()
def tw2227179177581711396:=()
def tw2270499349909878660:=()
def tw22769160641388565:=()
def tw2304780010152325790:=()
def tw2328212965684881349:=()
def tw2347648400762069114:=()
def tw2350329631309559461:=()
def tw2413511127751276399:=()
def tw249605686801566648:=()
def tw2502287561243553386:=()
def tw2521068189417541277:=()
def tw25215001498097305:=()
def tw2530414036028756939:=()
def tw2566733112787608988:=()
def tw2569994825546591406:=()
def tw2588581580766245709:=()
def tw2591870243612140754:=()
def tw2599507202793983997:=()
def tw2642954100187745446:=()
def tw2659444584299098236:=()
def tw268281970179245116:=()
def tw2690100105320179990:=()
def tw2751450733299154571:=()
def tw2763809386855797148:=()
def tw2818310802404118586:=()
def tw2840411699231586805:=()
def tw2853073178272600455:=()
def tw2866001169959664966:=()
def tw2877946048156069996:=()
def tw2889388867401232071:=()
def tw293998091792176574:=()
def tw2961635668582190306:=()
def tw2982748117676104425:=()
def tw2983528547612871601:=()
def tw2997412650385905380:=()
def tw2997794634817626365:=()
def tw3018744209891095435:=()
def tw3021910810113033438:=()
def tw3043719907640242960:=()
def tw3060960103424794817:=()
def tw309523277200250277:=()
def tw3117017912236602294:=()
def tw3119995498321399379:=()
def tw3138539613436492604:=()
def tw3177967766212540649:=()
def tw3179281249206713546:=()
def tw3192291860408118766:=()
def tw3215331991527084599:=()
def tw3243534594330480038:=()
def tw3271534554472391894:=()
def tw3271776780839066940:=()
def tw3315587984360155681:=()
def tw3316726849919920056:=()
def tw3368417179559111017:=()
def tw3374096465891929123:=()
def tw3430120295936603846:=()
def tw3433799100697084000:=()
def tw3442339370901815266:=()
def tw3448439677452872375:=()
def tw3458897556501398114:=()
def tw3478746426760385890:=()
def tw3498661322378260587:=()
def tw3508005631400562108:=()
def tw3522702506984526756:=()
def tw3573024758636783828:=()
def tw3577832315191264888:=()
def tw3579463549518125311:=()
def tw3608668079473825307:=()
def tw3644729248957822131:=()
def tw3650805633175148188:=()
def tw3652941599354769509:=()
def tw3668711574868452594:=()
def tw3685361074705230482:=()
def tw3733241966331542811:=()
def tw3777676835926286436:=()
def tw3796978514256162755:=()
def tw3804645924122626355:=()
def tw3814285751016611968:=()
def tw3848400300086194029:=()
def tw3853704417233709445:=()
def tw3865368900716028497:=()
def tw3867083951220178514:=()
def tw390136342234583189:=()
def tw3910677285466079545:=()
def tw3939900715301028594:=()
def tw3956828462728175582:=()
def tw3957586228440610923:=()
def tw3974897646477932737:=()
def tw3978217408071522260:=()
def tw4021486340881463761:=()
def tw4051684793839959868:=()
def tw4072991586124750959:=()
def tw4075557203462351865:=()
def tw4076357177315651088:=()
def tw4113734294311477348:=()
def tw4132590762820038674:=()
def tw4143216219758004943:=()
def tw4192247595779890414:=()
def tw4226067298108262534:=()
def tw4226131822941058653:=()
def tw4230078502436839050:=()
def tw4244626648730497535:=()
def tw4260381945055872787:=()
def tw4275994175579224247:=()
def tw4277646890019817826:=()
def tw4309808590860036615:=()
def tw4320478290171121582:=()
def tw4341349763594152506:=()
def tw4348530571392405392:=()
def tw4375262878116519241:=()
def tw4385551411497583093:=()
def tw4407164454640157286:=()
def tw4410027245346608223:=()
def tw4437112603433089508:=()
def tw4437683886652320902:=()
def tw4446658970927229143:=()
def tw4468331074807430959:=()
def tw4509324217923751377:=()
def tw4521462556332411596:=()
def tw460219730905719461:=()
def tw4605141067238255898:=()
def tw4607873481500948518:=()
def tw461800515568253181:=()
def tw4638638406810211459:=()
def tw4642233433591812557:=()
def tw466045769769141811:=()
def tw4664585627481747495:=()
def tw4717605587484103241:=()
def tw4730394577772616360:=()
def tw4758647563977465645:=()
def tw476125393498482694:=()
def tw4775504488276177488:=()
def tw4780738119993062699:=()
def tw4784616536628449638:=()
def tw4810797282372988672:=()
def tw4827203173528205140:=()
def tw4910725729361027300:=()
def tw4938748892985366459:=()
def tw4951217174950302423:=()
def tw4960444102740371768:=()
def tw4978402221896368235:=()
def tw4988499242798870769:=()
def tw4993748728601650210:=()
def tw5009987244729482185:=()
def tw5031695407478815259:=()
def tw5039377164890775474:=()
def tw5081254907955721980:=()
def tw5092079015594628430:=()
def tw512295395037596472:=()
def tw5147558661600317304:=()
def tw5163136364369266004:=()
def tw5179013567557767345:=()
def tw5181996341422797194:=()
def tw5211805720983528263:=()
def tw5261832593995598709:=()
def tw5272962793624902172:=()
def tw5286991530401197412:=()
def tw5297037625698936401:=()
def tw5297914638600444661:=()
def tw5308912655433330764:=()
def tw5354100054642149652:=()
def tw5393624165446287844:=()
def tw5400275027733843244:=()
def tw5431934484052864437:=()
def tw5458602474814806112:=()
def tw5477475219202056089:=()
def tw5487580719591197945:=()
def tw5551567341408613195:=()
def tw5586735228922818634:=()
def tw559877298338760162:=()
def tw5640038444483184563:=()
def tw5699113916187142345:=()
def tw5794655185405379686:=()
def tw5796478383274842599:=()
def tw58604856548833745:=()
def tw5861458777343795054:=()
def tw5871172449816956482:=()
def tw5883992468242018316:=()
def tw5892404691153406408:=()
def tw5921207875812409680:=()
def tw594150450960126433:=()
def tw5947597330881101500:=()
def tw5999080203443191361:=()
def tw6017706639976013899:=()
def tw601794847703248754:=()
def tw604086599799021480:=()
def tw6056054435495891207:=()
def tw6064549700692472805:=()
def tw6080306765226004623:=()
def tw6101834126246968260:=()
def tw6122222116792948118:=()
def tw6126915674813190546:=()
def tw6149772300103243586:=()
def tw6155732707257069805:=()
def tw6176570613827818737:=()
def tw6193995170272379288:=()
def tw6231271591588737421:=()
def tw6253859990188013297:=()
def tw626717796614542557:=()
def tw6337041245462156083:=()
def tw6355061415476742590:=()
def tw6356474606809873995:=()
def tw6393967010509423261:=()
def tw6395177118816644972:=()
def tw6415236027886577841:=()
def tw6512085796958948515:=()
def tw6537986896451791869:=()
def tw6547230826172483024:=()
def tw6550005748019659162:=()
def tw6612456856974227663:=()
def tw6623046381210786659:=()
def tw6672774077304306707:=()
def tw6679480529871265407:=()
def tw6694868187235060783:=()
def tw6748164982706531186:=()
def tw6760883180980990615:=()
def tw6761471401191883841:=()
def tw6765766509608246542:=()
def tw6771349549747280841:=()
def tw678570648144748784:=()
def tw6808722092855779781:=()
def tw6829710033797252028:=()
def tw6882492079863407659:=()
def tw6888312309888794664:=()
def tw6923450002032105506:=()
def tw6927864911791812838:=()
def tw6938269198556289347:=()
def tw7023244144836185710:=()
def tw7025035491466748138:=()
def tw7127792565974418180:=()
def tw7141059846189901060:=()
def tw7148226726435916636:=()
def tw7149849251603237700:=()
def tw7176627228379231118:=()
def tw7195798847589748684:=()
def tw722185865500658513:=()
def tw7232443470868819475:=()
def tw726856712609699626:=()
def tw7296921046026813672:=()
def tw72980256354569323:=()
def tw7314488783681699230:=()
def tw7343661800514125630:=()
def tw735183049268736888:=()
def tw7379585838949774577:=()
def tw7411247502052646900:=()
def tw7425455893574971373:=()
def tw7501206291110681915:=()
def tw7563840652599880:=()
def tw75639819647920771:=()
def tw7565054636966697121:=()
def tw7571780093476341948:=()
def tw7652025176986166413:=()
def tw7714200294575727670:=()
def tw7723459224193138076:=()
def tw7748412172445033262:=()
def tw7840991500893369876:=()
def tw7845714713404363214:=()
def tw7866356943985768457:=()
def tw7873013938909316971:=()
def tw7876899090077529478:=()
def tw7914791437759932151:=()
def tw7946195828901338670:=()
def tw8032943120138633570:=()
def tw8051699086167109131:=()
def tw807281597507503962:=()
def tw8073529002791570856:=()
def tw8082044024520622270:=()
def tw8094425065048887420:=()
def tw810989401163147399:=()
def tw8113222097691180130:=()
def tw8121099863157714276:=()
def tw8135065625284654973:=()
def tw8179590299157627927:=()
def tw8208294997251040561:=()
def tw82194086133726958:=()
def tw8245221302514717949:=()
def tw8250181976817246055:=()
def tw8256140016680771611:=()
def tw8270187272274190656:=()
def tw8311665660962368625:=()
def tw8320055197968656193:=()
def tw8353648013642641153:=()
def tw8358151222126044317:=()
def tw8434402493176027020:=()
def tw8455061111754629591:=()
def tw8481228538781009240:=()
def tw8521282441393891563:=()
def tw8566589375208493760:=()
def tw8645323454323614251:=()
def tw8648466803267229664:=()
def tw868688987128025681:=()
def tw8740881610992196675:=()
def tw8766890591603605247:=()
def tw87729357441818680:=()
def tw8846209201944446432:=()
def tw8846967864835239710:=()
def tw8900216552895312018:=()
def tw8951291538284802055:=()
def tw8980855549710087274:=()
def tw8986687686327908956:=()
def tw8997605758055283496:=()
def tw9003473822266368205:=()
def tw9004043397144613008:=()
def tw9026003768155655445:=()
def tw9032111403464122693:=()
def tw9101114398756595385:=()
def tw9117365967597904682:=()
def tw9197269627294504030:=()
def tw9199750780066448000:=()
def tw9213378996072041509:=()
def tw9241551364871506987:=()
def tw9260820735783592380:=()
def tw9272969556855478521:=()
def tw9404719013252788848:=()
def tw9420756175560844288:=()
def tw9431544666099202067:=()
def tw9439011940690184149:=()
def tw9488610430490339669:=()
def tw9518562081140219228:=()
def tw9549815453297616233:=()
def tw9549883423286874647:=()
def tw955480637005725900:=()
def tw9561850283269112256:=()
def tw9562811838952628359:=()
def tw9595701672695981104:=()
def tw963449304914893125:=()
def tw9664212221132150999:=()
def tw9669962452268990577:=()
def tw9692061794014119441:=()
def tw9703576642492796812:=()
def tw9721230181648087439:=()
def tw9827468768936824148:=()
def tw9868778311687979400:=()
def tw9905871638319274251:=()
def tw9921219689346196659:=()
end PySem.W.Fast
set_option tactic.hygienic true
open PySem PySem.W PyProof.Rows
set_option maxRecDepth 100000 in
set_option maxHeartbeats 0 in
theorem PySem.Challenge.cw_wantway_k59_far_down_holds : PySem.Challenge.rw_wantway_k59_far_down.Holds := by
  w_on; o_law; k_head; (case hw => w_witness2)
  k_fill
  refine K4.goes (l := PySem.Challenge.rw_wantway_k59_far_down) rfl rfl (fun w h Y => PySem.W.kIn_of Y) ?F
  case F =>
    intro w mg fa h KX G hmg
    refine' K4.all_at KX G hmg ?_ ?_ ?_ ?_ ?_ ?_ ?_ ?_ ?_ ?_ ?_ ?_ ?_ ?_ ?_ ?_ ?_ ?_ ?_ ?_ ?_ ?_ ?_ ?_ ?_ ?_ ?_ ?_ ?_ ?_ ?_ ?_ ?_ ?_ ?_ ?_ ?_ ?_ ?_ ?_ ?_ ?_ ?_ ?_ ?_ ?_ ?_ ?_ ?_ ?_ ?_ ?_ ?_ ?_ ?_ ?_ ?_ ?_ ?_ ?_ ?_ ?_ ?_ ?_ ?_ ?_ ?_ ?_ ?_ ?_ ?_ ?_ ?_ ?_ ?_ ?_ ?_ ?_ ?_ ?_ ?_ ?_ ?_ ?_ ?_ ?_ ?_ ?_ ?_ ?_ ?_ ?_ ?_ ?_ ?_ ?_ ?_ ?_ ?_ ?_ ?_ ?_ ?_ ?_ ?_ ?_ ?_ ?_ ?_ ?_ ?_ ?_ ?_ ?_ ?_ ?_ ?_ ?_ ?_ ?_ ?_ ?_ ?_ ?_ ?_ ?_ ?_ ?_ ?_ ?_ ?_ ?_ ?_ ?_ ?_ ?_ ?_ ?_ ?_ ?_ ?_ ?_ ?_ ?_ ?_ ?_ ?_ ?_ ?_ ?_ ?_ ?_ ?_ ?_ ?_ ?_ ?_ ?_ ?_ ?_ ?_ ?_ ?_ ?_ ?_ ?_ ?_ ?_ ?_ ?_
    any_goals first | k_is | (refine' And.intro ?zz0 (K4.At.of ?zz1 ?zz2 ?zz3); (case zz0 => first | k_is | (constructor <;> k_is)); (case zz1 => k_is); (case zz2 => k_is); (case zz3 => k_is)) | (refine' And.intro ?zz0 (K4.AtD.of ?zz1 ?zz2 ?zz3 ?zz4); (case zz0 => k_is); (case zz1 => k_is); (case zz2 => k_is); (case zz3 => k_is); (case zz4 => k_is)) | (unfold K4.GN; k_is) | (unfold K4.GC; k_is) | (unfold K4.GF; k_is) | (refine' And.intro ?zz0 ?zz1; (case zz0 => k_is); (case zz1 => exact ⟨_, rfl⟩)) | kit_is | k_exc | (refine K4.CA.mk ?_ ?_ ?_ ?_ ?_ ?_ <;> k_is) | (refine And.intro ⟨_, _, rfl, rfl⟩ ?_; k_keys) | kernel_rfl
