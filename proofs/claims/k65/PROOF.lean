import PyProof.Rows.All
import Wide.All
import OpenK.AllK
import Wide.FinOn
import KE.KDictList
import KE.KDictOf
import KE.KRevSl
import KE.KSortTup
import KE.LcSums
import Lean
import PyProof.AttrMissSeq
import PyProof.AutoSeq1
import PyProof.DictWalks
import PyProof.EnumStmt
import PyProof.EqAt
import PyProof.EqKinds
import PyProof.ExcInit
import PyProof.FString4
import PyProof.ListOps
import PyProof.ListRange
import PyProof.MinMaxWalk
import PyProof.NeKinds
import PyProof.Rows.SumGenD
import PyProof.SeqRoads2
import PyProof.StrLawsIn
import PyProof.StrLawsRepr
import PyProof.StrWalks
import PyProof.SumWalk
import PyProof.TupleCall
import PyProof.WalksMore
import PyProof.ZipIter
import PySem.Challenge.RW_wantway_k65_no_rows
set_option Elab.async false
set_option linter.all false
set_option maxRecDepth 100000
set_option maxHeartbeats 8000000
set_option tactic.hygienic false
section
local macro_rules|`(tactic|exists $es,*)=>`(tactic|refine ⟨$es,*, ?_⟩)
theorem Y{α:Sort u}{a:α}:a=a:=rfl
abbrev yg:=@List.map_map
abbrev yh:=@List.mem_iff_getElem?
abbrev yi:=@List.mem_filter
abbrev yj:=@List.getD_eq_getElem?_getD
abbrev yk:=@List.getElem?_append_left
abbrev yn:=@List.length_singleton
abbrev yo:=@List.getElem?_eq_none_iff
abbrev yp:=@List.getElem?_append_right
abbrev yq:=@PySem.W.mg_none_of
abbrev yr:=@List.mem_or_eq_of_mem_set
abbrev yt:=@List.nodup_cons
abbrev yu:=@PySem.wpAny_setField_rec
abbrev yw:=@PySem.wpAny_truthy_bool
abbrev yx:=@Nat.lt_irrefl
abbrev yz:=@List.length_set
abbrev y9:=@List.find?_cons
abbrev vb:=@List.mem_of_find?_eq_some
abbrev vc:=@PySem.Heap.get?_update_other
abbrev vd:=@List.map_take
abbrev ve:=@PySem.Heap.get?_update_self
abbrev vg:=@List.replicate_succ
abbrev vh:=@Nat.min_eq_left
abbrev vi:=@PySem.Heap.size_push
abbrev vj:=@List.take_length
abbrev vm:=@List.take_sublist
abbrev vo:=@Bool.eq_iff_iff
abbrev vq:=@PySem.wpAny_newObj_type
abbrev vv:=@List.lookup_cons
abbrev vw:=@Nat.le_max_right
abbrev vy:=@List.mem_nil_iff
abbrev vz:=@List.getElem?_take
abbrev vA:=@List.take_append_drop
abbrev vC:=@PySem.wpAny_standAt
abbrev vD:=@PySem.wpAny_call_entry
abbrev vE:=@List.append_nil
abbrev vF:=@Nat.le_max_left
abbrev vG:=@List.getElem?_set_ne
abbrev vH:=@Nat.ne_of_gt
abbrev vI:=@PySem.wpAny_Call_Name_kw
abbrev vJ:=@PySem.wpAny_seqItems
abbrev vK:=@PyProof.Rows.slot_tuple_getitem
abbrev vL:=@PySem.mem_of_lookup
abbrev vM:=@List.getElem?_replicate
abbrev vN:=@List.length_drop
abbrev vO:=@List.all_eq_true
abbrev vP:=@List.not_mem_nil
abbrev vQ:=@List.getElem?_set_self
abbrev vR:=@PySem.W.kia_one
abbrev vS:=@PyProof.Rows.callWith_type1
abbrev vT:=@List.flatten_cons
abbrev vU:=@List.ext_getElem?
abbrev vV:=@List.pairwise_map
abbrev vW:=@List.mem_append_left
abbrev vX:=@Nat.mul_le_mul_right
abbrev vY:=@Nat.le_of_eq
abbrev vZ:=@Nat.lt_succ_self
abbrev v0:=@Nat.succ_mul
abbrev v7:=@List.map_nil
abbrev v8:=@List.foldl_cons
abbrev ja:=@Int.natCast_mul
abbrev jb:=@PySem.codeAny_mono
abbrev jc:=@Bool.false_eq_true
abbrev jd:=@List.getElem?_drop
abbrev je:=@Int.toNat_natCast
abbrev jf:=@List.append_assoc
abbrev jg:=@PySem.wpAny_attempt
abbrev jh:=@List.nodup_append
abbrev ji:=@Nat.lt_trichotomy
abbrev jj:=@Nat.mul_le_mul
abbrev jk:=@PySem.tupleKind_room_in1
abbrev jm:=@Nat.le_of_not_lt
abbrev jn:=@List.getElem_mem
abbrev jo:=@PySem.wpAny_pyIter_list
abbrev jq:=@PySem.W.callWith_K
abbrev jr:=@Nat.le_succ
abbrev js:=@PySem.wpAny_typeOf
abbrev jt:=@PySem.wpAny_setField
abbrev ju:=@Bool.and_eq_true_iff
abbrev jw:=@List.mem_iff_getElem
abbrev jx:=@List.eq_nil_of_length_eq_zero
abbrev jy:=@List.of_mem_zip
abbrev jz:=@List.forIn_cons
abbrev jA:=@Int.emod_nonneg
abbrev jB:=@Array.length_toList
abbrev jC:=@PySem.F.slot_enumerate_next
abbrev jD:=@PySem.wpAny_rule
abbrev jE:=@List.all_map
abbrev jF:=@List.mem_range
abbrev jG:=@PySem.Heap.get?_none_of_le
abbrev jH:=@Array.getElem?_eq_some_iff
abbrev jI:=@List.take_zero
abbrev jJ:=@List.take_take
abbrev jK:=@PySem.wpAny_passesOwn
abbrev jL:=@List.pairwise_iff_getElem
abbrev jM:=@Bool.not_eq_true'
abbrev jN:=@List.length_range
abbrev jO:=@Option.isSome_iff_exists
abbrev jP:=@PySem.F.args_tuple_add_2
abbrev jQ:=@List.any_cons
abbrev jR:=@PySem.F.entry_tuple_add
abbrev jS:=@List.cons_append
abbrev jT:=@List.any_eq_true
abbrev jU:=@Nat.le_add_right
abbrev jV:=@List.getElem_map
abbrev jW:=@PySem.F.slot_tuple_add
abbrev jX:=@Option.map_some
abbrev jY:=@List.sum_append
abbrev jZ:=@PySem.F.slot_dict_get
abbrev j3:=@List.length_filter_le
abbrev j5:=@Bool.and_false
abbrev j6:=@PySem.wpAny_list_append_plain
abbrev j7:=@List.drop_zero
abbrev j8:=@List.mem_of_mem_drop
abbrev j9:=@List.filterMap_cons
abbrev qa:=@PySem.call_meets
abbrev qb:=@Nat.add_sub_cancel'
abbrev qc:=@List.getElem?_range
abbrev qd:=@List.map_congr_left
abbrev qe:=@PySem.wpAny_execs_nil
abbrev qg:=@List.all_cons
abbrev qh:=@PySem.F.slot_zip_next
abbrev qi:=@Nat.lt_of_le_of_lt
abbrev qj:=@PySem.W.looks_findIn
abbrev ql:=@List.find?_eq_none
abbrev qm:=@Nat.max_le
abbrev qr:=@Int.emod_lt_of_pos
abbrev qu:=@Option.isSome_map
abbrev qv:=@PySem.codeAny_call_builtin
abbrev qw:=@Nat.lt_or_ge
abbrev qy:=@PySem.wpAny_updateSeq_pair
abbrev qz:=@List.flatMap_cons
abbrev qA:=@List.take_add_one
abbrev qB:=@List.foldl_append
abbrev qC:=@List.map_set
abbrev qD:=@PySem.Heap.get?_update_ne
abbrev qF:=@List.map_snd_zip
abbrev qG:=@List.map_fst_zip
abbrev ZA:=@List.length_map
abbrev ZC:=@List.getElem?_eq_getElem
abbrev ZD:=@PySem.Heap.get?_push_of_some
abbrev ZE:=@List.getElem?_eq_some_iff
abbrev ZF:=@Nat.le_refl
abbrev ZG:=@List.getElem?_map
abbrev ZH:=@List.mem_of_getElem?
abbrev ZI:=@List.map_append
abbrev ZJ:=@List.length_append
abbrev ZK:=@List.mem_cons_of_mem
abbrev ZL:=@List.length_take
abbrev ZM:=@List.size_toArray
abbrev ZN:=@PySem.Heap.lt_size
abbrev ZO:=@List.mem_singleton
abbrev ZP:=@Option.some.inj
abbrev ZQ:=@List.mem_append_right
abbrev ZT:=@List.map_cons
abbrev ZU:=@List.mem_map
abbrev ZV:=@List.mem_append
abbrev ZW:=@PySem.Heap.get?_push_size
abbrev ZX:=@Bool.and_eq_true
abbrev ZY:=@List.mem_cons_self
abbrev ZZ:=@Nat.le_trans
abbrev Za:=@Nat.zero_le
abbrev Zb:=@List.mem_cons
abbrev Zc:=@Nat.ne_of_lt
abbrev Zd:=@List.length_cons
abbrev Ze:=@List.take_of_length_le
abbrev Zf:=@Nat.le_of_lt
abbrev Zg:=@Bool.false_ne_true
abbrev Zh:=@Option.map_eq_some_iff
abbrev Zi:=@List.mem_of_mem_take
abbrev Zj:=@PySem.wpAny_bind
abbrev Zk:=@PySem.wpAny_pure
abbrev Zl:=@PySem.wpAny_mono
abbrev Zm:=@PySem.wpAny_field
abbrev Zn:=@if_pos
abbrev Zo:=@if_neg
abbrev Zp:=@absurd
abbrev Zq:=@Ne.symm
abbrev Zr:=@of_decide_eq_true
abbrev Zs:=@PySem.boot_len
abbrev Zt:=@PySem.PassesOwn.never
abbrev Zu:=@Nat.not_lt_zero
abbrev Zv:=@Nat.lt_of_lt_of_le
abbrev Zw:=@decide_eq_false
abbrev Zx:=@PySem.F.plainAttrs_list
abbrev Zy:=@PySem.F.slot_list_append
abbrev Zz:=@PySem.F.type_list_append
local macro_rules|`(tactic|omega)=>`(tactic|lia)
namespace L2
open PySem PySem.Spec PyProof.Rows
def sl(n:Nat)(h:n<=sizeLine:=by decide):n<=sizeLine:=h
abbrev Key:=Sum Int Str
abbrev kP:=List Expr
abbrev kO:=List (List Int)
abbrev kM:=Str->Nat
abbrev kC:=Array Value
abbrev kB:=Option Addr
abbrev kA:=List Addr
abbrev kz:=List Int
abbrev ky:=Option Int
abbrev kq:=List Str
abbrev kj:=List Value
abbrev kh:=Value->Shared->Prop
abbrev kb:=List (Addr×Obj)
def Ju:Key->Value->Bool
 |.inl k,v=>Value.isInt k v
 |.inr x,v=>Value.isStrOf x v
def yL(w:World):Key->Int
 |.inl k=>hashInt k
 |.inr x=>hashStr w x
theorem Vy:∀{k:Key}{v:Value},Ju k v=true->(∃i t,k=Sum.inl i/\v=Value.int i t)\/(∃x t,k=Sum.inr x/\v=Value.str x t)
 |.inl i,v,h=>by
  obtain⟨t,e⟩:=Value.isInt_shape (k:=i) (v:=v) h;exact .inl ⟨i,t,Y,e⟩
 |.inr x,v,h=>by
  obtain⟨t,e⟩:=Value.isStrOf_shape (x:=x) (v:=v) h;exact .inr ⟨x,t,Y,e⟩
def IQ(i:Int)(t:Tok):Ju (.inl i) (.int i t)=true:=by simp[Ju,Value.isInt]
def R9(x:Str)(t:Tok):Ju (.inr x) (.str x t)=true:=by simp[Ju,Value.isStrOf]
def Af(a b:Int):decide ((Sum.inl a:Key)=Sum.inl b)=(a==b):=by
 by_cases e:a=b
 .subst e;simp
 .have h:¬(Sum.inl a:Key)=Sum.inl b:=λq=>e<|Sum.inl.inj q
  rw[Zw h];exact(beq_eq_false_iff_ne.mpr e).symm
def Ac(a b:Str):decide ((Sum.inr a:Key)=Sum.inr b)=decide (a=b):=by
 by_cases e:a=b
 .subst e;simp
 .have h:¬(Sum.inr a:Key)=Sum.inr b:=λq=>e<|Sum.inr.inj q
  rw[Zw h,Zw e]
def Ae(a:Int)(b:Str):decide ((Sum.inl a:Key)=Sum.inr b)=false:=Zw λq=>nomatch q
def Ad(a:Str)(b:Int):decide ((Sum.inr a:Key)=Sum.inl b)=false:=Zw λq=>nomatch q
def VT(prog:Program)(w:World):PySem.KeyKind prog w Key where
 is:=Ju
 hash:=yL w
 inj:=λv a b M G=>by
  rcases Vy M with⟨i,t,rfl,rfl⟩|⟨x,t,rfl,rfl⟩
  .rcases Vy G with⟨j,u,rfl,e⟩|⟨y,u,rfl,e⟩
   .injection e with Z _;rw[Z]
   .exact nomatch e
  .rcases Vy G with⟨j,u,rfl,e⟩|⟨y,u,rfl,e⟩
   .exact nomatch e
   .injection e with Z _;rw[Z]
 byValue:=λk v h=>by
  rcases Vy h with⟨i,t,rfl,rfl⟩|⟨x,t,rfl,rfl⟩ <;> rfl
 pyHash:=λJ h=>by
  rcases Vy J with⟨i,t,rfl,rfl⟩|⟨x,t,rfl,rfl⟩
  .exact wpAny_pyHash_int h
  .exact wpAny_pyHash_str h
 eqBool:=λL J h=>by
  rcases Vy L with⟨i,t,rfl,rfl⟩|⟨x,t,rfl,rfl⟩
  .rcases Vy J with⟨j,u,rfl,rfl⟩|⟨y,u,rfl,rfl⟩
   .rw [Af]at h;exact wpAny_eqBool_int h
   .rw [Ae]at h;exact SeqAt.EqAt.int_str i t y u _ _ _ _ h
  .rcases Vy J with⟨j,u,rfl,rfl⟩|⟨y,u,rfl,rfl⟩
   .rw [Ad]at h;exact SeqAt.EqAt.str_int x t j u _ _ _ _ h
   .rw [Ac]at h;exact wpAny_eqBool_str h
 «strs»:=λk x t v h=>by
  rcases Vy h with⟨i,u,rfl,e⟩|⟨y,u,rfl,e⟩
  .exact nomatch e
  .injection e with Z _
   subst Z;cases v <;> rfl
def BF(Z:Program)(w:World)(i:Int)(t:Tok):(VT Z w).is (.inl i) (.int i t)=true:=IQ i t
def BC(Z:Program)(w:World)(x:Str)(t:Tok):(VT Z w).is (.inr x) (.str x t)=true:=R9 x t
inductive V where
 |non|bl (b:Bool)|int (i:Int)|str (x:Str)|byt (b:Array UInt8)|flt (b:UInt64)|ref (a:Addr)|ty (n:String)
 deriving DecidableEq
abbrev kJ:=Option V
abbrev kF:=List V
abbrev kE:=List (Key×V)
def RelV:V->Value->Prop
 |.non,u=>u=Value.none
 |.bl b,u=>u=Value.bool b
 |.int i,u=>∃t,u=Value.int i t
 |.str x,u=>∃t,u=Value.str x t
 |.byt b,u=>∃t,u=Value.bytes b t
 |.flt b,u=>∃t,u=Value.float b t
 |.ref a,u=>u=Value.ref a
 |.ty n,u=>u=Value.type n
abbrev Vals:List V->List Value->Prop:=Paired RelV
def Vals.length(r:Vals Z J):Z.length=J.length:=Paired.length r
theorem Vals.get:∀{Z:kF}{J:kj}{i:Nat}{x:V},Vals Z J->Z[i]?=some x->∃u,J[i]?=some u/\RelV x u
 |_,_,_,_,.nil,e=>by simp at e
 |_,_,0,_,.cons r _,e=>by simp at e;subst e;exact⟨_,Y,r⟩
 |_,_,i+1,x,.cons _ t,e=>by
  obtain⟨u,L,G⟩:=Vals.get (i:=i) (x:=x) t (by simpa using e);exact⟨u,by simpa using L,G⟩
theorem Vals.set(r:RelV x u):∀{Z:kF}{J:kj}(i:Nat),Vals Z J->Vals (Z.set i x) (J.set i u)
 |_,_,_,.nil=>.nil
 |_,_,0,.cons _ t=>.cons r t
 |_,_,i+1,.cons q t=>.cons q<|Vals.set r i t
theorem Vals.append:∀{Z ys:kF}{G J:kj},Vals Z G->Vals ys J->Vals (Z++ ys) (G++ J)
 |_,_,_,_,.nil,s=>s
 |_,_,_,_,.cons r t,s=>.cons r<|Vals.append t s
theorem Vals.take:∀{Z:kF}{J:kj}(n:Nat),Vals Z J->Vals (Z.take n) (J.take n)
 |_,_,0,_=>.nil
 |_,_,_+1,.nil=>.nil
 |_,_,n+1,.cons r t=>.cons r<|Vals.take n t
theorem Vals.drop:∀{Z:kF}{J:kj}(n:Nat),Vals Z J->Vals (Z.drop n) (J.drop n)
 |_,_,0,r=>r
 |_,_,_+1,.nil=>.nil
 |_,_,n+1,.cons _ t=>Vals.drop n t
def Ud:Option V->Option Value->Prop
 |some v,some u=>RelV v u
 |none,none=>True
 |_,_=>False
def KV{κ:Type}:List (κ×V)->List (κ×Value)->Prop:=Paired λ(p:κ×V)(q:κ×Value)=>p.1=q.1/\RelV p.2 q.2
def kV:Key->V
 |.inl i=>.int i
 |.inr x=>.str x
inductive HO where
 /-- a list -/
 |lst (xs:List V)
 /-- a tuple (never changes) -/
 |tup (xs:List V)
 /-- a dict whose keys are ints and texts;one whose keys are tuples of ints and texts (the empty one is both) -/
 |dK (kvs:List (Key×V))|dT (kvs:List (List Key×V))
 /-- a set of ints:its members,its size -/
 |set (S:Int->Bool) (n:Nat)
 /-- an instance of the class at C,its dict at dx,its attributes -/
 |ins (C dx:Addr) (fs:List (Str×V))
 /-- the dict of the instance at x -/
 |own (x:Addr)
 /-- the dict of an exception -/
 |xd (fs:List (Str×V))
 /-- a bound method,f of x -/
 |met (f x:Addr)
 /-- a range object lo,lo+1,.. below hi -/
 |rng (lo hi:Int)
 /-- a thing that is known to the object (the script;a dict while a loop walks it):read,never written while it is so -/
 |frz (o:Obj) (u:HO)
 /-- a code object's table -/
 |tbl (ps:Array Value)
 /-- any other thing,by what is true of its one object (a def of one's own:SetO a S n:=HO.ext λh=>..) -/
 |ext (φ:Heap->Prop)
abbrev Hp:=Addr->Option HO
def upd(H:Hp)(a:Addr)(o:HO):Hp:=λb=>if b=a then some o else H b
def Ya:upd H a o a=some o:=by unfold upd;rw[Zn rfl]
def Yd(h:b≠a):upd H a o b=H b:=by unfold upd;rw[Zo h]
def JQ{H:Hp}(h:H a=some o)(Z:H b=some u)(d:o≠u):a≠b:=by
 intro e;subst e;rw[h]at Z;exact d<|ZP Z
def Yj{H:Hp}(h:H a=some o)(Z:H b=none):a≠b:=by
 intro e;subst e;rw[h]at Z;cases Z
def Gr(h:Heap)(a:Addr)(items:kC):Prop:=∃o,h.get? a=some o/\o.dict=none/\o.cls=.type "tuple" /\∃n,o.data=.seq items n
def Gr.is(x:Gr h a items):IsTup h a items:=let⟨o,G,_,J,Z⟩:=x;⟨o,G,J,Z⟩
def Gr.keeps(x:Gr h a items)(J:∀b o,h.get? b=some o->G.get? b=some o):Gr G a items:=let⟨o,Z,r⟩:=x;⟨o,J a o Z,r⟩
def Gr.new(h:Heap)(items:kC):Gr (h.push {cls:=.type "tuple",data:=.seq items}) h.objs.size items:=⟨_,ZW _ rfl,rfl,rfl,_,rfl⟩
section
variable(P:Program)(w:World)
def Va(H:Hp)(h:Heap)(a:Addr):HO->Prop
 |.lst xs=>xs.length<=sizeLine/\∃(its:kj)(n:Nat),Vals xs its/\h.get? a=some {cls:=.type "list",data:=.seq its.toArray n}
 |.tup xs=>xs.length<=sizeLine/\∃its:kj,Vals xs its/\Gr h a its.toArray
 |.dK kvs=>kvs.length<=sizeLine/\(a==sysModules)=false/\∃vs,KV kvs vs/\h.DictOf (VT P w) a vs
 |.dT kvs=>kvs.length<=sizeLine/\(a==sysModules)=false/\∃xs:List (List Key×Addr×Value),
   Paired (λ(p:List Key×V)(q:List Key×Addr×Value)=>p.1=q.1/\H q.2.1=some (.tup<|p.1.map kV)/\RelV p.2 q.2.2) kvs xs/\
   ∃o es ep,h.get? a=some o/\o.ExactDict/\o.data=.dict es ep/\es.toList=xs.map (entryOfKey<|tupleKind<|VT P w)/\(xs.map (·.1)).Nodup
 |.set S n=>h.SetOf (intKind P w) a S n
 |.ins C dx fs=>H dx=some (.own a)/\fs.length<=1000/\dx≠a/\h.get? a=some (W.instObj C dx)/\
   ∃mA,h.Ns1 dx mA/\(∀f,Ud (fs.lookup f)<|mA f)/\PySem.Within mA (fs.map (·.1))
 |.own _=>∃o,h.get? a=some o
 |.xd fs=>∃mA,h.Ns1 a mA/\∀f,Ud (fs.lookup f)<|mA f
 |.rng lo hi=>∃t u v,h.get? a=some {cls:=.type "range",data:=.fields #[.int lo t,.int hi u,.int 1 v]}
 |.frz o u=>h.get? a=some o/\Va H h a u
 |.tbl ps=>h.get? a=some {cls:=.none,data:=.fields ps}
 |.met f x=>h.get? a=some (W.methodObj (.ref f)<|.ref x)
 |.ext φ=>φ h/\(∃o,h.get? a=some o)/\∀h1 h2:Heap,φ h1->(∀o,h1.get? a=some o->h2.get? a=some o)->φ h2
def HOk(H:Hp)(h:Heap):Prop:=∀a o,H a=some o->Va P w H h a o
end
section
def Va.lt(x:Va P w H h a o):a<h.objs.size:=by
 cases o with
 |lst J=>obtain⟨_,_,_,_,e⟩:=x;exact ZN e
 |tup J=>obtain⟨_,_,_,p⟩:=x;exact p.is.lt
 |dK Z=>obtain⟨_,_,_,_,o,_,_,e,_⟩:=x;exact ZN e
 |dT Z=>obtain⟨_,_,_,_,o,_,_,e,_⟩:=x;exact ZN e
 |set S n=>obtain⟨o,_,_,_,e,_⟩:=x;exact ZN e
 |ins C R G=>obtain⟨_,_,_,e,_⟩:=x;exact ZN e
 |own y=>obtain⟨_,e⟩:=x;exact ZN e
 |xd G=>obtain⟨_,⟨_,_,_,e,_⟩,_⟩:=x;exact ZN e
 |rng N O=>obtain⟨_,_,_,e⟩:=x;exact ZN e
 |frz M u=>obtain⟨e,_⟩:=x;exact ZN e
 |tbl L=>exact ZN (show h.get? a=some _ from x)
 |met f y=>exact ZN (show h.get? a=some _ from x)
 |ext φ=>obtain⟨_,⟨_,e⟩,_⟩:=x;exact ZN e
theorem Paired.mapP:∀{J:List α}{Z:List β},Paired F J Z->(∀a b,F a b->G a b)->Paired G J Z
 |_,_,.nil,_=>.nil
 |_,_,.cons r t,f=>.cons (f _ _ r)<|Paired.mapP t f
def Va.stay(x:Va P w H h a o)(k:∀b u,(b=a\/H b=some (.own a))->h.get? b=some u->T.get? b=some u)(U:∀b,H b=some (.own a)->E b=some (.own a))(I:∀b M,H b=some (.tup M)->E b=some (.tup M)):Va P w E T a o:=by
 induction o with
 |lst M=>obtain⟨z,L,n,r,e⟩:=x;exact⟨z,L,n,r,k _ _ (.inl Y) e⟩
 |tup M=>obtain⟨z,L,r,Z,e,c⟩:=x;exact⟨z,L,r,Z,k _ _ (.inl Y) e,c⟩
 |dK R=>obtain⟨z,y,F,r,Z,J,G,e,c⟩:=x;exact⟨z,y,F,r,Z,J,G,k _ _ (.inl Y) e,c⟩
 |dT R=>
  obtain⟨z,y,M,r,Z,J,G,e,c⟩:=x;exact⟨z,y,M,Paired.mapP r λp q z=>⟨z.1,I _ _ z.2.1,z.2.2⟩,Z,J,G,k _ _ (.inl Y) e,c⟩
 |set S n=>obtain⟨Z,J,G,t,e,c⟩:=x;exact⟨Z,J,G,t,k _ _ (.inl Y) e,c⟩
 |ins C g X=>
  obtain⟨d,z,A,e,O,⟨N,J,G,Q,c⟩,r⟩:=x;exact⟨U _ d,z,A,k _ _ (.inl Y) e,O,⟨N,J,G,k _ _ (.inr d) Q,c⟩,r⟩
 |own y=>obtain⟨Z,e⟩:=x;exact⟨Z,k _ _ (.inl Y) e⟩
 |xd X=>obtain⟨O,⟨N,J,G,e,c⟩,r⟩:=x;exact⟨O,⟨N,J,G,k _ _ (.inl Y) e,c⟩,r⟩
 |rng j m=>obtain⟨t,u,v,e⟩:=x;exact⟨t,u,v,k _ _ (.inl Y) e⟩
 |frz Z u ih=>obtain⟨e,q⟩:=x;exact⟨k _ _ (.inl Y) e,ih q⟩
 |tbl D=>
  have e:h.get? a=some {cls:=.none,data:=.fields D}:=x;show T.get? a=some {cls:=.none,data:=.fields D};exact k a _ (.inl Y) e
 |met f y=>
  have e:h.get? a=some (W.methodObj (.ref f)<|.ref y):=x;show T.get? a=some (W.methodObj (.ref f)<|.ref y);exact k a _ (.inl Y) e
 |ext φ=>obtain⟨p,⟨o,e⟩,B⟩:=x;exact⟨B _ _ p λo q=>k _ _ (.inl Y) q,⟨o,k _ _ (.inl Y) e⟩,B⟩
def HOk.lt(x:HOk P w H h)(e:H a=some o):a<h.objs.size:=(x a o e).lt
def HOk.fresh(x:HOk P w H h)(e:h.objs.size<=a):H a=none:=by
 cases q:H a with
 |none=>rfl
 |some u=>exact Zp (Zv (x.lt q) e)<|yx _
def HOk.kept(x:HOk P w H h)(k:∀b u,h.get? b=some u->h'.get? b=some u):HOk P w H h':=λa o e=>
 (x a o e).stay (λb u _ q=>k b u q) (λ_ q=>q) λ_ _ q=>q
def HOk.laid(x:HOk P w H h)(k:∀b u,h.get? b=some u->h'.get? b=some u)(G:h.objs.size<=a)(Z:Va P w (upd H a o) h' a o):HOk P w (upd H a o) h':=λb u e=>by
 have J:=x.fresh G
 by_cases hb:b=a
 .subst hb;rw[Ya]at e;cases e;exact Z
 .rw [Yd hb]at e
  exact(x b u e).stay (λc v _ q=>k c v q) (λc q=>by rw[Yd (Yj q J)];exact q) λc L q=>by rw[Yd (Yj q J)];exact q
end
def Rd(H:Hp)(a:Addr)(u:HO):Prop:=H a=some u \/ ∃o,H a=some (.frz o u)
def Rd.ok(r:Rd H a u)(x:HOk P w H h):Va P w H h a u:=by
 rcases r with r|⟨o,r⟩
 .exact x a u r
 .obtain ⟨_,q⟩:=x a _ r
  exact q
def Mut:Option HO->Prop
 |some (.lst _)=>True
 |some (.dK _)=>True
 |some (.dT _)=>True
 |some (.set _ _)=>True
 |some (.ins _ _ _)=>True
 |some (.ext _)=>True
 |_=>False
section
def HOk.write(T:HOk P w H h)(L:Mut (H x))(R:e=x\/H e=some (.own x))(k:∀b u,b≠e->h.get? b=some u->h'.get? b=some u)(O:∃u,h'.get? e=some u)(N:Va P w (upd H x o') h' x o'):HOk P w (upd H x o') h':=λb u q=>by
 have Z:∀c y,H c=some (.own y)->c≠x:=λc y r z=>by subst z;rw[r]at L;exact L
 have J:∀c G,H c=some (.tup G)->c≠x:=λc G r z=>by subst z;rw[r]at L;exact L
 by_cases hb:b=x
 .subst hb;rw[Ya]at q;cases q;exact N
 .rw [Yd hb]at q
  by_cases hbe:b=e
  .have q':H b=some (.own x):=by
    rcases R with z|z
    .exact Zp (hbe.trans z) hb
    .rw [hbe];exact z
   rw[q]at q';cases q';obtain⟨v,B⟩:=O;exact⟨v,by rw[hbe];exact B⟩
  .refine (T b u q).stay (λc v M r=>k c v ?_ r) (λc r=>by rw[Yd (Z c b r)];exact r) λc G r=>by rw[Yd (J c G r)];exact r
   rcases M with rfl|M
   .exact hbe
   .rintro rfl
    rcases R with z|z
    .exact Z c b M z
    .rw [M]at z;cases z;exact hb Y
end
structure Un(fs ex:List Addr)(H H':Hp)(h h':Heap):Prop where
 keep:∀b o,h.get? b=some o->H b=none->b∉fs->b∉ex->h'.get? b=some o
 slot:∀b o,h.get? b=some o->H b=none->b∈fs->b∉ex->∃sl,h'.get? b=some {o with slots:=sl}
 free:∀b o,h.get? b=some o->H b=none->b∉ex->H' b=none
 there:∀b o,h.get? b=some o->b∉ex->∃o',h'.get? b=some o'
 tups:∀b xs,H b=some (.tup xs)->H' b=some (.tup xs)
 frzs:∀b o u,H b=some (.frz o u)->H' b=some (.frz o u)
 tbls:∀b ps,H b=some (.tbl ps)->∃more,H' b=some (.tbl (ps++ more))
section
variable{fs fs' ex ex':kA}{H H1 H2:Hp}{h h1 h2 h':Heap}{a x e:Addr}{o:HO}
def Un.any(u:Un fs ex H H1 h h1)(q:h.get? b=some ob)(n:H b=none)(J:b∉ex):∃sl,h1.get? b=some {ob with slots:=sl}:=by
 by_cases hb:b∈fs
 .exact u.slot b ob q n hb J
 .exact ⟨ob.slots,u.keep b ob q n hb J⟩
def Un.kept(k:∀b u,h.get? b=some u->h'.get? b=some u):Un fs ex H H h h':=
 ⟨λb Z q _ _ _=>k b Z q,λb Z q _ _ _=>⟨Z.slots,k b Z q⟩,λ_ _ _ n _=>n,λb Z q _=>⟨Z,k b Z q⟩,λ_ _ q=>q,λ_ _ _ q=>q,λ_ J q=>⟨#[],by rw[q];simp⟩⟩
def Un.refl:Un fs ex H H h h:=Un.kept λ_ _ q=>q
def Un.laid(k:∀b u,h.get? b=some u->h'.get? b=some u)(G:h.objs.size<=a)(Z:H a=none):Un fs ex H (upd H a o) h h' where
 keep:=λb u q _ _ _=>k b u q
 slot:=λb u q _ _ _=>⟨u.slots,k b u q⟩
 free:=λb u q n _=>by rw[Yd (Zc<|Zv (ZN q) G)];exact n
 there:=λb u q _=>⟨u,k b u q⟩
 tups:=λb J q=>by rw[Yd (Yj q Z)];exact q
 frzs:=λb u J q=>by rw[Yd (Yj q Z)];exact q
 tbls:=λb L q=>⟨#[],by rw[Yd (Yj q Z),q];simp⟩
def Un.write(Z:Mut (H x))(R:e=x\/H e=some (.own x))(k:∀b u,b≠e->h.get? b=some u->h'.get? b=some u)(G:∃u,h'.get? e=some u):Un fs ex H (upd H x o) h h':=by
 have L:∀b,H b=none->b≠x:=λb n z=>by subst z;rw[n]at Z;exact Z
 have M:∀b,H b=none->b≠e:=λb n z=>by
  subst z;rcases R with r|r
  .exact L b n r
  .rw [n]at r;cases r
 have J:∀b u,H b=some u->¬Mut (some u)->b≠x:=λb u q O z=>by subst z;rw[q]at Z;exact O Z
 refine⟨λb u q n _ _=>k b u (M b n) q,λb u q n _ _=>⟨u.slots,k b u (M b n) q⟩,λb u q n _=>by rw[Yd (L b n)];exact n,λb u q _=>?_,
  λb N q=>by rw[Yd (J b _ q λz=>z)];exact q,λb u N q=>by rw[Yd (J b _ q λz=>z)];exact q,λb T q=>⟨#[],by rw[Yd (J b _ q λz=>z),q];simp⟩⟩
 by_cases hbe:b=e
 .subst hbe;exact G
 .exact ⟨u,k b u hbe q⟩
end
def trk(h:Heap)(H:Hp):kA:=(List.range h.objs.size).filter λa=>(H a).isSome
def NJ(h:Heap)(H:Hp):Heap:=W.hideAll h<|trk h H
def IT(h:Heap)(H:Hp):(NJ h H).objs.size=h.objs.size:=W.hideAll_size _ _
def L7(e:h.get? b=some o)(n:H b=none):(NJ h H).get? b=some o:=
 W.hideAll_get _ e λZ=>by
  have q:(H b).isSome=true:=(yi.mp Z).2;rw[n]at q;simp at q
def P5(e:(NJ h H).get? b=some o):h.get? b=some o/\H b=none:=by
 have Z:h.get? b=some o:=W.of_hideAll (trk h H) e;exists Z
 cases q:H b with
 |none=>rfl
 |some x=>
  have J:b∈trk h H:=yi.mpr ⟨jF.mpr<|ZN Z,by simp[q]⟩;have z:(NJ h H).get? b=none:=W.hideAll_none (trk h H) J;rw[z]at e;cases e
structure Mod(K:W.Frag)(mg:Str->Option Value)(base:Heap):Prop where
 kin:K.In base
 glob:base.Ns mainGlobals mg
 blt:∃mb,base.Ns builtinsNs mb/\∀x:Str,x≠"__name__" ->mb x=bootBuiltins x
 nolimit:base.NoLimit
structure Cx where
 prog:Program
 w:World
 K:W.Frag
 mg:Str->Option Value
 base:Heap
 A:Around
 N:List Str
 s₀:Shared
 H₀:Hp
 env:Env
 outer:List Env
 stack:List Env
 ex:List Addr
 fn:Str->Bool
 calm:Bool
 pn:List (Addr×Obj)
 xe:Value->Shared->Prop
def frs(l:List Env):kA:=l.filterMap (·.frame)
abbrev Cx.fs(X:Cx):kA:=frs X.outer
def Vis(sc:Scope)(x:Str):Prop:=sc.names.lookup x=some .local\/sc.names.lookup x=some .cell\/sc.names.lookup x=some .free
def Loc(sc:Scope)(x:Str):Prop:=sc.names.lookup x=some .local\/sc.names.lookup x=some .cell
def Look(env:Env)(h:Heap)(m:Str->Option Value)(x:Str)(u:Value):Prop:=
 (env.kindOf x=some .local/\m x=some u)\/((env.kindOf x=some .cell\/env.kindOf x=some .free)/\∃c,env.cells.lookup x=some c/\h.IsCell c (some u))
structure Cx.Ok(X:Cx):Prop where
 mod:Mod X.K X.mg X.base
 kind:X.env.scope.kind=.function
 glob:X.env.globals=mainGlobals
 blt:X.env.builtins=builtinsNs
 above:X.s₀.heap.objs.size<=X.env.locals
 inj:∀x y c,X.env.cells.lookup x=some c->X.env.cells.lookup y=some c->x=y
 has:∀x,(X.env.kindOf x=some .cell\/X.env.kindOf x=some .free)->∃c,X.env.cells.lookup x=some c
 cab:∀x c,X.fn x=true->X.env.cells.lookup x=some c->X.s₀.heap.objs.size<=c
 hd:X.calm=true->X.A.handled=none
 frames:X.A.frames=some X.stack
 stk:X.stack=X.outer\/(X.stack=X.env::X.outer/\X.env.frame=some X.env.locals)
 exf:∀b∈X.ex,b≠X.env.locals/\∀x c,X.env.cells.lookup x=some c->c≠b
 bs:∀b o,X.base.get? b=some o->X.s₀.heap.get? b=some o/\X.H₀ b=none
 bsz:X.base.objs.size<=X.s₀.heap.objs.size
 noex:∀b o,X.base.get? b=some o->b∉X.ex
 exfs:∀b∈X.ex,b∉X.fs
 funs:X.s₀.heap.FunFrames X.base X.outer
 frf:∀b∈X.fs,X.H₀ b=none
structure Inv(X:Cx)(pins:List (Addr×Obj))(U:List (Option V))(H:Hp)(s:Shared):Prop where
 ok:X.Ok
 os:s.os=X.s₀.os
 bare:AllBare s.gens
 base:Un X.fs X.ex X.H₀ H X.s₀.heap s.heap
 loc:∃m,s.heap.Ns X.env.locals m/\∀(i:Nat)(x:Str)(v:V),X.N[i]?=some x->U[i]?=some (some v)->Vis X.env.scope x->∃u,RelV v u/\Look X.env s.heap m x u
 cell:∀x c,X.env.cells.lookup x=some c->∃v,s.heap.IsCell c v
 free:H X.env.locals=none
 freeC:∀x c,X.env.cells.lookup x=some c->H c=none
 pin:∀p∈X.pn++ pins,s.heap.get? p.1=some p.2/\H p.1=none/\p.1≠X.env.locals/\p.1∉X.fs/\∀v,p.2.data≠.cell v
 hok:HOk X.prog X.w H s.heap
 len:U.length=X.N.length
section
variable{X:Cx}
def Cx.Ok.nofr(Z:X.Ok)(e:X.base.get? b=some o):b∉X.fs:=λJ=>by
 have:=(Z.funs.mem J).1;rw[e]at this;cases this
def Inv.bs(I:Inv X Z U H s):∀b o,X.base.get? b=some o->s.heap.get? b=some o/\H b=none:=λb o e=>
 ⟨I.base.keep b o (I.ok.bs b o e).1 (I.ok.bs b o e).2 (I.ok.nofr e)<|I.ok.noex b o e,I.base.free b o (I.ok.bs b o e).1 (I.ok.bs b o e).2<|I.ok.noex b o e⟩
def Inv.bk(I:Inv X Z U H s):∀b o,X.base.get? b=some o->s.heap.get? b=some o:=λb o e=>(I.bs b o e).1
def Inv.mod(I:Inv X Z U H s):Mod X.K X.mg X.base:=I.ok.mod
def Inv.kIn(I:Inv X Z U H s):X.K.In s.heap:=I.ok.mod.kin.keeps I.bk
def Inv.lt(I:Inv X Z U H s):X.env.locals<s.heap.objs.size:=let⟨_,J,_⟩:=I.loc;J.lt
def Inv.sz(I:Inv X Z U H s):X.s₀.heap.objs.size<=s.heap.objs.size:=ZZ I.ok.above<|Zf I.lt
def Inv.nofs(I:Inv X Z U H s)(h:s.heap.objs.size<=a):a∉X.fs:=λG=>by
 obtain⟨_,o,J,_⟩:=I.ok.funs.mem G;exact Zp (Zv (ZN J)<|ZZ I.sz h)<|yx _
def Inv.cne(I:Inv X G U H s):∀x c,X.env.cells.lookup x=some c->c≠X.env.locals:=λx c e z=>by
 obtain⟨v,o,L,M⟩:=I.cell x c e;obtain⟨m,⟨N,O,R,Z,J,_⟩,_⟩:=I.loc;rw[z,Z]at L;cases L;rw[J]at M;cases M
def Inv.funs(I:Inv X N U H s):s.heap.FunFrames X.base X.outer:=by
 have M:∀(l:List Env),(∀b∈frs l,b∈X.fs)->X.s₀.heap.FunFrames X.base l->s.heap.FunFrames X.base l:=by
  intro l
  induction l with
  |nil=>intro _ _;trivial
  |cons A r ih=>
   intro O D;obtain⟨E,⟨L,o,Z,B,T,F⟩,R⟩:=D;have G:L∈X.fs:=O L (by unfold frs;rw[j9,Z];exact ZY);obtain⟨sl,e⟩:=I.base.slot L o T (I.ok.frf L G) G λz=>I.ok.exfs L z G;exact⟨E,⟨L,_,Z,B,e,F⟩,ih (λb J=>O b (by unfold frs;rw[j9,Z];exact ZK _ J)) R⟩
 exact M X.outer (λ_ J=>J) I.ok.funs
def Inv.stack(I:Inv X Z U H s):s.heap.FunFrames X.base X.stack:=by
 rcases I.ok.stk with e|⟨e,G⟩
 .rw [e];exact I.funs
 .rw [e]
  obtain⟨m,J,_⟩:=I.loc;refine .cons (by rw[I.ok.kind];decide) G J ?_ I.funs;exact jG<|ZZ I.ok.bsz I.ok.above
def Inv.stkSub(I:Inv X J U H s):∀b∈frs X.stack,b∈X.env.locals::X.fs:=λb Z=>by
 rcases I.ok.stk with e|⟨e,G⟩
 .rw [e]at Z;exact ZK _ Z
 .rw [e]at Z
  unfold frs at Z;rw[j9,G]at Z;exact Z
def Inv.stkFree(I:Inv X J U H s):∀b∈frs X.stack,H b=none:=λb Z=>by
 rcases Zb.mp (I.stkSub b Z)with e|Z
 .rw [e];exact I.free
 .obtain ⟨_,o,ho,_⟩:=I.ok.funs.mem Z
  exact I.base.free b o ho (I.ok.frf b Z) λz=>I.ok.exfs b z Z
def Inv.step{ch:kA}(I:Inv X O U H s)(G:∀b∈ch,(b∈X.ex\/X.s₀.heap.objs.size<=b)/\b≠X.env.locals/\(∀x c,X.env.cells.lookup x=some c->c≠b)/\∀p∈X.pn++ O,p.1≠b)(keep:∀b o,b≠X.env.locals->b∉X.fs->b∉ch->s.heap.get? b=some o->H b=none->h'.get? b=some o)(slot:∀b o,b≠X.env.locals->b∈X.fs->b∉ch->s.heap.get? b=some o->H b=none->∃sl,h'.get? b=some {o with slots:=sl})(free:∀b o,b∉ch->s.heap.get? b=some o->H b=none->H' b=none)(there:∀b o,b∉ch->s.heap.get? b=some o->∃E,h'.get? b=some E)(B:∀b N,H b=some (.tup N)->H' b=some (.tup N))(A:∀b o u,H b=some (.frz o u)->H' b=some (.frz o u))(D:∀b C,H b=some (.tbl C)->∃more,H' b=some (.tbl<|C++ more))(g:∀m,s.heap.Ns X.env.locals m->h'.Ns X.env.locals m)(j:HOk X.prog X.w H' h')(w:AllBare g'):
  Inv X O U H' {s with heap:=h',gens:=g',drawn:=d',toks:=t'}:=by
 have F:∀b o,X.s₀.heap.get? b=some o->b≠X.env.locals:=λb o e=>Zc<|Zv (ZN e) I.ok.above
 have L:∀b o,X.s₀.heap.get? b=some o->b∉X.ex->b∉ch:=λb o e Z R=>by
  rcases(G b R).1 with z|z
  .exact Z z
  .exact Zp (Zv (ZN e) z) (yx _)
 have cellK:∀x c,X.env.cells.lookup x=some c->∀v,s.heap.IsCell c v->h'.IsCell c v:=λx c e v ⟨o,T,y⟩=>by
  have J:c∉ch:=λz=>(G c z).2.2.1 x c e rfl
  by_cases hc:c∈X.fs
  .obtain ⟨sl,q⟩:=slot c o (I.cne x c e) hc J T<|I.freeC x c e
   exact⟨_,q,y⟩
  .exact ⟨o,keep c o (I.cne x c e) hc J T<|I.freeC x c e,y⟩
 refine⟨I.ok,I.os,w,⟨λb o e n R Z=>?_,λb o e n R Z=>?_,λb o e n Z=>?_,λb o e Z=>?_,λb N e=>B b N<|I.base.tups b N e,λb o N e=>A b o N<|I.base.frzs b o N e,λb C e=>?_⟩,?_,λx c e=>?_,?_,λx c e=>?_,λp t=>?_,j,I.len⟩
 .exact keep b o (F b o e) R (L b o e Z) (I.base.keep b o e n R Z) (I.base.free b o e n Z)
 .obtain ⟨sl,M⟩:=I.base.slot b o e n R Z
  obtain⟨Q,S⟩:=slot b _ (F b o e) R (L b o e Z) M<|I.base.free b o e n Z;exact⟨Q,S⟩
 .obtain ⟨E,M⟩:=I.base.there b o e Z
  exact free b E (L b o e Z) M<|I.base.free b o e n Z
 .obtain ⟨E,M⟩:=I.base.there b o e Z
  exact there b E (L b o e Z) M
 .obtain ⟨m1,M⟩:=I.base.tbls b C e
  obtain⟨f,S⟩:=D b _ M;exact⟨m1++ f,by rw[S,Array.append_assoc]⟩
 .obtain ⟨m,hn,hl⟩:=I.loc
  refine⟨m,g m hn,λi x v M S h=>?_⟩;obtain⟨u,r,l⟩:=hl i x v M S h;exists u,r;rcases l with l|⟨k,c,e,z⟩
  .exact .inl l
  .exact .inr ⟨k,c,e,cellK x c e _ z⟩
 .obtain ⟨v,z⟩:=I.cell x c e
  exact⟨v,cellK x c e v z⟩
 .obtain ⟨m,⟨o,_,_,T,_⟩,_⟩:=I.loc
  exact free _ o (λz=>(G _ z).2.1 Y) T I.free
 .obtain ⟨v,o,T,y⟩:=I.cell x c e
  exact free c o (λz=>(G c z).2.2.1 x c e Y) T<|I.freeC x c e
 .obtain ⟨e,n,ne,nf,d⟩:=I.pin p t
  have J:p.1∉ch:=λz=>(G p.1 z).2.2.2 p t rfl;exact⟨keep p.1 p.2 ne nf J e n,free p.1 p.2 J e n,ne,nf,d⟩
def Inv.un(I:Inv X Z U H s)(u:Un X.fs [] H R s.heap h')(G:HOk X.prog X.w R h'):Inv X Z U R {s with heap:=h',toks:=t'}:=by
 obtain⟨m,⟨o,A,S,O,r⟩,_⟩:=id I.loc;obtain⟨sl,D⟩:=u.any O I.free<|by simp
 exact I.step (g':=s.gens) (d':=s.drawn) (ch:=[]) (λ_ z=>nomatch z) (λb o _ L _ e n=>u.keep b o e n L<|by simp) (λb o _ L _ e n=>u.slot b o e n L<|by simp) (λb o _ e n=>u.free b o e n<|by simp) (λb o _ e=>u.there b o e<|by simp) u.tups u.frzs u.tbls (λF B=>by
  obtain⟨E,M,N,J,T⟩:=B;rw[O]at J;cases J;exact⟨_,M,N,D,T⟩) G I.bare
def Inv.call(I:Inv X Z U H s)(u:Un (frs X.stack) ch H B s.heap h')(M:HOk X.prog X.w B h')(F:AllBare g')(L:∀b∈ch,(b∈X.ex\/X.s₀.heap.objs.size<=b)/\b≠X.env.locals/\(∀x c,X.env.cells.lookup x=some c->c≠b)/\∀p∈X.pn++ Z,p.1≠b):
  Inv X Z U B {s with heap:=h',gens:=g',drawn:=d',toks:=t'}:=by
 obtain⟨m,⟨o,P,Q,T,r⟩,_⟩:=id I.loc;obtain⟨sl,N⟩:=u.any T I.free λz=>(L _ z).2.1 rfl
 exact I.step (ch:=ch) L (λb o N A J e n=>u.keep b o e n (λz=>(Zb.mp<|I.stkSub b z).elim N A) J) (λb o _ _ J e n=>u.any e n J) (λb o J e n=>u.free b o e n J) (λb o J e=>u.there b o e J) u.tups u.frzs u.tbls (λC E=>by
  obtain⟨S,O,R,G,D⟩:=E;rw[T]at G;cases G;exact⟨_,O,R,N,D⟩) M F
def Inv.turned(I:Inv X Z U H s)(k:∀b o,b≠it->s.heap.get? b=some o->D.get? b=some o)(M:H it=none)(L:it≠X.env.locals)(B:it∈X.ex\/X.s₀.heap.objs.size<=it)(T:∀x c,X.env.cells.lookup x=some c->c≠it)(R:∀p∈X.pn++ Z,p.1≠it):Inv X Z U H {s with heap:=D,toks:=t'}:=by
 have G:∀b u,H b=some u->b≠it:=λb u e z=>by rw[z,M]at e;cases e
 refine I.step (g':=s.gens) (d':=s.drawn) (ch:=[it]) (λb O=>?_) (λb o _ _ J e _=>k b o (λz=>J<|by simp[z]) e) (λb o _ _ J e _=>⟨o.slots,k b o (λz=>J<|by simp[z]) e⟩) (λ_ _ _ _ n=>n)
  (λb o J e=>⟨o,k b o (λz=>J<|by simp[z]) e⟩) (λ_ _ e=>e) (λ_ _ _ e=>e) (λb E e=>⟨#[],by rw[e];simp⟩) (λm N=>?_) (λb u e=>?_) I.bare
 .have e:b=it:=by simpa using O
  subst e;exact⟨B,L,T,R⟩
 .obtain ⟨o,es,ep,ho,r⟩:=N
  exact⟨o,es,ep,k _ o (Zq L) ho,r⟩
 .refine (I.hok b u e).stay (λc v J q=>k c v ?_ q) (λ_ q=>q) λ_ _ q=>q
  rcases J with z|z
  .rw [z];exact G b u e
  .exact G c _ z
def Inv.tok(I:Inv X Z U H s)(t:Nat):Inv X Z U H {s with toks:=t}:=I.un (h':=s.heap) (t':=t) Un.refl I.hok
def Inv.kept(I:Inv X Z U H s)(k:∀b u,s.heap.get? b=some u->h'.get? b=some u):Inv X Z U H {s with heap:=h',toks:=t'}:=I.un (Un.kept k)<|I.hok.kept k
def Inv.laid(I:Inv X Z U H s)(k:∀b u,s.heap.get? b=some u->h'.get? b=some u)(G:s.heap.objs.size<=a)(J:Va X.prog X.w (upd H a o) h' a o):
  Inv X Z U (upd H a o) {s with heap:=h',toks:=t'}:=I.un (Un.laid k G<|I.hok.fresh G)<|I.hok.laid k G J
def Inv.write(I:Inv X Z U H s)(L:Mut (H x))(M:e=x\/H e=some (.own x))(k:∀b u,b≠e->s.heap.get? b=some u->h'.get? b=some u)(J:∃u,h'.get? e=some u)(G:Va X.prog X.w (upd H x o) h' x o):Inv X Z U (upd H x o) {s with heap:=h',toks:=t'}:=I.un (Un.write L M k J)<|I.hok.write L M k J G
def Inv.weak(I:Inv X Z U H s)(L:U'.length=U.length)(w:∀(i:Nat) v,U'[i]?=some (some v)->U[i]?=some (some v)):Inv X Z U' H s:=
 ⟨I.ok,I.os,I.bare,I.base,let⟨m,G,J⟩:=I.loc;⟨m,G,λi x v O N M=>J i x v O (w i v N) M⟩,I.cell,I.free,I.freeC,I.pin,I.hok,L.trans I.len⟩
def Inv.pins_of(I:Inv X Z U H s)(h:∀p∈pins',s.heap.get? p.1=some p.2/\H p.1=none/\p.1≠X.env.locals/\p.1∉X.fs/\∀v,p.2.data≠.cell v):Inv X pins' U H s:=
 ⟨I.ok,I.os,I.bare,I.base,I.loc,I.cell,I.free,I.freeC,λp J=>(ZV.mp J).elim (λz=>I.pin p<|vW _ z)<|h p,I.hok,I.len⟩
def RN{N:kq}(Z:N.Nodup){i j:Nat}(a:N[i]?=some x)(b:N[j]?=some x):i=j:=by
 obtain⟨M,G⟩:=ZE.mp a;obtain⟨L,J⟩:=ZE.mp b;exact(List.getElem_inj Z).mp<|G.trans J.symm
def Ru(I:Inv X S U H s)(hN:X.N.Nodup)(t:X.N[i]?=some x)(L:Loc X.env.scope x)(r:RelV v u)(h:∀s',Inv X S (U.set i<|some v) H s'->(∃a,Heap.SameBut a s.heap s'.heap/\(a=X.env.locals\/X.env.cells.lookup x=some a))->Q () s')(hf:X.fn x=true\/X.env.scope.names.lookup x=some .local:=by first|exact .inl Y|exact .inr Y|assumption):wpAny M A (storeName X.env x u) Q E s:=by
 obtain⟨m,hn,hl⟩:=id I.loc;have g:(X.env.scope.kind==.class || (X.env.scope.kind==.module && X.env.locals !=X.env.globals))=false:=by rw[I.ok.kind];rfl
 have T:i<U.length:=by rw[I.len];exact(ZE.mp t).1
 have D:=I.cne
 have tracked:∀{a:Addr}{F:Heap},(∃o,s.heap.get? a=some o/\H a=none)->Heap.SameBut a s.heap F->HOk X.prog X.w H F:=λ{a F} ha Z b ob e=>by
  obtain⟨_,_,N⟩:=ha;refine(I.hok b ob e).stay (λc w G q=>(Z.2 c ?_).trans q) (λ_ q=>q) λ_ _ q=>q;rintro rfl;rcases G with rfl|G
  .rw [N]at e;cases e
  .rw [N]at G;cases G
 rcases L with R|R
 .refine wpAny_storeName_local R hn (λF Z9 Z=>?_) g
  obtain⟨oL,_,_,Z8,_⟩:=id hn;refine h _ ⟨I.ok,I.os,I.bare,⟨λb o e n B L=>?_,λb o e n B L=>?_,I.base.free,λb o e L=>?_,I.base.tups,I.base.frzs,I.base.tbls⟩,⟨_,Z9,λj y v' J O e3=>?_⟩,λy c e=>?_,I.free,I.freeC,λp hp=>?_,tracked ⟨oL,Z8,I.free⟩ Z,by simpa using I.len⟩ ⟨_,Z,.inl Y⟩
  .exact (Z.2 b<|Zc<|Zv (ZN e) I.ok.above).trans (I.base.keep b o e n B L)
  .obtain ⟨sl,J⟩:=I.base.slot b o e n B L
   exact⟨sl,(Z.2 b<|Zc<|Zv (ZN e) I.ok.above).trans J⟩
  .obtain ⟨o',J⟩:=I.base.there b o e L
   exact⟨o',(Z.2 b<|Zc<|Zv (ZN e) I.ok.above).trans J⟩
  .by_cases hj:j=i
   .subst hj
    rw[t]at J;cases J;rw[vQ T]at O;cases O;exact⟨u,r,.inl ⟨R,by simp⟩⟩
   .rw [vG (Zq hj)]at O
    obtain⟨u',r',q⟩:=hl j y v' J O e3;exists u',r';rcases q with⟨k,e⟩|⟨k,c,e,z⟩
    .refine .inl ⟨k,?_⟩
     have:y≠x:=λe=>hj<|RN hN J<|e ▸ t;simp[this,e]
    .exact .inr ⟨k,c,e,z.sameBut Z<|D y c e⟩
  .obtain ⟨w,z⟩:=I.cell y c e
   exact⟨w,z.sameBut Z<|D y c e⟩
  .obtain ⟨e,n,ne,nf,d⟩:=I.pin p hp
   exact⟨(Z.2 p.1 ne).trans e,n,ne,nf,d⟩
 .have hfn:X.fn x=true:=by
   rcases hf with z|z
   .exact z
   .rw [z]at R;cases R
  obtain⟨c,G⟩:=I.ok.has x<|.inl R;obtain⟨w,z⟩:=I.cell x c G;refine wpAny_storeName_cell I.ok.kind R G z λF f Z=>?_;obtain⟨oc,P,C⟩:=id z;refine h {s with heap:=F} ⟨I.ok,I.os,I.bare,⟨λb o e n B L=>?_,λb o e n B L=>?_,I.base.free,λb o e L=>?_,I.base.tups,I.base.frzs,I.base.tbls⟩,⟨m,hn.sameBut Z<|Zq<|D x c G,λj y v' J O e3=>?_⟩,λy l e=>?_,I.free,I.freeC,λp hp=>?_,tracked ⟨oc,P,I.freeC x c G⟩ Z,by simpa using I.len⟩ ⟨c,Z,.inr G⟩
  .exact (Z.2 b<|Zc<|Zv (ZN e)<|I.ok.cab x c hfn G).trans (I.base.keep b o e n B L)
  .obtain ⟨sl,J⟩:=I.base.slot b o e n B L
   exact⟨sl,(Z.2 b<|Zc<|Zv (ZN e)<|I.ok.cab x c hfn G).trans J⟩
  .obtain ⟨o',J⟩:=I.base.there b o e L
   exact⟨o',(Z.2 b<|Zc<|Zv (ZN e)<|I.ok.cab x c hfn G).trans J⟩
  .by_cases hj:j=i
   .subst hj
    rw[t]at J;cases J;rw[vQ T]at O;cases O;exact⟨u,r,.inr ⟨.inl R,c,G,f⟩⟩
   .rw [vG (Zq hj)]at O
    obtain⟨u',r',q⟩:=hl j y v' J O e3;exists u',r';rcases q with q|⟨k,l,e,z'⟩
    .exact .inl q
    .refine .inr ⟨k,l,e,z'.sameBut Z ?_⟩
     rintro rfl;exact hj<|RN hN J<|I.ok.inj _ _ _ e G ▸ t
  .by_cases hcc:l=c
   .subst hcc;exact⟨_,f⟩
   .obtain ⟨w2,z2⟩:=I.cell y l e
    exact⟨w2,z2.sameBut Z hcc⟩
  .obtain ⟨e,n,ne,nf,d⟩:=I.pin p hp
   refine⟨(Z.2 p.1 ?_).trans e,n,ne,nf,d⟩;intro q;rw[q,P]at e;have q':oc=p.2:=ZP e;exact d w (by rw[<-q'];exact C)
def WM(I:Inv X Z U H s)(O:X.N.Nodup)(L:X.N[i]?=some x)(G:Loc X.env.scope x)(r:RelV v u)(h:∀J,Inv X Z (U.set i<|some v) H J->Q () J)(N:X.fn x=true\/X.env.scope.names.lookup x=some .local:=by first|exact .inl Y|exact .inr Y|assumption):wpAny M A (storeName X.env x u) Q E s:=
 Ru I O L G r (λJ R _=>h J R) N
def Inv.call'(I:Inv X Z U H s)(N:s'.os=s.os)(u:Un (frs X.stack) ch H L s.heap s'.heap)(J:HOk X.prog X.w L s'.heap)(O:AllBare s'.gens)(G:∀b∈ch,(b∈X.ex\/X.s₀.heap.objs.size<=b)/\b≠X.env.locals/\(∀x c,X.env.cells.lookup x=some c->c≠b)/\∀p∈X.pn++ Z,p.1≠b):Inv X Z U L s':=by
 obtain⟨R,g',d',t',M⟩:=s';have e:M=s.os:=N;subst e;exact I.call (g':=g') (t':=t') (d':=d') u J O G
end
abbrev XK:=Value->Option Addr->Hp->Prop
abbrev St:=List (kJ)
abbrev kI:=St->Hp->Prop
abbrev kH:=Nat->St->Hp->Prop
abbrev VK:=V->Hp->Prop
abbrev TE:=St->Hp->VK->Prop
abbrev TT:=St->Hp->(Bool->Hp->Prop)->Prop
abbrev TA:=St->Hp->(List V->Hp->Prop)->Prop
structure Ends where
 nx:St->Hp->Prop
 rt:VK
 bk:St->Hp->Prop:=λ_ _=>False
 ct:St->Hp->Prop:=λ_ _=>False
abbrev TS:=Ends->St->Hp->Prop
def EP(X:Cx)(pins:kb)(U:St)(Q:VK)(u:Value)(s':Shared):Prop:=∃v Z,Inv X pins U Z s'/\RelV v u/\Q v Z
def TP(X:Cx)(pins:kb)(U:St)(Q:Bool->Hp->Prop)(b:Bool)(s':Shared):Prop:=∃Z,Inv X pins U Z s'/\Q b Z
def AP(X:Cx)(pins:kb)(U:St)(Q:List V->Hp->Prop)(us:kj)(s':Shared):Prop:=∃Z J,Inv X pins U J s'/\Vals Z us/\Q Z J
def SP(X:Cx)(pins:kb)(D:Ends)(f:Flow)(s':Shared):Prop:=
 match f with
 |.next=>∃U' H',Inv X pins U' H' s'/\D.nx U' H'
 |.brk=>∃U' H',Inv X pins U' H' s'/\D.bk U' H'
 |.cont=>∃U' H',Inv X pins U' H' s'/\D.ct U' H'
 |.ret u=>∃v U' H',Inv X pins U' H' s'/\RelV v u/\D.rt v H'
def PE(X:Cx)(e:Expr)(t:TE):Prop:=
 ∀(Z:kb)(s:Shared)(U:St)(H:Hp)(Q:VK),Inv X Z U H s->t U H Q->wpAny (model X.prog X.w) X.A (eval e X.env) (EP X Z U Q) X.xe s
def PT(X:Cx)(e:Expr)(t:TT):Prop:=
 ∀(Z:kb)(s:Shared)(U:St)(H:Hp)(Q:Bool->Hp->Prop),Inv X Z U H s->t U H Q->wpAny (model X.prog X.w) X.A (isTrue e X.env<|eval e X.env) (TP X Z U Q) X.xe s
def PW(X:Cx)(e:Expr)(t:TT):Prop:=
 ∀(whole:Sem Value)(Z:kb)(s:Shared)(U:St)(H:Hp)(Q:Bool->Hp->Prop),Inv X Z U H s->t U H Q->wpAny (model X.prog X.w) X.A (isTrue e X.env whole) (TP X Z U Q) X.xe s
def PW.pt(h:PW X e t):PT X e t:=h _
def PA(X:Cx)(es:kP)(t:TA):Prop:=
 ∀(pos:Pos)(Z:kb)(s:Shared)(U:St)(H:Hp)(Q:List V->Hp->Prop),Inv X Z U H s->t U H Q->wpAny (model X.prog X.w) X.A (spliced<|backTo pos<|starEach es X.env) (AP X Z U Q) X.xe s
def PS(X:Cx)(st:Stmt)(t:TS):Prop:=
 ∀(Z:kb)(s:Shared)(U:St)(H:Hp)(D:Ends),Inv X Z U H s->t D U H->wpAny (model X.prog X.w) X.A (exec st X.env) (SP X Z D) X.xe s
def PSs(X:Cx)(st:List Stmt)(t:TS):Prop:=
 ∀(Z:kb)(s:Shared)(U:St)(H:Hp)(D:Ends),Inv X Z U H s->t D U H->wpAny (model X.prog X.w) X.A (execs st X.env) (SP X Z D) X.xe s
def thn(h:wpAny M A t Q E s)(Z:∀a s,Q a s->Q' a s):wpAny M A t Q' E s:=Zl h Z λ_ _ x=>x
end L2
namespace L2
open PySem PySem.Spec PyProof.Rows
section
variable{X:Cx}
def Nd(o:Option (kJ))(P:V->Prop):Prop:=match o with
 |some (some v)=>P v
 |_=>False
def Nd.old(h:Nd o P):∃v,o=some (some v)/\P v:=by
 match o,h with
 |some (some v),h=>exact⟨v,Y,h⟩
def XQ(x:V)(P:Int->Prop):Prop:=match x with
 |.int c=>P c
 |_=>False
def XQ.old(h:XQ x P):∃c,x=.int c/\P c:=by
 cases x <;> first|exact⟨_,Y,h⟩|exact h.elim
def Jb(x:V)(P:Addr->Prop):Prop:=match x with
 |.ref c=>P c
 |_=>False
def Jb.old(h:Jb x P):∃c,x=.ref c/\P c:=by
 cases x <;> first|exact⟨_,Y,h⟩|exact h.elim
def Wo(i:Nat):TE:=λU H Q=>Nd U[i]? λv=>Q v H
def tC(v:V):TE:=λ_ H Q=>Q v H
def S1(E:X.N[i]?=some x)(R:Vis X.env.scope x)(M:(x==("__debug__":Str))=false:=by decide)(N:(x==("__classdict__":Str))=false:=by decide):PE X (.Name x pos) (Wo i):=by
 intro L s U H Q I h;replace h:=Nd.old h;obtain⟨v,e,h⟩:=h;obtain⟨m,T,D⟩:=I.loc;obtain⟨u,r,l⟩:=D i x v E e R;have G:EP X L U Q u s:=⟨v,H,I,r,h⟩;rcases l with⟨J,B⟩|⟨J,c,O,Z⟩
 .exact wpAny_Name (wpAny_loadName_local I.ok.kind J T B G) M
 .rcases J with J|J
  .exact wpAny_Name (wpAny_loadName_cell I.ok.kind J O Z G) M
  .exact wpAny_Name (wpAny_loadName_free I.ok.kind J O Z G N) M
def YX:PE X (.Constant (.int i) j pos) (tC<|.int i):=λ_ _ _ H _ I h=>wpAny_Constant_int ⟨.int i,H,I.tok _,⟨_,rfl⟩,h⟩
def Jp:PE X (.Constant (.bool b) j pos) (tC<|.bl b):=λ_ _ _ H _ I h=>Constant_bool ⟨.bl b,H,I,rfl,h⟩
def Vu:PE X (.Constant .none j pos) (tC .non):=λ_ _ _ H _ I h=>Constant_none ⟨.non,H,I,rfl,h⟩
def VA:PE X (.Constant (.str x) j pos) (tC<|.str x):=λ_ _ _ H _ I h=>Calls.Constant_str ⟨.str x,H,I.tok _,⟨_,rfl⟩,h⟩
def Gl(X:Cx)(x:Str):Prop:=X.env.kindOf x=some .globalImplicit
def Uk(I:Inv X Z U H s)(G:Gl X x)(J:X.mg x=some u)(h:Q u s)(L:(x==("__debug__":Str))=false:=by decide):wpAny (model X.prog X.w) X.A (eval (.Name x pos) X.env) Q E s:=
 Calls.Name_function_global I.ok.kind G (Calls.loadGlobal_global (by rw[I.ok.glob];exact I.mod.glob.keeps I.bk) J h) L
def W5(I:Inv X Z U H s)(M:Gl X x)(L:X.mg x=none)(J:bootBuiltins x=some u)(h:Q u s)(G:x≠"__name__":=by decide)(N:(x==("__debug__":Str))=false:=by decide):wpAny (model X.prog X.w) X.A (eval (.Name x pos) X.env) Q E s:=by
 obtain⟨T,R,O⟩:=I.mod.blt;exact Calls.Name_function_global I.ok.kind M (Calls.loadGlobal_builtin (by rw[I.ok.glob];exact I.mod.glob.keeps I.bk) L (by rw[I.ok.blt];exact R.keeps I.bk) ((O x G).trans J) h) N
def JE(J:Gl X x)(Z:X.mg x=some u)(r:RelV v u)(G:(x==("__debug__":Str))=false:=by decide):PE X (.Name x pos) (tC v):=
 λ_ _ _ H _ I h=>Uk I J Z ⟨v,H,I,r,h⟩ G
def Es(L:Gl X x)(G:X.mg x=none)(Z:bootBuiltins x=some u)(r:RelV v u)(J:x≠"__name__":=by decide)(M:(x==("__debug__":Str))=false:=by decide):PE X (.Name x pos) (tC v):=
 λ_ _ _ H _ I h=>W5 I L G Z ⟨v,H,I,r,h⟩ J M
variable{a b:Expr}{ta tb:TE}{pos:Pos}
def PC(X:Cx)(op:CmpOp)(a b:Expr)(t:TE):Prop:=
 ∀(Z:kb)(s:Shared)(U:St)(H:Hp)(Q:VK),Inv X Z U H s->t U H Q->
  wpAny (model X.prog X.w) X.A (eval a X.env) (λv G=>wpAny (model X.prog X.w) X.A (eval b X.env) (λu J=>wpAny (model X.prog X.w) X.A (compareOp op v u) (EP X Z U Q) X.xe J) X.xe G) X.xe s
def tB(t:TE):TT:=λU H Q=>t U H λx Z=>∃c,x=.bl c/\Q c Z
def Jy(h:PC X op a b t)(J:behindInMarks op b=false:=by first|exact nobehind _ (by decide) (by decide)|rfl):PT X (.Compare a [op] [b] pos) (tB t):=by
 intro Z s U H Q I M;refine wpAny_isTrue_Compare1 (thn (h Z s U H _ I M) λv D J=>thn J λu B N=>thn N λc T ⟨x,R,O,G,L⟩=>?_) J;obtain⟨d,rfl,q⟩:=L;cases G;exact yw ⟨R,O,q⟩
def V7(h:PE X e t)(M:∀whole,isTrue e X.env whole=(do let v <-whole;standAt e.pos;holding [v] (truthy v)):=by intro _;rfl):PT X e (tB t):=by
 intro Z s U H Q I L;refine isTrue_plain (thn (h Z s U H _ I L) λv R ⟨x,O,N,J,G⟩=>?_)<|M _;obtain⟨d,rfl,q⟩:=G;cases J;exact yw ⟨O,N,q⟩
variable{rest:kP}
def zq(t u:TT):TT:=λU H Q=>t U H λc Z=>if c=true then u U Z Q else Q false Z
def tOr(t u:TT):TT:=λU H Q=>t U H λc Z=>if c=true then Q true Z else u U Z Q
def zj(t:TT):TT:=λU H Q=>t U H λc Z=>Q (!c) Z
def UH(J:PT X a tA):PW X (.BoolOp .And [a] pos) tA:=by
 intro G Z s U H Q I h;refine isTrue_and<|thn (J Z s U H Q I h) λc L e=>?_
 cases c with
 |true=>exact isTrue_and_nil e
 |false=>exact e
def Jc(J:PT X a tA):PW X (.BoolOp .Or [a] pos) tA:=by
 intro G Z s U H Q I h;refine isTrue_or<|thn (J Z s U H Q I h) λc L e=>?_
 cases c with
 |false=>exact isTrue_or_nil e
 |true=>exact e
def XG(R:PT X a tA)(O:PW X (.BoolOp .And (b::rest) pos) tB'):PW X (.BoolOp .And (a::b::rest) pos) (zq tA tB'):=by
 intro M Z s U H Q I h;refine isTrue_and<|thn (R Z s U H _ I h) λc N ⟨L,G,J⟩=>?_
 cases c with
 |true=>exact O M Z N U L Q G J
 |false=>exact⟨L,G,J⟩
def Jm(R:PT X a tA)(O:PW X (.BoolOp .Or (b::rest) pos) tB'):PW X (.BoolOp .Or (a::b::rest) pos) (tOr tA tB'):=by
 intro M Z s U H Q I h;refine isTrue_or<|thn (R Z s U H _ I h) λc N ⟨L,G,J⟩=>?_
 cases c with
 |true=>exact⟨L,G,J⟩
 |false=>exact O M Z N U L Q G J
def V8(J:PT X a tA):PT X (.UnaryOp .Not a pos) (zj tA):=by
 intro Z s U H Q I h;exact isTrue_not<|J Z s U H (λc G=>Q (!c) G) I h
def CL(ta tb:TE):TE:=λU H Q=>ta U H λx Z=>∃c,x=.bl c/\if c=true then tb U Z Q else Q (.bl false) Z
def zh(ta tb:TE):TE:=λU H Q=>ta U H λx Z=>∃c,x=.bl c/\if c=true then Q (.bl true) Z else tb U Z Q
def CG(ta:TE):TE:=λU H Q=>ta U H λx Z=>∃c,x=.bl c/\Q (.bl<|!c) Z
def WA(h:PE X a t):PE X (.BoolOp op [a] pos) t:=λZ s U H Q I J=>BoolOp_one<|h Z s U H Q I J
def WB(R:PE X a ta)(O:PE X (.BoolOp .And (b::rest) pos) tb):PE X (.BoolOp .And (a::b::rest) pos) (CL ta tb):=by
 intro Z s U H Q I h;refine BoolOp_and<|thn (R Z s U H _ I h) λv M ⟨x,L,G,N,J⟩=>?_;obtain⟨c,rfl,J⟩:=J;cases N;refine yw ?_
 cases c with
 |true=>exact O Z M U L Q G J
 |false=>exact⟨.bl false,L,G,Y,J⟩
def CY(R:PE X a ta)(O:PE X (.BoolOp .Or (b::rest) pos) tb):PE X (.BoolOp .Or (a::b::rest) pos) (zh ta tb):=by
 intro Z s U H Q I h;refine BoolOp_or<|thn (R Z s U H _ I h) λv M ⟨x,L,G,N,J⟩=>?_;obtain⟨c,rfl,J⟩:=J;cases N;refine yw ?_
 cases c with
 |false=>exact O Z M U L Q G J
 |true=>exact⟨.bl true,L,G,Y,J⟩
def LN(L:PE X a ta):PE X (.UnaryOp .Not a pos) (CG ta):=by
 intro Z s U H Q I h;refine UnaryOp_<|thn (L Z s U H _ I h) λv O ⟨x,N,M,G,J⟩=>?_;obtain⟨c,rfl,J⟩:=J;cases G;exact not_of<|yw ⟨.bl<|!c,N,M,rfl,J⟩
def tIf(t:TT)(ta tb:TE):TE:=λU H Q=>t U H λc Z=>if c=true then ta U Z Q else tb U Z Q
def LQ(N:PT X c tA)(R:PE X a ta)(O:PE X b tb):PE X (.IfExp c a b pos) (tIf tA ta tb):=by
 intro Z s U H Q I h;refine wpAny_IfExp<|thn (N Z s U H _ I h) λd J ⟨M,L,G⟩=>?_
 cases d with
 |true=>exact R Z J U M Q L G
 |false=>exact O Z J U M Q L G
end
end L2
namespace L2
open PySem PySem.Spec PyProof.Rows
def SqL(K:W.Frag)(H:Hp)(a:Addr)(xs:kF):Prop:=
 Rd H a (.lst xs) \/
  ∃(o:Obj)(Z:kC)(n:Nat),K.lookup a=some o/\o.cls=.type "list" /\o.dict=none/\o.data=.seq Z n/\Z.size<=sizeLine/\Vals xs Z.toList
def SqT(K:W.Frag)(H:Hp)(a:Addr)(xs:kF):Prop:=
 Rd H a (.tup xs) \/
  ∃(o:Obj)(Z:kC)(n:Nat),K.lookup a=some o/\o.cls=.type "tuple" /\o.data=.seq Z n/\Z.size<=sizeLine/\Vals xs Z.toList
def yd:Value->Option V
 |.none=>some .non
 |.bool b=>some<|.bl b
 |.int i _=>some<|.int i
 |.str x _=>some<|.str x
 |.bytes b _=>some<|.byt b
 |.float b _=>some<|.flt b
 |.ref a=>some<|.ref a
 |.type n=>some<|.ty n
 |_=>none
def RelV.abs(r:RelV x u):yd u=some x:=by
 cases x with
 |non=>cases r;rfl
 |bl _=>cases r;rfl
 |int _=>obtain⟨t,rfl⟩:=r;rfl
 |str _=>obtain⟨t,rfl⟩:=r;rfl
 |byt _=>obtain⟨t,rfl⟩:=r;rfl
 |flt _=>obtain⟨t,rfl⟩:=r;rfl
 |ref _=>cases r;rfl
 |ty _=>cases r;rfl
def RelV.inj(r:RelV x u)(q:RelV y u):x=y:=ZP<|r.abs.symm.trans q.abs
theorem Vals.inj:∀{Z ys:kF}{J:kj},Vals Z J->Vals ys J->Z=ys
 |_,_,_,.nil,.nil=>rfl
 |_,_,_,.cons r t,.cons r' t'=>by rw[r.inj r',Vals.inj t t']
section
def SqL.of{K:W.Frag}(h:H a=some (.lst Z)):SqL K H a Z:=.inl<|.inl h
abbrev Z1:=@SqL.of
def SqT.of{K:W.Frag}(h:H a=some (.tup Z)):SqT K H a Z:=.inl<|.inl h
abbrev Z0:=@SqT.of
def Inv.list(I:Inv X G U H s)(h:SqL X.K H a J):∃Z:kj,Vals J Z/\PlainL s.heap a Z.toArray/\J.length<=sizeLine:=by
 rcases h with h|⟨o,Z,n,M,O,N,L,R,r⟩
 .obtain ⟨z,Z,n,r,e⟩:=h.ok I.hok
  exact⟨Z,r,⟨_,n,e,Y,Y,Y⟩,z⟩
 .refine ⟨Z.toList,r,⟨o,n,I.kIn a o M,O,N,by simpa using L⟩,?_⟩
  have e:=r.length;simp only[jB]at e;omega
def Inv.tuple(I:Inv X G U H s)(h:SqT X.K H a J):∃Z:kj,Vals J Z/\IsTup s.heap a Z.toArray/\J.length<=sizeLine:=by
 rcases h with h|⟨o,Z,n,M,N,L,O,r⟩
 .obtain ⟨z,Z,r,p⟩:=h.ok I.hok
  exact⟨Z,r,p.is,z⟩
 .refine ⟨Z.toList,r,⟨o,I.kIn a o M,N,n,by simpa using L⟩,?_⟩
  have e:=r.length;simp only[jB]at e;omega
def Inv.list_inj(I:Inv X G U H s)(h:SqL X.K H a N)(R:SqL X.K H a ys):N=ys:=by
 obtain⟨J,r,⟨o,n,e,_,_,d⟩,_⟩:=I.list h;obtain⟨Z,O,⟨B,D,L,_,_,M⟩,_⟩:=I.list R;rw[e]at L;cases L;rw[d]at M;injection M with T _;have:J=Z:=by simpa using congrArg Array.toList T
 subst this;exact r.inj O
def Inv.tuple_inj(I:Inv X G U H s)(h:SqT X.K H a N)(R:SqT X.K H a ys):N=ys:=by
 obtain⟨J,r,⟨o,e,_,n,d⟩,_⟩:=I.tuple h;obtain⟨Z,O,⟨B,L,_,D,M⟩,_⟩:=I.tuple R;rw[e]at L;cases L;rw[d]at M;injection M with T _;have:J=Z:=by simpa using congrArg Array.toList T
 subst this;exact r.inj O
end
abbrev Cx.wish(X:Cx)(E:kh):Cx:={X with xe:=E}
abbrev Cx.nox(X:Cx):Cx:=X.wish λ_ _=>False
def Cx.Ok.wish{X:Cx}(Z:X.Ok)(E:kh):(X.wish E).Ok:=
 ⟨Z.mod,Z.kind,Z.glob,Z.blt,Z.above,Z.inj,Z.has,Z.cab,Z.hd,Z.frames,Z.stk,Z.exf,Z.bs,Z.bsz,Z.noex,Z.exfs,Z.funs,Z.frf⟩
def Cx.Ok.unwish{X:Cx}(Z:(X.wish E).Ok):X.Ok:=
 ⟨Z.mod,Z.kind,Z.glob,Z.blt,Z.above,Z.inj,Z.has,Z.cab,Z.hd,Z.frames,Z.stk,Z.exf,Z.bs,Z.bsz,Z.noex,Z.exfs,Z.funs,Z.frf⟩
section
def Inv.wish(I:Inv X Z U H s)(E:kh):Inv (X.wish E) Z U H s:=⟨I.ok.wish E,I.os,I.bare,I.base,I.loc,I.cell,I.free,I.freeC,I.pin,I.hok,I.len⟩
def Inv.unwish(I:Inv (X.wish E) Z U H s):Inv X Z U H s:=⟨I.ok.unwish,I.os,I.bare,I.base,I.loc,I.cell,I.free,I.freeC,I.pin,I.hok,I.len⟩
def SP.unwish(h:SP (X.wish E) G D f L):SP X G D f L:=by
 cases f with
 |next=>obtain⟨Z,J,I,q⟩:=h;exact⟨Z,J,I.unwish,q⟩
 |brk=>obtain⟨Z,J,I,q⟩:=h;exact⟨Z,J,I.unwish,q⟩
 |cont=>obtain⟨Z,J,I,q⟩:=h;exact⟨Z,J,I.unwish,q⟩
 |ret u=>obtain⟨v,Z,J,I,r,q⟩:=h;exact⟨v,Z,J,I.unwish,r,q⟩
def PSs.nox{J:List Stmt}(h:PSs X.nox J t):PSs X J t:=λZ s U H D I G=>
 Zl (h Z s U H D (I.wish _) G) (λ_ _ q=>q.unwish) λ_ _ z=>False.elim z
end
section
variable{st:Stmt}{rest:List Stmt}{t u:TS}{te:TE}
def KO:TS:=λD U H=>D.nx U H
def Yg(t u:TS):TS:=λD U H=>t {D with nx:=u D} U H
def Ys:PSs X [] KO:=λ_ _ U H _ I h=>qe ⟨U,H,I,h⟩
def YW(L:PS X st t)(G:PSs X rest u):PSs X (st::rest) (Yg t u):=by
 intro Z s U H D I h;refine wpAny_execs_cons<|thn (L Z s U H {D with nx:=u D} I h) λf J q=>?_
 cases f with
 |next=>
  obtain⟨M,O,N,q⟩:=q;exact G Z J M O D N q
 |ret v=>exact q
 |brk=>exact q
 |cont=>exact q
def YZ(J:PS X st t):PSs X [st] t:=by
 intro Z s U H D I h;refine wpAny_execs_cons<|thn (J Z s U H D I h) λf G q=>?_
 cases f with
 |next=>exact qe q
 |ret v=>exact q
 |brk=>exact q
 |cont=>exact q
def Inv.quiet(I:Inv X Z U H s):interactive X.env=false:=by simp[interactive,I.ok.kind]
def KU(te:TE):TS:=λD U H=>te U H λ_ Z=>D.nx U Z
def Ve(L:PE X e te)(G:swapsWith e none pos.line X.env=pure false:=by rfl):PS X (.Expr e pos) (KU te):=by
 intro Z s U H D I h;exact wpAny_Expr_any (thn (L Z s U H _ I h) λv O ⟨x,N,M,R,J⟩=>⟨U,N,M,J⟩) I.quiet G
def zg(te:TE):TS:=λD U H=>te U H D.rt
def Yo(L:PE X e te):PS X (.Return (some e) pos) (zg te):=by
 intro Z s U H D I h;exact wpAny_Return_some<|thn (L Z s U H _ I h) λv O ⟨x,N,M,J,G⟩=>⟨x,U,N,M,J,G⟩
def VJ(c:TT)(t u:TS):TS:=λD U H=>c U H λb Z=>if b=true then t D U Z else u D U Z
def Y4(N:PT X c tc)(R:PSs X a t)(O:PSs X b u):PS X (.If c a b pos) (VJ tc t u):=by
 intro Z s U H D I h;refine wpAny_If<|thn (N Z s U H _ I h) λd J ⟨M,L,G⟩=>?_
 cases d with
 |true=>exact R Z J U M D L G
 |false=>exact O Z J U M D L G
end
abbrev TG:=V->St->Hp->(kI)->Prop
abbrev TGs:=List V->St->Hp->(kI)->Prop
def PG(X:Cx)(target:Expr)(t:TG):Prop:=
 ∀(Z:kb)(s:Shared)(U:St)(H:Hp)(v:V)(u:Value)(Q:kI),Inv X Z U H s->RelV v u->t v U H Q->
  wpAny (model X.prog X.w) X.A (assign target X.env u) (λ_ L=>∃J G,Inv X Z J G L/\Q J G) X.xe s
def PGs(X:Cx)(ts:kP)(t:TGs):Prop:=
 ∀(Z:kb)(s:Shared)(U:St)(H:Hp)(J:kF)(G:kj)(Q:kI),Inv X Z U H s->Vals J G->t J U H Q->
  wpAny (model X.prog X.w) X.A (assignInOrder ((assignEach ts X.env).map (·.2)) G) (λ_ N=>∃L M,Inv X Z L M N/\Q L M) X.xe s
abbrev zK:=V->V->V->Hp->(Hp->Prop)->Prop
def zW(X:Cx)(t:zK):Prop:=
 ∀(Z:kb)(s:Shared)(U:St)(H:Hp)(o i v:V)(J G u:Value)(Q:Hp->Prop),Inv X Z U H s->RelV o J->RelV i G->RelV v u->t o i v H Q->
  wpAny (model X.prog X.w) X.A (setItem J G u) (λ_ M=>∃L,Inv X Z U L M/\Q L) X.xe s
abbrev TIp:=V->V->Hp->VK->Prop
def PIp(X:Cx)(op:Operator)(t:TIp):Prop:=
 ∀(Z:kb)(s:Shared)(U:St)(H:Hp)(x y:V)(v u:Value)(Q:VK),Inv X Z U H s->RelV x v->RelV y u->t x y H Q->
  wpAny (model X.prog X.w) X.A (inplaceOp op v u) (EP X Z U Q) X.xe s
section
variable{X:Cx}
def Vp(i:Nat):TG:=λv U H Q=>Q (U.set i<|some v) H
def Yb(i:Nat)(L:X.N.Nodup)(J:X.N[i]?=some x:=by exact Y)(hx:Loc X.env.scope x:=by exact Or.inl Y)(G:X.fn x=true\/X.env.scope.names.lookup x=some .local:=by first|exact .inl Y|exact .inr Y|assumption):PG X (.Name x pos) (Vp i):=by
 intro Z s U H v u Q I r h;exact wpAny_assign_Name<|WM I L J hx r (λN M=>⟨_,H,M,h⟩) G
def BP:TGs:=λvs U H Q=>match vs with
 |[]=>Q U H
 |_=>False
def BP.old(h:BP Z U H Q):Z=[]/\Q U H:=by
 match Z,h with
 |[],h=>exact⟨Y,h⟩
def XZ(t:TG)(u:TGs):TGs:=λvs U H Q=>match vs with
 |v::r=>t v U H λU' H'=>u r U' H' Q
 |_=>False
def XZ.old(h:XZ t u Z U H Q):∃v r,Z=v::r/\t v U H λJ G=>u r J G Q:=by
 match Z,h with
 |v::r,h=>exact⟨v,r,Y,h⟩
def VC:PGs X [] BP:=by
 intro Z s U H J G Q I r h;replace h:=BP.old h;obtain⟨e,h⟩:=h;subst e;cases r;exact assignInOrder_nil ⟨U,H,I,h⟩
def Yi(R:PG X e t)(O:PGs X J u)(N:(assignEach (e::J) X.env).map (·.2)=assign e X.env::(assignEach J X.env).map (·.2):=by rfl):PGs X (e::J) (XZ t u):=by
 intro Z s U H E A Q I r h;replace h:=XZ.old h;obtain⟨v,F,T,h⟩:=h;subst T
 cases r with
 |cons r L=>
  rw[N];refine assignInOrder_cons<|thn (R Z s U H _ _ _ I r h) λ_ G ⟨σ1,D,B,M⟩=>?_;exact O Z G σ1 D _ _ Q B L M
def QO(K:W.Frag)(n:Nat)(t:TGs):TG:=λv U H Q=>Jb v λa=>∃Z,SqT K H a Z/\Z.length=n/\t Z U H Q
def VO(F:X.calm=true)(h:PGs X L t)(D:(assignEach L X.env).length=n:=by rfl)(G:(assignEach L X.env).findIdx? (·.1)=none:=by rfl):PG X (.Tuple L k pos) (QO X.K n t):=by
 intro Z s U H v u Q I r J;replace J:=Jb.old J;obtain⟨a,S,N,B,E,J⟩:=J;subst S;cases r;obtain⟨O,M,T,P⟩:=I.tuple B;refine assign_Tuple_tuple (I.ok.hd F) T (by simp[D,<-E,M.length]) G λA R=>?_;have C:Inv X Z U H {s with heap:=A}:=I.kept (t':=s.toks) λb o e=>R b o (Zc<|ZN e) e;exact h Z _ U H N _ Q C (by simpa using M) J
def yV(to ti:TE)(t:zK):TG:=λv U H Q=>to U H λo G=>ti U G λi J=>t o i v J λZ=>Q U Z
def XI(E:PE X o to)(F:PE X i ti)(D:zW X t)(A:∀v,assign (.Subscript o i pos) X.env v=(do
   let J <-holding [v] (eval o X.env)
   let G <-holding [v,J] (eval i X.env)
   standAt pos
   holding [v,J,G] (setItem J G v)
   release [v,J,G] []):=by intro _;rfl):PG X (.Subscript o i pos) (yV to ti t):=by
 intro Z s U H v u Q I r h;rw[A];refine Zj<|wpAny_holding<|thn (E Z s U H _ I h) λJ M ⟨x,q,P,O,B⟩=>?_;refine Zj<|wpAny_holding<|thn (F Z M U q _ P B) λG L ⟨y,z,C,N,T⟩=>?_;refine Zj<|vC<|Zj<|wpAny_holding<|thn (D Z L U z x y v J G u _ C O N r T) λ_ m ⟨j,S,R⟩=>?_;exact wpAny_release ⟨U,j,S,R⟩
def Bn(te:TE)(g:TG):TS:=λD U H=>te U H λx Z=>g x U Z D.nx
def V5(R:PE X e te)(O:PG X tg g)(N:swapsWithSole [tg] e pos.line X.env=pure false:=by rfl)(M:swappedStores [tg] e X.env=pure none:=by rfl)(T:(assignEach [tg] X.env).map (·.2)=[assign tg X.env]:=by rfl):PS X (.Assign [tg] e pos) (Bn te g):=by
 intro Z s U H D I h;refine wpAny_Assign_stores (thn (R Z s U H _ I h) λv J ⟨x,E,B,G,L⟩=>?_) N M;rw[T];exact thn (O Z J U E x v _ B G L) λ_ F q=>q
def Yk(i:Nat)(R:X.N.Nodup)(O:PE X e te)(M:X.N[i]?=some x:=by exact Y)(hx:Loc X.env.scope x:=by exact Or.inl Y)(L:swapsWith e (some<|.Name x pos') pos.line X.env=pure false:=by rfl)(N:X.fn x=true\/X.env.scope.names.lookup x=some .local:=by first|exact .inl Y|exact .inr Y|assumption):
  PS X (.Assign [.Name x pos'] e pos) (Bn te<|Vp i):=by
 intro Z s U H D I h;refine wpAny_Assign_Name (thn (O Z s U H _ I h) λv A ⟨y,E,B,J,G⟩=>?_) L;exact WM B R M hx J (λF T=>⟨_,E,T,G⟩) N
def zp(i:Nat)(te:TE)(ti:TIp):TS:=λD U H=>∃x,U[i]?=some (some x)/\te U H λy J=>ti x y J λz Z=>D.nx (U.set i<|some z) Z
def Dk(p:X.N.Nodup)(R:X.N[i]?=some x)(O:Loc X.env.scope x)(t:PE X e te)(C:PIp X op ti)(q:X.fn x=true\/X.env.scope.names.lookup x=some .local:=by first|exact .inl Y|exact .inr Y|assumption):
  PS X (.AugAssign (.Name x pos') op e pos) (zp i te ti):=by
 intro Z s U H D I h;obtain⟨v,d,h⟩:=h;obtain⟨m,P,j⟩:=I.loc;have N:Vis X.env.scope x:=by rcases O with k|k;exact .inl k;exact .inr<|.inl k
 obtain⟨u,r,l⟩:=j i x v R d N;refine wpAny_AugAssign_Name ?_
 have T:wpAny (model X.prog X.w) X.A (eval e X.env) (λw M=>wpAny (model X.prog X.w) X.A (inplaceOp op u w) (λr L=>wpAny (model X.prog X.w) X.A (storeName X.env x r) (λ_=>SP X Z D .next) X.xe L) X.xe M) X.xe s:=by
  refine thn (t Z s U H _ I h) λw B ⟨y,a,o,F,S⟩=>?_;refine thn (C Z B U a v y u w _ o r F S) λz s2 ⟨zv,n,b,E,A⟩=>?_;exact WM b p R O E (λs3 f=>⟨_,n,f,A⟩) q
 rcases l with⟨J,Q⟩|⟨J,c,g,G⟩
 .exact wpAny_loadName_local I.ok.kind J P Q T
 .rcases J with J|J
  .exact wpAny_loadName_cell I.ok.kind J g G T
  .rcases O with k|k
   .have:X.env.scope.names.lookup x=some .free:=J
    rw[k]at this;cases this
   .have:X.env.scope.names.lookup x=some .free:=J
    rw[k]at this;cases this
end
structure It where
 go:Nat->Hp->Prop
 yld:Nat->Hp->V->Hp->Prop
 stop:Nat->Hp->Prop
def UL(X:Cx)(pins:kb)(H:Hp)(b:Addr):Prop:=
 H b=none/\b≠X.env.locals/\b∉X.fs/\(b∈X.ex\/X.s₀.heap.objs.size<=b)/\(∀x c,X.env.cells.lookup x=some c->c≠b)/\∀p∈X.pn++ pins,p.1≠b
def Inv.fpOk(I:Inv X Z U H s)(J:s.heap.objs.size<=b)(L:M b=none):UL X Z M b:=by
 refine⟨L,vH<|Zv I.lt J,I.nofs J,.inr<|ZZ I.sz J,λx c e z=>?_,λp G z=>?_⟩
 .obtain ⟨v,q⟩:=I.cell x c e
  exact Zp (Zv q.lt (by rw[z];exact J))<|yx _
 .exact Zp (Zv (ZN (I.pin p G).1) (by rw[z];exact J)) (yx _)
structure Turn(P:Program)(w:World)(K:W.Frag)(tg:Expr)(J:It)(fp:List Addr)(it:Addr)(tn:Nat->Heap->Prop):Prop where
 mem:it∈fp
 obj:∀i h,tn i h->∀b∈fp,∃o,h.get? b=some o/\∀v,o.data≠.cell v
 keep:∀i h h',tn i h->(∀b∈fp,∀o,h.get? b=some o->h'.get? b=some o)->tn i h'
 item:∀(X:Cx),X.prog=P->X.w=w->X.K=K->X.calm=true->∀(i:Nat)(pins:List (Addr×Obj))(s:Shared)(U:St)(H:Hp)(E:Value->Shared->Prop),Inv X pins U H s->(∀b∈fp,UL X pins H b)->tn i s.heap->J.go i H->
  wpAny (model P w) X.A (pyNext (.ref it)) (λr s1=>∃u,r=some u/\
   wpAny (model P w) X.A (letOwnedTupleGo tg (.ref it) u) (λ_ s2=>∃x H',Inv X pins U H' s2/\RelV x u/\J.yld i H x H'/\tn (i+1) s2.heap/\∀b∈fp,H' b=none) E s1) E s
 done:∀(X:Cx),X.prog=P->X.w=w->X.K=K->X.calm=true->∀(i:Nat)(pins:List (Addr×Obj))(s:Shared)(U:St)(H:Hp)(E:Value->Shared->Prop),Inv X pins U H s->(∀b∈fp,UL X pins H b)->tn i s.heap->J.stop i H->
  wpAny (model P w) X.A (pyNext (.ref it)) (λr s1=>r=none/\Inv X pins U H s1) E s
 self:∀(A:Around)(i:Nat)(s:Shared)(Q:Value->Shared->Prop)(E:Value->Shared->Prop),tn i s.heap->Q (.ref it) s->wpAny (model P w) A (pyIter (.ref it)) Q E s
abbrev TI:=St->Hp->(It->Hp->Prop)->Prop
def PIE(X:Cx)(pins:kb)(U:St)(tg:Expr)(R:It->Hp->Prop)(itv:Value)(s2:Shared):Prop:=
 ∃(L:Addr)(M:kA)(G:Nat->Heap->Prop)(J:It)(Z:Hp),itv=.ref L/\Inv X pins U Z s2/\Turn X.prog X.w X.K tg J M L G/\G 0 s2.heap/\(∀b∈M,UL X pins Z b)/\R J Z
def PI(X:Cx)(tg iter:Expr)(wi:TI):Prop:=
 ∀(Z:kb)(s:Shared)(U:St)(H:Hp)(R:It->Hp->Prop),Inv X Z U H s->wi U H R->
  wpAny (model X.prog X.w) X.A (eval iter X.env) (λv J=>wpAny (model X.prog X.w) X.A (pyIter v) (PIE X Z U tg R) X.xe J) X.xe s
def OE(G:s.heap.get? it=some o)(O:o.cls=.type n)(N:o.data=.fields J)(L:["enumerate","zip","dict_itemiterator","dict_reverseitemiterator","odict_iterator","itertools.zip_longest","itertools.pairwise"].contains n=false)(Z:Q () s):wpAny M A (letOwnedTupleGo tg (.ref it) u) Q E s:=by
  unfold letOwnedTupleGo;cases tg <;> first
    |exact Zk Z
    | (cases u <;> first
        |exact Zk Z
        | (refine Zj<|wpAny_load G ?_
           rw[O,N];show wpAny M A (if(["enumerate","zip","dict_itemiterator","dict_reverseitemiterator","odict_iterator","itertools.zip_longest","itertools.pairwise"].contains n && J[0]?==some (rawInt _))=true then _ else _) Q E s;rw[Zo (by intro h;rw[L,Bool.false_and]at h;cases h)];exact Zk Z))
def Itl(K:W.Frag)(a:Addr):It:=
 ⟨λi H=>∃Z x,SqL K H a Z/\Z[i]?=some x,λi H x J=>J=H/\∀Z,SqL K H a Z->Z[i]?=some x,λi H=>∃Z,SqL K H a Z/\Z.length<=i⟩
def Itt(K:W.Frag)(a:Addr):It:=
 ⟨λi H=>∃Z x,SqT K H a Z/\Z[i]?=some x,λi H x J=>J=H/\∀Z,SqT K H a Z->Z[i]?=some x,λi H=>∃Z,SqT K H a Z/\Z.length<=i⟩
def Itr(lo:Int)(n:Nat):It:=⟨λi _=>i<n,λi H x Z=>Z=H/\x=.int (lo+i),λi _=>n<=i⟩
def Fc{P:Program}{w:World}{K:W.Frag}{g:Expr}(a it:Addr):Turn P w K g (Itl K a) [it] it (λi h=>h.IsListIter it a i) where
 mem:=by simp
 obj:=λi h Z b G=>by
  have e:b=it:=by simpa using G
  subst e;obtain⟨o,e,c,d⟩:=Z;exact⟨o,e,λv z=>by rw[d]at z;cases z⟩
 keep:=λi h O Z k=>Z.at λo e=>k it (by simp) o e
 item:=by
  intro X A D S t i J s U H E I N Z F;subst A D S;obtain⟨m,x,M,B⟩:=F;obtain⟨T,R,p,l⟩:=I.list M;obtain⟨u,hu,r⟩:=R.get B;obtain⟨q,y,f2,j,Q,C⟩:=N it (by simp);refine wpAny_pyNext_list_item Z p.isList (x:=u) (by simpa using hu) λO L f=>?_;have I1:Inv X J U H {s with heap:=O}:=I.turned (t':=s.toks) (λb o G e=>(f.2 b G).trans e) q y j Q C;obtain⟨o,e,c,d⟩:=id L;exact⟨u,Y,OE (s:={s with heap:=O}) e c d (by decide) ⟨x,H,I1,r,⟨Y,λys n=>by rw[I.list_inj n M];exact B⟩,L,λb G=>(N b G).1⟩⟩
 done:=by
  intro X A D S t i J s U H E I N Z F;subst A D S;obtain⟨m,M,B⟩:=F;obtain⟨T,R,p,l⟩:=I.list M;obtain⟨q,y,f2,j,Q,C⟩:=N it (by simp);have hl:=R.length;exact wpAny_pyNext_list_end (I.ok.hd t) Z p.isList (by simp;omega) λO eb=>⟨Y,I.turned (t':=s.toks) (λb o G e=>eb b o G e) q y j Q C⟩
 self:=λ_ _ _ _ _ Z h=>wpAny_pyIter_listiter Z h
def Bj{P:Program}{w:World}{K:W.Frag}{g:Expr}(a it:Addr):Turn P w K g (Itt K a) [it] it (λi h=>h.IsTupleIter it a i) where
 mem:=by simp
 obj:=λi h Z b L=>by
  have e:b=it:=by simpa using L
  subst e;obtain⟨o,e,c,d⟩:=Z;exact⟨o,e,λv z=>by rw[d]at z;cases z⟩
 keep:=λi h R Z k=>Z.at λo e=>k it (by simp) o e
 item:=by
  intro X A D S t i J s U H E I O Z F;subst A D S;obtain⟨m,x,N,B⟩:=F;obtain⟨G,T,p,l⟩:=I.tuple N;obtain⟨u,hu,r⟩:=T.get B;obtain⟨q,y,f2,j,Q,C⟩:=O it (by simp);refine wpAny_pyNext_tuple_item Z (show s.heap.IsTuple a G.toArray from p) (x:=u) (by simpa using hu) λR M f=>?_;have I1:Inv X J U H {s with heap:=R}:=I.turned (t':=s.toks) (λb o L e=>(f.2 b L).trans e) q y j Q C;obtain⟨o,e,c,d⟩:=id M;exact⟨u,Y,OE (s:={s with heap:=R}) e c d (by decide) ⟨x,H,I1,r,⟨Y,λys n=>by rw[I.tuple_inj n N];exact B⟩,M,λb L=>(O b L).1⟩⟩
 done:=by
  intro X A D S t i J s U H E I O Z F;subst A D S;obtain⟨m,N,B⟩:=F;obtain⟨G,T,p,l⟩:=I.tuple N;obtain⟨q,y,f2,j,Q,C⟩:=O it (by simp);have hl:=T.length;exact wpAny_pyNext_tuple_end (I.ok.hd t) Z (show s.heap.IsTuple a G.toArray from p) (by simp;omega) λR eb=>⟨Y,I.turned (t':=s.toks) (λb o L e=>eb b o L e) q y j Q C⟩
 self:=λ_ _ _ _ _ Z h=>wpAny_pyIter_tupleiter Z h
def Bk{P:Program}{w:World}{K:PySem.W.Frag}{m:Expr}(it:Addr)(M:Int)(n:Nat):Turn P w K m (Itr M n) [it] it (λi h=>IsRangeIter h it (M+(i:Nat)*1) ((n:Int)-(i:Nat)) 1) where
 mem:=by simp
 obj:=λi h Z b G=>by
  have e:b=it:=by simpa using G
  subst e
  exact⟨_,Z,λv z=>by
   have q:Data.fields _=Data.cell v:=z;cases q⟩
 keep:=λi h O Z k=>k it (by simp) _ Z
 item:=by
  intro X D R F B i J s U H E I N Z T;subst D R F;obtain⟨j,Q,c,C,S,A⟩:=N it (by simp);have W:=Walks.range (prog:=X.prog) (w:=X.w) (I.ok.hd B) it M 1 n;refine W.item i s _ _ T Z λv O y p L g=>?_;obtain⟨t,rfl⟩:=p;have f:Inv X J U H {s with heap:=O,toks:=y}:=I.turned (λb o G e=>g b o (by simpa using G) e) j Q C S A;refine⟨_,Y,OE (s:={s with heap:=O,toks:=y}) (n:="range_iterator") L Y Y (by decide) ⟨.int<|M+i,H,f,⟨t,?_⟩,⟨rfl,rfl⟩,L,λb G=>(N b G).1⟩⟩;rw[Int.mul_one]
 done:=by
  intro X D R F B i J s U H E I N Z T;subst D R F;obtain⟨j,Q,c,C,S,A⟩:=N it (by simp);exact wpAny_pyNext_range_end (I.ok.hd B) Z (by have:n<=i:=T;omega) λO d=>⟨Y,I.turned (t':=s.toks) (λb o G e=>d b o G e) j Q C S A⟩
 self:=λ_ _ _ _ _ Z h=>wpAny_pyIter_rangeiter Z h
end L2
namespace L2
open PySem PySem.Spec PyProof.Rows
section
def L6(K:W.Frag)(tl:TE):TI:=λU H R=>tl U H λx Z=>Jb x λa=>(∃J,SqL K Z a J)/\R (Itl K a) Z
def yO(K:W.Frag)(tl:TE):TI:=λU H R=>tl U H λx Z=>Jb x λa=>(∃J,SqT K Z a J)/\R (Itt K a) Z
def VF(T:PE X l tl):PI X tg l (L6 X.K tl):=by
 intro Z s U H R I h;refine thn (T Z s U H _ I h) λv J ⟨x,D,G,M,L⟩=>?_;replace L:=Jb.old L;obtain⟨a,e,⟨E,O⟩,q⟩:=L;subst e;cases M;obtain⟨N,F,p,A⟩:=G.list O;refine jo p.isList ?_;refine⟨J.heap.objs.size,[J.heap.objs.size],_,_,D,Y,G.kept (t':=J.toks) λb o e=>ZD _ e,Fc a _,⟨_,ZW _ Y,Y,Y⟩,λb B=>?_,q⟩;have e:b=J.heap.objs.size:=by simpa using B
 subst e;exact G.fpOk (ZF _)<|G.hok.fresh<|ZF _
def V9(T:PE X l tl):PI X tg l (yO X.K tl):=by
 intro J s U H R I h;refine thn (T J s U H _ I h) λv Z ⟨x,D,G,N,L⟩=>?_;replace L:=Jb.old L;obtain⟨a,e,⟨E,O⟩,q⟩:=L;subst e;cases N;obtain⟨M,F,p,A⟩:=G.tuple O;refine wpAny_pyIter_tuple (show Z.heap.IsTuple a M.toArray from p) ?_;refine⟨Z.heap.objs.size,[Z.heap.objs.size],_,_,D,Y,G.kept (t':=Z.toks) λb o e=>ZD _ e,Bj a _,⟨_,ZW _ Y,Y,Y⟩,λb B=>?_,q⟩;have e:b=Z.heap.objs.size:=by simpa using B
 subst e;exact G.fpOk (ZF _)<|G.hok.fresh<|ZF _
def LF{Z J:Int}(I:Inv X G U H s)(B: -(2 ^ 62)<=Z)(T:Z<2 ^ 62)(O: -(2 ^ 62)<=J)(N:J<2 ^ 62)(q:R (Itr Z (J-Z).toNat) H):wpAny (model X.prog X.w) X.A (pyIter<|.ref s.heap.objs.size) (PIE X G U tg R) E {s with heap:=s.heap.push {cls:=.type "range",data:=.fields #[.int Z t,.int J u,.int 1 v]},toks:=tk}:=by
 refine wpAny_pyIter_range (IsRange.new ..) (small_one B T O N) ?_;have L:Inv X G U H {s with heap:=s.heap.push {cls:=.type "range",data:=.fields #[.int Z t,.int J u,.int 1 v]},toks:=tk}:=I.kept λb o e=>ZD _ e;refine⟨(s.heap.push {cls:=.type "range",data:=.fields #[.int Z t,.int J u,.int 1 v]}).objs.size,[(s.heap.push {cls:=.type "range",data:=.fields #[.int Z t,.int J u,.int 1 v]}).objs.size],_,_,H,Y,
  L.kept (t':=tk) λb o e=>ZD _ e,Bk _ Z (J-Z).toNat,?_,λb M=>?_,q⟩
 .have e1:Z+((0:Nat):Int)*1=Z:=by simp
  have D:(((J-Z).toNat:Nat):Int)-((0:Nat):Int)=Builtin.Range.rangeSize Z J 1:=by rw[rangeSize_one];split <;> omega
  show IsRangeIter _ _ (Z+((0:Nat):Int)*1) ((((J-Z).toNat:Nat):Int)-((0:Nat):Int)) 1;rw[e1,D];exact ZW _ Y
 .have e:b=(s.heap.push {cls:=.type "range",data:=.fields #[.int Z t,.int J u,.int 1 v]}).objs.size:=by simpa using M
  subst e;exact L.fpOk (ZF _)<|L.hok.fresh<|ZF _
def zE(ta:TA):TI:=λU H R=>ta U H λZ J=>∃j:Int,Z=[.int j]/\ -(2 ^ 62)<=j/\j<2 ^ 62/\R (Itr 0 j.toNat) J
def Xw(T:Gl X "range")(O:X.mg "range"=none)(B:PA X [a] ta)(N:starEach [a] X.env=[(false,eval a X.env)]:=by rfl):PI X tg (.Call (.Name "range" p) [a] [] pos) (zE ta):=by
 intro Z s U H R I h;refine Call_<|W5 I T O boot_range<|vS (thn (B pos Z s U H _ I h) λF A ⟨E,S,D,L,J⟩=>?_) N rfl;obtain⟨j,e,J,M,q⟩:=J;subst e
 cases L with
 |cons r G=>
  cases G;obtain⟨t,rfl⟩:=r;exact call_range_1<|LF D (by omega) (by omega) J M<|by simpa using q
def Jt(wi:TI)(g:TG)(tb:TS):TS:=λD U H=>wi U H λJ O=>∃W:Nat->Nat->St->Hp->Prop,(∃m,W 0 m U O)/\∀i m U H,W i m U H->
 (J.stop i H/\D.nx U H)\/(J.go i H/\∃N:kI,(∀L Z,N L Z->∃G,G<m/\W (i+1) G L Z)/\∀x Z,J.yld i H x Z->g x U Z fun σ2 M=>tb {D with nx:=N,ct:=N,bk:=D.nx} σ2 M)
def VZ(fp:kA)(h:Heap):kb:=fp.filterMap λb=>(h.get? b).map λo=>(b,o)
def Vz(Z:b∈fp)(e:h.get? b=some o):(b,o)∈VZ fp h:=List.mem_filterMap.mpr ⟨b,Z,by rw[e];rfl⟩
def Xz(Z:p∈VZ fp h):p.1∈fp/\h.get? p.1=some p.2:=by
 obtain⟨b,J,e⟩:=List.mem_filterMap.mp Z
 cases q:h.get? b with
 |none=>rw[q]at e;cases e
 |some o=>
  rw[q]at e;have G:(b,o)=p:=ZP e;subst G;exact⟨J,q⟩
def Inv.pinned(I:Inv X Z U H s)(N:∀b∈fp,UL X Z H b)(M:∀b∈fp,∃o,s.heap.get? b=some o/\∀v,o.data≠.cell v):Inv X (Z++ VZ fp s.heap) U H s:=
 I.pins_of λp L=>(ZV.mp L).elim (λz=>I.pin p<|ZQ _ z) λz=>by
  obtain⟨J,e⟩:=Xz z;obtain⟨T,R,O,_⟩:=N p.1 J;obtain⟨o,G,d⟩:=M p.1 J;rw[e]at G;cases G;exact⟨e,T,R,O,d⟩
def Inv.unpinned(I:Inv X (Z++ pl) U H s):Inv X Z U H s:=I.pins_of λp J=>I.pin p<|ZQ _<|vW _ J
def Vq(S:PassesOwn (model X.prog X.w) X.A X.env X.xe)(a:X.calm=true)(hi:PI X tg iter wi)(hg:PG X tg g)(L:PSs X body tb)(hs:∀x,foldedSetIterable iter X.env x=pure x:=by intro _;rfl):PS X (.For tg iter body [] pos) (Jt wi g tb):=by
 intro Z s U H D I h;refine wpAny_For (thn (hi Z s U H _ I h) λv s1 h1=>thn h1 λZ8 s2 h2=>?_) hs;obtain⟨it,P,p,J,H2,e,I2,T,y,f2,W,⟨m0,w0⟩,turn⟩:=h2;subst e;have G:∀{R:Hp},(∀b∈P,R b=none)->∀b∈P,UL X Z R b:=λhn b L=>⟨hn b L,(f2 b L).2⟩;refine codeAny_forLoop_any (λn l=>∃i Q R,Inv X Z Q R l/\p i l.heap/\(∀b∈P,R b=none)/\W i n Q R) ?_ m0 ⟨0,U,H2,I2,y,λb L=>(f2 b L).1,w0⟩;rintro n w ⟨i,σ3,j,I3,F,C,w3⟩;rcases turn i n σ3 j w3 with⟨stop,qn⟩|⟨go,N,hN,step⟩
 .refine jK S (thn (T.done X rfl rfl rfl a i Z w σ3 j X.xe I3 (G C) F stop) λr s4 ⟨q,I4⟩=>?_)
  subst q;exact qe ⟨σ3,j,I4,qn⟩
 .refine jK S (thn (T.item X rfl rfl rfl a i Z w σ3 j X.xe I3 (G C) F go) λr s4 ⟨u,q,h4⟩=>?_)
  subst q;refine jK S<|thn h4 λ_ c ⟨x,H5,I5,r5,y5,E,t⟩=>?_;have k:=I5.pinned (G t)<|T.obj _ _ E;refine jK S<|thn (hg _ c σ3 H5 x u _ k r5<|step x H5 y5) λ_ s6 ⟨σ6,H6,I6,q6⟩=>?_;refine jK S<|thn (L _ s6 σ6 H6 _ I6 q6) λf z B=>?_
  have again:∀{σ7:St}{O:Hp},Inv X (Z++ VZ P c.heap) σ7 O z->N σ7 O->∃m,m<n/\∃i Q R,Inv X Z Q R z/\p i z.heap/\(∀b∈P,R b=none)/\W i m Q R:=λ{σ7 O} M A=>by
   obtain⟨m',hm,w7⟩:=hN σ7 O A;refine⟨m',hm,i+1,σ7,O,M.unpinned,T.keep _ _ _ E λb L o e=>(M.pin (b,o)<|ZQ _<|ZQ _<|Vz L e).1,λb L=>?_,w7⟩;obtain⟨o,e,d⟩:=T.obj _ _ E b L;exact(M.pin (b,o)<|ZQ _<|ZQ _<|Vz L e).2.1
  cases f with
  |next=>obtain⟨σ7,O,M,A⟩:=B;exact again M A
  |cont=>obtain⟨σ7,O,M,A⟩:=B;exact again M A
  |brk=>obtain⟨σ7,O,M,B⟩:=B;exact⟨σ7,O,M.unpinned,B⟩
  |ret v=>obtain⟨x7,σ7,O,M,r7,B⟩:=B;exact⟨x7,σ7,O,M.unpinned,r7,B⟩
end
def OL{K:PySem.W.Frag}{g:TG}{O:TS}{D:Ends}(J:kH)(S:J 0 U H)(F:∀i U H,i<=Z.length->J i U H->SqL K H a Z)(E:∀i x U H,Z[i]?=some x->J i U H->g x U H fun σ2 M=>O {D with nx:=J<|i+1,ct:=J<|i+1,bk:=D.nx} σ2 M)(I:∀U H,J Z.length U H->D.nx U H):
  ∃W:Nat->Nat->St->Hp->Prop,(∃m,W 0 m U H)/\∀i m U H,W i m U H->
   ((Itl K a).stop i H/\D.nx U H)\/((Itl K a).go i H/\∃N:kI,(∀L G,N L G->∃R,R<m/\W (i+1) R L G)/\∀x G,(Itl K a).yld i H x G->g x U G fun σ2 M=>O {D with nx:=N,ct:=N,bk:=D.nx} σ2 M):=by
 refine⟨λi m U H=>m=Z.length-i/\i<=Z.length/\J i U H,⟨Z.length,by simp,Za _,S⟩,?_⟩;rintro i m U H ⟨rfl,A,p⟩;have q:=F i U H A p
 by_cases hlt:i<Z.length
 .refine .inr ⟨⟨Z,Z[i],q,by simp[hlt]⟩,J<|i+1,λL G T=>⟨Z.length-(i+1),by omega,rfl,hlt,T⟩,λx G y=>?_⟩
  obtain⟨e,y⟩:=y;subst e;exact E i x U _ (y Z q) p
 .have e:i=Z.length:=by omega
  subst e;exact .inl ⟨⟨Z,q,ZF _⟩,I U H p⟩
def FA{K:PySem.W.Frag}{g:TG}{M:TS}{D:Ends}(Z:kH)(I:Z 0 U H)(E:∀i U H,i<=xs.length->Z i U H->SqT K H a xs)(B:∀i x U H,xs[i]?=some x->Z i U H->g x U H fun σ2 L=>M {D with nx:=Z<|i+1,ct:=Z<|i+1,bk:=D.nx} σ2 L)(A:∀U H,Z xs.length U H->D.nx U H):
  ∃W:Nat->Nat->St->Hp->Prop,(∃m,W 0 m U H)/\∀i m U H,W i m U H->
   ((Itt K a).stop i H/\D.nx U H)\/((Itt K a).go i H/\∃N:kI,(∀G J,N G J->∃O,O<m/\W (i+1) O G J)/\∀x J,(Itt K a).yld i H x J->g x U J fun σ2 L=>M {D with nx:=N,ct:=N,bk:=D.nx} σ2 L):=by
 refine⟨λi m U H=>m=xs.length-i/\i<=xs.length/\Z i U H,⟨xs.length,by simp,Za _,I⟩,?_⟩;rintro i m U H ⟨rfl,F,p⟩;have q:=E i U H F p
 by_cases hlt:i<xs.length
 .refine .inr ⟨⟨xs,xs[i],q,by simp[hlt]⟩,Z<|i+1,λG J R=>⟨xs.length-(i+1),by omega,rfl,hlt,R⟩,λx J y=>?_⟩
  obtain⟨e,y⟩:=y;subst e;exact B i x U _ (y xs q) p
 .have e:i=xs.length:=by omega
  subst e;exact .inl ⟨⟨xs,q,ZF _⟩,A U H p⟩
def ME{G:Int}{g:TG}{O:TS}{D:Ends}(Z:kH)(A:Z 0 U H)(E:∀i U H,i<n->Z i U H->g (.int<|G+i) U H fun σ2 M=>O {D with nx:=Z<|i+1,ct:=Z<|i+1,bk:=D.nx} σ2 M)(F:∀U H,Z n U H->D.nx U H):
  ∃W:Nat->Nat->St->Hp->Prop,(∃m,W 0 m U H)/\∀i m U H,W i m U H->
   ((Itr G n).stop i H/\D.nx U H)\/((Itr G n).go i H/\∃N:kI,(∀L J,N L J->∃R,R<m/\W (i+1) R L J)/\∀x J,(Itr G n).yld i H x J->g x U J fun σ2 M=>O {D with nx:=N,ct:=N,bk:=D.nx} σ2 M):=by
 refine⟨λi m U H=>m=n-i/\i<=n/\Z i U H,⟨n,by simp,Za _,A⟩,?_⟩;rintro i m U H ⟨rfl,I,p⟩
 by_cases hlt:i<n
 .refine .inr ⟨hlt,Z<|i+1,λL J T=>⟨n-(i+1),by omega,rfl,hlt,T⟩,λx J y=>?_⟩
  obtain⟨e,y⟩:=y;subst e y;exact E i U _ hlt p
 .have e:i=n:=by omega
  subst e;exact .inl ⟨ZF _,F U H p⟩
abbrev R2:=V->V->Hp->VK->Prop
def OpR(X:Cx)(f:Value->Value->Sem Value)(r:R2):Prop:=
 ∀(Z:kb)(s:Shared)(U:St)(H:Hp)(x y:V)(v u:Value)(Q:VK),Inv X Z U H s->RelV x v->RelV y u->r x y H Q->
  wpAny (model X.prog X.w) X.A (f v u) (EP X Z U Q) X.xe s
def UnR(X:Cx)(f:Value->Sem Value)(r:V->Hp->VK->Prop):Prop:=
 ∀(Z:kb)(s:Shared)(U:St)(H:Hp)(x:V)(v:Value)(Q:VK),Inv X Z U H s->RelV x v->r x H Q->
  wpAny (model X.prog X.w) X.A (f v) (EP X Z U Q) X.xe s
def UF(X:Cx)(f:Value)(r:List V->Hp->VK->Prop):Prop:=
 ∀(Z:kb)(s:Shared)(U:St)(H:Hp)(J:kF)(G:kj)(Q:VK),Inv X Z U H s->Vals J G->r J H Q->
  wpAny (model X.prog X.w) X.A (call f G) (EP X Z U Q) X.xe s
def tOp(r:R2)(ta tb:TE):TE:=λU H Q=>ta U H λx J=>tb U J λy Z=>r x y Z Q
def tUn(r:V->Hp->VK->Prop)(ta:TE):TE:=λU H Q=>ta U H λx Z=>r x Z Q
def rI(C:Int->Int->Prop)(g:Int->Int->V):R2:=λx y H Q=>XQ x λi=>XQ y λj=>C i j/\Q (g i j) H
def rI.old(h:rI C g x y H Q):∃i j,x=.int i/\y=.int j/\C i j/\Q (g i j) H:=by
 replace h:=XQ.old h;obtain⟨i,e,h⟩:=h;replace h:=XQ.old h;obtain⟨j,Z,h⟩:=h;exact⟨i,j,e,Z,h⟩
def rI0(g:Int->Int->V):R2:=λx y H Q=>XQ x λi=>XQ y λj=>Q (g i j) H
def rI0.old(h:rI0 g x y H Q):∃i j,x=.int i/\y=.int j/\Q (g i j) H:=by
 replace h:=XQ.old h;obtain⟨i,e,h⟩:=h;replace h:=XQ.old h;obtain⟨j,Z,h⟩:=h;exact⟨i,j,e,Z,h⟩
def rU(g:Int->V):V->Hp->VK->Prop:=λx H Q=>∃i,x=.int i/\Q (g i) H
section
def A4(S:PE X a ta)(A:PE X b tb){R:V->V->Hp->Prop}(I:Inv X Z U H s)(h:ta U H λx N=>tb U N λy J=>R x y J){f:Value->Value->Sem Value}(F:∀v u M x y J,Inv X Z U J M->RelV x v->RelV y u->R x y J->wpAny (model X.prog X.w) X.A (f v u) Q X.xe M):
  wpAny (model X.prog X.w) X.A (eval a X.env) (λv L=>wpAny (model X.prog X.w) X.A (eval b X.env) (λu G=>wpAny (model X.prog X.w) X.A (f v u) Q X.xe G) X.xe L) X.xe s:=by
 refine thn (S Z s U H _ I h) λv O ⟨x,N,P,B,E⟩=>?_;refine thn (A Z O U N _ P E) λu M ⟨y,J,C,T,D⟩=>?_;exact F v u M x y J C B T D
def Y1(M:OpR X (binaryOp op) r)(O:PE X a ta)(N:PE X b tb):PE X (.BinOp a op b pos) (tOp r ta tb):=by
 intro Z s U H Q I h;exact wpAny_BinOp<|A4 O N I h λv u J x y T R L G q=>M Z J U T x y v u Q R L G q
def Er(M:UnR X (unaryOp op) r)(N:PE X a ta):PE X (.UnaryOp op a pos) (tUn r ta):=by
 intro Z s U H Q I h;exact UnaryOp_<|thn (N Z s U H _ I h) λv J ⟨x,R,O,G,L⟩=>M Z J U R x v Q O G L
def opI{g:Int->Int->Int}(rule:∀(i j:Int)(t u:Tok)(s:Shared)(Q:kh)(E:kh),C i j->Q (.int (g i j) s.toks) {s with toks:=s.toks+1}->wpAny (model X.prog X.w) X.A (f (.int i t)<|.int j u) Q E s):
  OpR X f (rI C λi j=>.int<|g i j):=by
 intro Z s U H x y v u Q I L G h;replace h:=rI.old h;obtain⟨i,j,rfl,rfl,M,q⟩:=h;obtain⟨t,rfl⟩:=L;obtain⟨J,rfl⟩:=G;exact rule i j t J s _ _ M ⟨.int<|g i j,H,I.tok _,⟨_,rfl⟩,q⟩
def AE{g:Int->Int->Int}(rule:∀(i j:Int)(t u:Tok)(s:Shared)(Q:kh)(E:kh),Q (.int (g i j) s.toks) {s with toks:=s.toks+1}->wpAny (model X.prog X.w) X.A (f (.int i t)<|.int j u) Q E s):
  OpR X f (rI0 λi j=>.int<|g i j):=by
 intro Z s U H x y v u Q I L G h;replace h:=rI0.old h;obtain⟨i,j,rfl,rfl,q⟩:=h;obtain⟨t,rfl⟩:=L;obtain⟨J,rfl⟩:=G;exact rule i j t J s _ _ ⟨.int<|g i j,H,I.tok _,⟨_,rfl⟩,q⟩
def Pm{g:Int->Int->Bool}(rule:∀(i j:Int)(t u:Tok)(s:Shared)(Q:kh)(E:kh),Q (.bool<|g i j) s->wpAny (model X.prog X.w) X.A (f (.int i t)<|.int j u) Q E s):
  OpR X f (rI0 λi j=>.bl<|g i j):=by
 intro Z s U H x y v u Q I L G h;replace h:=rI0.old h;obtain⟨i,j,rfl,rfl,q⟩:=h;obtain⟨t,rfl⟩:=L;obtain⟨J,rfl⟩:=G;exact rule i j t J s _ _ ⟨.bl<|g i j,H,I,rfl,q⟩
def yf(i j:Int):Prop:=0<j/\j<1073741824
def zX(i j:Int):Prop:=0<=j/\j<=1000000/\i.natAbs<2 ^ 64
def Qd(i j:Int):Prop:=(-(2 ^ 64)<i/\i<2 ^ 64)\/(-(2 ^ 64)<j/\j<2 ^ 64)
def Qd.ok(h:Qd i j):IntMulOk i j:=by
 rcases h with⟨J,Z⟩|⟨J,Z⟩
 .exact .of_left (intBits_le_64 J Z)
 .exact .of_right (intBits_le_64 J Z)
def Vr:OpR X (binaryOp .Add) (rI0 λi j=>.int<|i+j):=AE λ_ _ _ _ _ _ _ q=>add_int q
def UV:OpR X (binaryOp .Sub) (rI0 λi j=>.int<|i-j):=AE λ_ _ _ _ _ _ _ q=>sub_int q
def JV:OpR X (binaryOp .Mult) (rI Qd λi j=>.int<|i*j):=opI λ_ _ _ _ _ _ _ Z q=>mul_int q Z.ok
def G8:OpR X (binaryOp .FloorDiv) (rI yf λi j=>.int<|i / j):=opI λi j _ _ _ _ _ Z q=>by
 have G:(0:Int)<j:=Z.1;have J:j<1073741824:=Z.2;exact floordiv_int (by omega) (by rw[Int.fdiv_eq_ediv_of_nonneg i (by omega)];exact q)<|.inl<|PyProof.noPylong_small<|by omega
def Xh:OpR X (binaryOp .Mod) (rI (λ_ j=>0<j) λi j=>.int<|i % j):=opI λi j _ _ _ _ _ Z q=>by
 have J:(0:Int)<j:=Z;exact mod_int' (by omega) (by rw[Int.fmod_eq_emod_of_nonneg i (by omega)];exact q)
def AC:OpR X (binaryOp .Pow) (rI zX λi j=>.int<|i ^ j.toNat):=opI λ_ _ _ _ _ _ _ Z q=>pow_int_small Z.1 Z.2.1 Z.2.2 q
def E4:OpR X (inplaceOp .Add) (rI0 λi j=>.int<|i+j):=AE λ_ _ _ _ _ _ _ q=>iadd_int q
def QH:OpR X (inplaceOp .Mult) (rI Qd λi j=>.int<|i*j):=opI λ_ _ _ _ _ _ _ Z q=>imul_int q Z.ok
def unI{g:Int->Int}(rule:∀(i:Int)(t:Tok)(s:Shared)(Q:kh)(E:kh),Q (.int (g i) s.toks) {s with toks:=s.toks+1}->wpAny (model X.prog X.w) X.A (f<|.int i t) Q E s):
  UnR X f (rU λi=>.int<|g i):=by
 intro Z s U H x v Q I J h;obtain⟨i,rfl,q⟩:=h;obtain⟨t,rfl⟩:=J;exact rule i t s _ _ ⟨.int<|g i,H,I.tok _,⟨_,rfl⟩,q⟩
def MV:UnR X (unaryOp .USub) (rU λi=>.int<|-i):=unI λ_ _ _ _ _ q=>neg_int q
end
def Se:V->V->Bool
 |.non,.non=>true|.non,.int _=>true|.int _,.non=>true|.non,.bl _=>true|.bl _,.non=>true|.non,.str _=>true|.str _,.non=>true
 |.int _,.int _=>true|.bl _,.bl _=>true|.str _,.str _=>true|.byt _,.byt _=>true
 |.int _,.str _=>true|.str _,.int _=>true|.bl _,.str _=>true|.str _,.bl _=>true
 |_,_=>false
def rEq:R2:=λx y H Q=>Se x y=true/\Q (.bl<|decide<|x=y) H
def rNe:R2:=λx y H Q=>Se x y=true/\Q (.bl<|!decide (x=y)) H
def FH:decide (V.int i=V.int j)=(i==j):=by
 rw[vo];simp
def OY:decide (V.bl i=V.bl j)=(i==j):=by
 rw[vo];simp
def FG:decide (V.str i=V.str j)=(i==j):=by
 rw[vo];simp
def FI:decide (V.byt i=V.byt j)=(i.toList==j.toList):=by
 rw[vo];cases i;cases j;simp
section
variable{a b c:Expr}{ta tb tc:TE}
def VX(I:Inv X Z U H s)(q:Q (.bl k) H)(e:k=k'):EP X Z U Q (.bool k') s:=by
 subst e;exact⟨.bl k,H,I,Y,q⟩
def JK:OpR X (compareOp .Eq) rEq:=by
 intro M s U H x y v u Q I L Z h;obtain⟨G,q⟩:=h
 cases x with
 |non=>
  cases L
  cases y with
  |non=>cases Z;exact PySem.EqNone.eq_none_none<|VX I q<|by simp
  |bl j=>cases Z;exact PySem.EqNone.eq_none_bool<|VX I q<|by simp
  |int j=>obtain⟨J,rfl⟩:=Z;exact PySem.EqNone.eq_none_int<|VX I q<|by simp
  |str j=>obtain⟨J,rfl⟩:=Z;exact PySem.EqNone.eq_none_str<|VX I q<|by simp
  |_=>exact Zp (show false=true from G) Zg
 |bl i=>
  cases L
  cases y with
  |non=>cases Z;exact PySem.EqNone.eq_bool_none<|VX I q<|by simp
  |bl j=>cases Z;exact eq_bool<|VX I q OY
  |str j=>obtain⟨J,rfl⟩:=Z;exact PySem.EqMixed.eq_bool_str<|VX I q<|by simp
  |_=>exact Zp (show false=true from G) Zg
 |int i=>
  obtain⟨t,rfl⟩:=L
  cases y with
  |non=>cases Z;exact PySem.EqNone.eq_int_none<|VX I q<|by simp
  |int j=>obtain⟨J,rfl⟩:=Z;exact eq_int<|VX I q FH
  |str j=>obtain⟨J,rfl⟩:=Z;exact PySem.EqMixed.eq_int_str<|VX I q<|by simp
  |_=>exact Zp (show false=true from G) Zg
 |str i=>
  obtain⟨t,rfl⟩:=L
  cases y with
  |non=>cases Z;exact PySem.EqNone.eq_str_none<|VX I q<|by simp
  |bl j=>cases Z;exact PySem.EqMixed.eq_str_bool<|VX I q<|by simp
  |int j=>obtain⟨J,rfl⟩:=Z;exact PySem.EqMixed.eq_str_int<|VX I q<|by simp
  |str j=>obtain⟨J,rfl⟩:=Z;exact eq_str<|VX I q FG
  |_=>exact Zp (show false=true from G) Zg
 |byt i=>
  obtain⟨t,rfl⟩:=L
  cases y with
  |byt j=>obtain⟨J,rfl⟩:=Z;exact W.eq_bytes<|VX I q FI
  |_=>exact Zp (show false=true from G) Zg
 |_=>cases y <;> exact Zp (show false=true from G) Zg
def Uy:OpR X (compareOp .NotEq) rNe:=by
 intro M s U H x y v u Q I L Z h;obtain⟨G,q⟩:=h
 cases x with
 |non=>
  cases L
  cases y with
  |non=>cases Z;exact PySem.EqNone.ne_none_none<|VX I q<|by simp
  |bl j=>cases Z;exact PySem.EqNone.ne_none_bool<|VX I q<|by simp
  |int j=>obtain⟨J,rfl⟩:=Z;exact PySem.EqNone.ne_none_int<|VX I q<|by simp
  |str j=>obtain⟨J,rfl⟩:=Z;exact PySem.EqNone.ne_none_str<|VX I q<|by simp
  |_=>exact Zp (show false=true from G) Zg
 |bl i=>
  cases L
  cases y with
  |non=>cases Z;exact PySem.EqNone.ne_bool_none<|VX I q<|by simp
  |bl j=>cases Z;exact ne_bool<|VX I q<|congrArg not OY
  |str j=>obtain⟨J,rfl⟩:=Z;exact PySem.EqMixed.ne_bool_str<|VX I q<|by simp
  |_=>exact Zp (show false=true from G) Zg
 |int i=>
  obtain⟨t,rfl⟩:=L
  cases y with
  |non=>cases Z;exact PySem.EqNone.ne_int_none<|VX I q<|by simp
  |int j=>obtain⟨J,rfl⟩:=Z;exact ne_int<|VX I q<|congrArg not FH
  |str j=>obtain⟨J,rfl⟩:=Z;exact PySem.EqMixed.ne_int_str<|VX I q<|by simp
  |_=>exact Zp (show false=true from G) Zg
 |str i=>
  obtain⟨t,rfl⟩:=L
  cases y with
  |non=>cases Z;exact PySem.EqNone.ne_str_none<|VX I q<|by simp
  |bl j=>cases Z;exact PySem.EqMixed.ne_str_bool<|VX I q<|by simp
  |int j=>obtain⟨J,rfl⟩:=Z;exact PySem.EqMixed.ne_str_int<|VX I q<|by simp
  |str j=>obtain⟨J,rfl⟩:=Z;exact ne_str<|VX I q<|congrArg not FG
  |_=>exact Zp (show false=true from G) Zg
 |byt i=>
  obtain⟨t,rfl⟩:=L
  cases y with
  |byt j=>obtain⟨J,rfl⟩:=Z;exact W.ne_bytes<|VX I q<|congrArg not FI
  |_=>exact Zp (show false=true from G) Zg
 |_=>cases y <;> exact Zp (show false=true from G) Zg
def RJ:OpR X (compareOp .Lt) (rI0 λi j=>.bl<|decide<|i<j):=Pm λ_ _ _ _ _ _ _ q=>lt_int q
def Gc:OpR X (compareOp .LtE) (rI0 λi j=>.bl<|decide<|i<=j):=Pm λ_ _ _ _ _ _ _ q=>le_int q
def Uz:OpR X (compareOp .Gt) (rI0 λi j=>.bl<|decide<|j<i):=Pm λ_ _ _ _ _ _ _ q=>gt_int q
def Qo:OpR X (compareOp .GtE) (rI0 λi j=>.bl<|decide<|j<=i):=Pm λ_ _ _ _ _ _ _ q=>ge_int q
def Fv:OpR X (compareOp .In) (λx y H Q=>∃i j,x=.str i/\y=.str j/\Q (.bl<|!(Builtin.Str.occurrences j i 0 j.length 1).isEmpty) H):=by
 intro Z s U H x y v u Q I G J h;obtain⟨i,j,rfl,rfl,q⟩:=h;obtain⟨t,rfl⟩:=G;obtain⟨L,rfl⟩:=J;exact in_str<|VX I q rfl
def RM:OpR X (compareOp .Is) (λx y H Q=>y=.non/\Q (.bl<|decide<|x=.non) H):=by
 intro J s U H x y v u Q I Z G h;obtain⟨rfl,q⟩:=h;cases G;refine is_none_gen<|VX I q ?_;cases x <;> first
  |(cases Z;rfl)
  |(obtain⟨t,rfl⟩:=Z;rfl)
def Ex:OpR X (compareOp .IsNot) (λx y H Q=>y=.non/\Q (.bl<|!decide (x=.non)) H):=by
 intro J s U H x y v u Q I Z G h;obtain⟨rfl,q⟩:=h;cases G;refine isnot_none_gen<|VX I q ?_;cases x <;> first
  |(cases Z;rfl)
  |(obtain⟨t,rfl⟩:=Z;rfl)
def OpR.or(h:OpR X f r)(L:OpR X f r'):OpR X f (λx y H Q=>r x y H Q\/r' x y H Q):=by
 intro Z s U H x y v u Q I G J q;rcases q with q|q
 .exact h Z s U H x y v u Q I G J q
 .exact L Z s U H x y v u Q I G J q
def Yy(b:Expr)(h:op≠.In:=by decide)(Z:op≠.NotIn:=by decide):behindInMarks op b=false:=by
 have G:(op==CmpOp.In)=false:=by cases op <;> first|rfl|exact Zp Y h
 have J:(op==CmpOp.NotIn)=false:=by cases op <;> first|rfl|exact Zp Y Z
 cases b <;> simp[behindInMarks,G,J]
def UI(M:OpR X (compareOp op) r)(R:PE X a ta)(O:PE X b tb)(N:behindInMarks op b=false):PE X (.Compare a [op] [b] pos) (tOp r ta tb):=by
 intro Z s U H Q I h;exact wpAny_Compare1 (A4 R O I h λv u J x y B T L G q=>M Z J U B x y v u Q T L G q) N
def Qf(t:TE):TT:=λU H Q=>t U H λx Z=>∃k,x=.bl k/\Q k Z
def Yq(B:OpR X (compareOp op) r)(F:PE X a ta)(E:PE X b tb)(D:behindInMarks op b=false):PT X (.Compare a [op] [b] pos) (Qf<|tOp r ta tb):=by
 intro Z s U H Q I h
 refine wpAny_isTrue_Compare1 (thn (F Z s U H _ I h) λv G ⟨x,q,C,N,T⟩=>thn (E Z G U q _ C T) λu J ⟨y,j,S,M,R⟩=>
  thn (B Z J U j x y v u _ S N M R) λc t ⟨z,P,A,L,k,e,O⟩=>?_) D
 subst e;cases L;exact yw ⟨P,A,O⟩
def KZ(r r':R2)(ta tb tc:TE):TE:=λU H Q=>ta U H λx M=>tb U M λy L=>r x y L λz Z=>∃k,z=.bl k/\
 (if k=true then tc U Z λJ G=>r' y J G Q else Q (.bl false) Z)
def LS(q:OpR X (compareOp op) r)(J:OpR X (compareOp op') r')(p:PE X a ta)(g:PE X b tb)(m:PE X c tc)(t:lastMarks [op,op'] [b,c]=false:=by with_unfolding_all rfl):PE X (.Compare a [op,op'] [b,c] pos) (KZ r r' ta tb tc):=by
 intro Z s U H Q I h
 refine Compare_chain (thn (p Z s U H _ I h) λv E ⟨x,n,l,S,j⟩=>chain_link (thn (g Z E U n _ l j) λu D ⟨y,i,w,G,P⟩=>
  thn (q Z D U i x y v u _ w S G P) λd B ⟨z,N,M,A,k,e,L⟩=>?_)) t
 subst e;cases A;refine yw ?_
 cases k with
 |false=>exact ite_ff ⟨.bl false,N,M,Y,L⟩
 |true=>exact ite_tt<|chain_last<|thn (m Z B U N _ M L) λR T ⟨O,o,f,F,C⟩=>J Z T U o y O u R Q f G F C
def RC(g:OpR X (compareOp op) r)(J:OpR X (compareOp op') r')(l:PE X a ta)(w:PE X b tb)(f:PE X c tc)(p:lastMarks [op,op'] [b,c]=false:=by with_unfolding_all rfl):PT X (.Compare a [op,op'] [b,c] pos) (Qf<|KZ r r' ta tb tc):=by
 intro Z s U H Q I h
 refine isTrue_chain (thn (l Z s U H _ I h) λv E ⟨x,H1,I1,C,t⟩=>test_link (thn (w Z E U H1 _ I1 t) λu D ⟨y,H2,I2,G,q⟩=>
  thn (g Z D U H2 x y v u _ I2 C G q) λd B ⟨z,N,M,S,k,e,L⟩=>?_)) p
 subst e;cases S;refine yw ?_
 cases k with
 |false=>
  obtain⟨k',i,m⟩:=L;cases i;exact ite_ff ⟨N,M,m⟩
 |true=>
  refine ite_tt<|test_last<|thn (f Z B U N _ M L) λR T ⟨O,H4,I4,A,j⟩=>thn (J Z T U H4 y O u R _ I4 G A j) λd' s5 ⟨z2,H5,n,F,k2,o,P⟩=>?_;subst o;cases F;exact yw ⟨H5,n,P⟩
def W4:(sizeLine:Nat)<2 ^ 63:=by rw[sizeLine_eq];decide
def XJ:OpR X (binaryOp .Add) (λx y H Q=>∃i j,x=.str i/\y=.str j/\i.length+j.length<=sizeLine/\Q (.str<|i++ j) H):=by
 intro Z s U H x y v u Q I L G h;obtain⟨i,j,rfl,rfl,M,q⟩:=h;obtain⟨t,rfl⟩:=L;obtain⟨J,rfl⟩:=G;exact add_str (λJ N=>⟨.str<|i++ j,H,I.tok _,⟨_,rfl⟩,q⟩) M
def vals1(r:Vals [x] Z):∃u,Z=[u]/\RelV x u:=by
 cases r with
 |cons G J=>cases J;exact⟨_,Y,G⟩
def vals2(r:Vals [x,y] J):∃u Z,J=[u,Z]/\RelV x u/\RelV y Z:=by
 cases r with
 |cons N M=>
  cases M with
  |cons L G=>cases G;exact⟨_,_,Y,N,L⟩
def GO(G:X.calm=true):UF X (.builtin "max") (λZ H Q=>∃i j,Z=[.int i,.int j]/\Q (.int<|if j > i then j else i) H):=by
 intro J s U H Z M Q I r h;obtain⟨i,j,rfl,q⟩:=h;obtain⟨u,L,rfl,⟨t,rfl⟩,⟨O,rfl⟩⟩:=vals2 r;refine max_two_ints (I.ok.hd G) λR N k=>⟨_,H,I.kept k,?_,q⟩
 by_cases hj:j > i
 .rw [Zn hj,Zn hj];exact⟨_,Y⟩
 .rw [Zo hj,Zo hj];exact⟨_,Y⟩
def Ij(G:X.calm=true):UF X (.builtin "min") (λZ H Q=>∃i j,Z=[.int i,.int j]/\Q (.int<|if j<i then j else i) H):=by
 intro J s U H Z M Q I r h;obtain⟨i,j,rfl,q⟩:=h;obtain⟨u,L,rfl,⟨t,rfl⟩,⟨O,rfl⟩⟩:=vals2 r;refine min_two_ints (I.ok.hd G) λR N k=>⟨_,H,I.kept k,?_,q⟩
 by_cases hj:j<i
 .rw [Zn hj,Zn hj];exact⟨_,Y⟩
 .rw [Zo hj,Zo hj];exact⟨_,Y⟩
end
structure EO(h:Heap)(x dx C:Addr)(mA:Str->Option Value):Prop where
 obj:h.get? x=some (W.instObj C dx)
 ns:h.Ns1 dx mA
 ne:dx≠x
set_option tactic.hygienic true in
def Rz{h:Heap}(n:h.Ns1 T mA):∃J,h.get? T=some J/\∀name,W.lookIn name J=some (mA name):=by
 obtain⟨o,G,D,M,R,O,_,N⟩:=n;refine⟨o,M,λname=>?_⟩;have e:=N name;unfold nsFind findBy at e;rw[<-Array.find?_toList]at e;unfold W.lookIn;rw[R];dsimp only
 split
 .rename_i y q
  rw[q]at e;exact congrArg some e
 .rename_i q
  rw[q]at e
  have a:G.toList.any (·.refKey)=false:=by
   rw[List.any_eq_false];intro y L;obtain⟨z,t,Z⟩:=O y<|Array.mem_toList_iff.mp L;simp[DictEntry.refKey,Z]
  have B:¬G.toList.any (·.refKey)=true:=by rw[a];exact Zg
  rw[Zo B];exact congrArg some e
def EO.look(I:EO h x L C mA):∃Z,W.InstAt h x (W.instObj C L) C (some Z)/\∀name,W.lookIn name Z=some (mA name):=
 let⟨Z,J,G⟩:=Rz I.ns
 ⟨Z,⟨I.obj,rfl,rfl,J⟩,G⟩
section
variable{K:W.Frag}
def QM(X:K.In s.heap)(I:EO s.heap x T C mA)(N:W.plainGet K C name=true)(M:W.hasDictIn K C=true)(O:W.findIn K (.ref C) name=some none)(G:mA name=some v)(Z:W.handedIn v=true)(h:Q v {s with toks:=s.toks+1}):
  wpAny (model prog w) A (getAttr (.ref x) name expr) Q E s:=by
 obtain⟨R,J,L⟩:=I.look;exact W.get_value X J (W.plainGet_of N).1 (W.findObj_own M O Y (by rw[L,G])) Z h
def OG(X:K.In s.heap)(I:EO s.heap x R C mA)(Z:W.plainGet K C name=true)(O:W.findIn K (.ref C) name=some (some<|.ref f))(M:W.isFn K (.ref f)=true)(L:mA name=none)(h:Q (.ref f,[.ref x]) s):
  wpAny (model prog w) A (getMethod (.ref x) name pl) Q E s:=by
 obtain⟨G,J,N⟩:=I.look;exact W.method_fn X J (W.plainGet_of Z).1 (W.plainGet_of Z).2 O (beq_iff_eq.mp M) (by show(W.lookIn name G).map (·.isSome)=some false;rw[N,L];rfl) h
def O5(X:K.In s.heap)(I:EO s.heap x M C mA)(U:W.findIn K (.ref C) "__setattr__"=some (some<|.builtin "object.__setattr__"))(P:W.plainOver K C=true)(F:W.takerIn K C name=some none)(j:W.hasDictIn K C=true)(D:PySem.Within mA T)(S:T.length<=sizeLine)(h:∀L,EO L x M C (λy=>if y=name then some v else mA y)->Heap.SameBut M s.heap L->Q () {s with heap:=L,toks:=s.toks+2}):
  wpAny (model prog w) A (setAttr (.ref x) name v) Q E s:=by
 obtain⟨m,J,k⟩:=I.look;refine W.set_plain X J U<|W.osa_open (s:={s with toks:=s.toks+1}) (r:=none) X J P F λb=>?_;obtain⟨p,z,O⟩:=W.any_some j;have B:s.heap.get? x=some ⟨.ref C,some M,.plain,#[]⟩:=I.obj;refine Zj<|Zk<|Zj<|Zj<|wpAny_loadPart B<|Zj<|W.Looks.here (s:={s with toks:=s.toks+1}) (W.looks_clsIn X z) ?_;rw[O];refine Zk (a:=some M)<|Zj<|Zk<|Zj ?_;refine wpAny_nsSet1 (s:={s with toks:=s.toks+1}) I.ns λL G Z=>?_;obtain⟨g,q,t,N,hdD,R⟩:=G.count<|PySem.Within.cons name v D;refine Zj<|wpAny_lookBehind N (by rw[hdD];exact pastItsLine_dict<|ZZ R (by rw[Zd];omega)) ?_;exact Zk<|h _ ⟨(Z.2 _<|Zq I.ne).trans I.obj,G,I.ne⟩ Z
def BG(X:K.In s.heap)(J:W.makesIn K C=true)(G:W.findIn K (.ref C) "__init__"=some (some<|.ref f))(L:W.typeIn K (.ref f)=some (.type "function"))(h:codeAny (model prog w) (A.under<|.builtin "type.__call__" ⟨.ref C::Z,kw⟩) (.call (.ref f) ⟨.ref (s.heap.objs.size+1)::Z,kw⟩) (W.InitBack (s.heap.objs.size+1) R)
   {s with heap:=(s.heap.push W.emptyDict).push (W.instObj C s.heap.objs.size)}):
  codeAny (model prog w) A (.call (.ref C) ⟨Z,kw⟩) R s:=by
 obtain⟨N,g,d,t,M⟩:=s;exact W.make_core (W.makes_of X J) (W.looks_findIn X G) (λself=>W.bind_fn X self L) (.inl Y) h
end
def Vc(f:Str)(v:V):List (Str×V)->List (Str×V)
 |[]=>[(f,v)]
 |(g,x)::r=>if g=f then(g,v)::r else(g,x)::Vc f v r
theorem Ge(f g:Str)(v:V):∀Z:List (Str×V),(Vc f v Z).lookup g=if g=f then some v else Z.lookup g
 |[]=>by
  show List.lookup g [(f,v)]=_
  by_cases h:g=f
  .have hb:(g==f)=true:=beq_iff_eq.mpr h
   simp only[List.lookup,hb,Zn h]
  .have hb:(g==f)=false:=beq_eq_false_iff_ne.mpr h
   simp only[List.lookup,hb,Zo h]
 |(k,x)::r=>by
  have ih:=Ge f g v r;rw[show Vc f v ((k,x)::r)=(if k=f then(k,v)::r else(k,x)::Vc f v r)from rfl]
  by_cases hk:k=f
  .rw [Zn hk]
   by_cases h:g=k
   .have hb:(g==k)=true:=beq_iff_eq.mpr h
    simp only[List.lookup,hb,Zn (h.trans hk)]
   .have hb:(g==k)=false:=beq_eq_false_iff_ne.mpr h
    simp only[List.lookup,hb,Zo (λe:g=f=>h<|e.trans hk.symm)]
  .rw [Zo hk]
   by_cases h:g=k
   .have hb:(g==k)=true:=beq_iff_eq.mpr h
    simp only[List.lookup,hb,Zo (λe:g=f=>hk<|h.symm.trans e)]
   .have hb:(g==k)=false:=beq_eq_false_iff_ne.mpr h
    simp only[List.lookup,hb];exact ih
theorem W8(f:Str)(v:V):∀Z:List (Str×V),f∈(Vc f v Z).map (·.1)/\∀g,g∈Z.map (·.1)->g∈(Vc f v Z).map (·.1)
 |[]=>⟨by simp[Vc],λg h=>by simp at h⟩
 |(k,x)::r=>by
  obtain⟨G,J⟩:=W8 f v r;rw[show Vc f v ((k,x)::r)=(if k=f then(k,v)::r else(k,x)::Vc f v r)from rfl]
  by_cases hk:k=f
  .rw [Zn hk]
   subst hk;exact⟨by simp,λg h=>by simpa using h⟩
  .rw [Zo hk]
   refine⟨?_,λg h=>?_⟩
   .rw [ZT]
    exact ZK _ G
   .rw [ZT]at h |-
    rcases Zb.mp h with e|e
    .exact Zb.mpr (.inl e)
    .exact ZK _ (J g e)
theorem Gf(f:Str)(v:V):∀Z:List (Str×V),(Vc f v Z).length<=Z.length+1
 |[]=>by simp[Vc]
 |(k,x)::r=>by
  have ih:=Gf f v r;rw[show Vc f v ((k,x)::r)=(if k=f then(k,v)::r else(k,x)::Vc f v r)from rfl]
  by_cases hk:k=f
  .rw [Zn hk,Zd,Zd];omega
  .rw [Zo hk,Zd,Zd];omega
def Ud.some_of(r:Ud (some v) o):∃u,o=some u/\RelV v u:=by
 cases o with
 |none=>exact(show False from r).elim
 |some u=>exact⟨u,Y,r⟩
def Ud.none_of(r:Ud none o):o=none:=by
 cases o with
 |none=>rfl
 |some u=>exact(show False from r).elim
def MC(r:RelV v u):W.handedIn u=true:=by
 cases v with
 |non=>cases(show u=Value.none from r);rfl
 |bl b=>cases(show u=Value.bool b from r);rfl
 |int i=>obtain⟨t,e⟩:=(show ∃t,u=Value.int i t from r);cases e;rfl
 |str x=>obtain⟨t,e⟩:=(show ∃t,u=Value.str x t from r);cases e;rfl
 |byt b=>obtain⟨t,e⟩:=(show ∃t,u=Value.bytes b t from r);cases e;rfl
 |flt b=>obtain⟨t,e⟩:=(show ∃t,u=Value.float b t from r);cases e;rfl
 |ref a=>cases(show u=Value.ref a from r);rfl
 |ty n=>cases(show u=Value.type n from r);rfl
section
def TJ(J:HOk P w H h)(e:H a=some (.ins C G fs)):∃Z,EO h a G C Z/\(∀f,Ud (fs.lookup f)<|Z f)/\PySem.Within Z (fs.map (·.1))/\fs.length<=1000/\H G=some (.own a):=by
 obtain⟨d,z,M,L,Z,n,r,q⟩:=(show Va P w H h a (.ins C G fs)from J a _ e);exact⟨Z,⟨L,n,M⟩,r,q,z,d⟩
end
structure Cls(K:W.Frag)(C:Addr):Prop where
 pg:W.plainGet K C Str.empty=true
 hd:W.hasDictIn K C=true
 po:W.plainOver K C=true
 sa:W.findIn K (.ref C) "__setattr__"=some (some (.builtin "object.__setattr__"))
def Cls.get{K:W.Frag}(c:Cls K C)(f:Str):W.plainGet K C f=true:=c.pg
def JG(K:W.Frag)(C:Addr)(f:Str):Prop:=W.findIn K (.ref C) f=some none
def JG.taker{K:W.Frag}(n:JG K C f):W.takerIn K C f=some none:=by
 unfold W.takerIn;rw[show W.findIn K (.ref C) f=some none from n]
 rfl
structure Vk(K:W.Frag)(C:Addr)(m:Str)(f:Addr):Prop where
 at_:W.findIn K (.ref C) m=some (some (.ref f))
 fn:W.isFn K (.ref f)=true
 kp:W.keepIn K (.ref f)=true
section
def EA(I:Inv X Z U H s)(e:H a=some (.ins C N fs))(c:Cls X.K C)(n:JG X.K C f)(l:fs.lookup f=some v)(h:∀u J,Inv X Z U H J->RelV v u->Q u J):wpAny (model X.prog X.w) A (getAttr (.ref a) f b) Q E s:=by
 obtain⟨L,O,r,_,_,_⟩:=TJ I.hok e;obtain⟨u,M,G⟩:=Ud.some_of (v:=v) (o:=L f) (by rw[<-l];exact r f);exact QM I.kIn O (c.get f) c.hd n M (MC G)<|h u _ (I.tok _) G
def WH(I:Inv X Z U H s)(e:H a=some (.ins C L fs))(c:Cls X.K C)(k:Vk X.K C m g)(l:fs.lookup m=none)(h:Q (.ref g,[.ref a]) s):wpAny (model X.prog X.w) A (getMethod (.ref a) m pl) Q E s:=by
 obtain⟨J,O,r,_,_,_⟩:=TJ I.hok e;have G:J m=none:=Ud.none_of (by rw[<-l];exact r m);exact OG I.kIn O (c.get m) k.at_ k.fn G h
def B0(I:Inv X Z U H s)(e:H a=some (.ins C J fs))(c:Cls X.K C)(n:JG X.K C f)(m:fs.length<1000)(B:RelV y u)(h:∀M,Inv X Z U (upd H a<|.ins C J<|Vc f y fs) M->Q () M):wpAny (model X.prog X.w) A (setAttr (.ref a) f u) Q E s:=by
 obtain⟨N,O,r,L,_,R⟩:=TJ I.hok e;have D:(fs.map (·.1)).length<=sizeLine:=by rw[ZA,sizeLine_eq];omega
 refine O5 I.kIn O c.sa c.po n.taker c.hd L D λj G T=>h _ ?_;have S:∃o,j.get? J=some o:=let⟨o,_,_,t,_⟩:=G.ns;⟨o,t⟩
 refine I.write (x:=a) (e:=J) (by rw[e];exact True.intro) (.inr R) (λb q P z=>(T.2 b P).trans z) S ?_;refine⟨by rw[Yd O.ne];exact R,?_,O.ne,G.obj,_,G.ns,λg=>?_,λg F=>?_⟩
 .have:=Gf f y fs;omega
 .show Ud ((Vc f y fs).lookup g) (if g=f then some u else N g)
  rw[Ge]
  by_cases q:g=f
  .rw [Zn q,Zn q];exact B
  .rw [Zo q,Zo q];exact r g
 .by_cases q:g=f
  .rw [q];exact(W8 f y fs).1
  .refine (W8 f y fs).2 g (L g λz=>F ?_)
   show(if g=f then some u else N g)=none;rw[Zo q];exact z
def Inv.made(I:Inv X Z U H s):Inv X Z U (upd (upd H s.heap.objs.size<|.own<|s.heap.objs.size+1) (s.heap.objs.size+1)<|.ins C s.heap.objs.size [])
  {s with heap:=(s.heap.push W.emptyDict).push (W.instObj C s.heap.objs.size)}:=by
 have G:(s.heap.push W.emptyDict).get? s.heap.objs.size=some W.emptyDict:=ZW s.heap rfl
 have O:((s.heap.push W.emptyDict).push<|W.instObj C s.heap.objs.size).get? (s.heap.objs.size+1)=some (W.instObj C s.heap.objs.size):=by
  have:=ZW (s.heap.push W.emptyDict) (o:=W.instObj C s.heap.objs.size) rfl
  rwa [vi]at this
 have N:(s.heap.push W.emptyDict).Ns s.heap.objs.size (λ_=>none):=⟨W.emptyDict,#[],_,G,rfl,(λe M=>Zp M<|by simp),λ_=>rfl⟩;have R:=I.laid (a:=s.heap.objs.size) (o:=.own<|s.heap.objs.size+1) (h':=s.heap.push W.emptyDict) (t':=s.toks) (λb u q=>ZD _ q) (ZF _) ⟨_,G⟩;refine R.laid (a:=s.heap.objs.size+1) (o:=.ins C s.heap.objs.size []) (t':=s.toks) (λb u q=>ZD _ q) (vY<|vi _ _) ?_;have J:s.heap.objs.size≠s.heap.objs.size+1:=Zc<|vZ _;refine⟨by rw[Yd J,Ya],Za _,J,O,λ_=>none,(Heap.Ns1.of_empty N).at λo q=>ZD _ q,λ_=>True.intro,λy L=>Zp Y L⟩
def FO(J:attributeBase e f env (eval e env)=eval e env)(h:wpAny (model prog w) A (eval e env) (λo Z=>wpAny (model prog w) A (getAttr o f true) Q E Z) E s):wpAny (model prog w) A (eval (.Attribute e f pos) env) Q E s:=
 Attribute_any_ h (by rw[arm_eval_Attribute,J])
end
def SL(K:W.Frag)(ta:TE)(f:Str):TE:=λU H Q=>ta U H λx J=>Jb x λa=>∃C G Z v,J a=some (.ins C G Z)/\Cls K C/\JG K C f/\Z.lookup f=some v/\Q v J
def zx(K:W.Frag)(ta tv:TE)(f:Str):TS:=λD U H=>tv U H λy L=>ta U L λx G=>∃a C J Z,x=.ref a/\G a=some (.ins C J Z)/\Cls K C/\JG K C f/\Z.length<1000/\
 D.nx U (upd G a<|.ins C J<|Vc f y Z)
section
def Y8(L:PE X e ta)(M:attributeBase e f X.env (eval e X.env)=eval e X.env):PE X (.Attribute e f pos) (SL X.K ta f):=by
 intro Z s U H Q I h;refine FO M<|thn (L Z s U H _ I h) λu F ⟨x,B,T,J,q⟩=>?_;replace q:=Jb.old q;obtain⟨a,N,C,S,A,v,O,c,n,l,q⟩:=q;subst N;obtain rfl:u=Value.ref a:=J;exact EA T O c n l λD E R G=>⟨v,B,R,G,q⟩
def Jz(T:PE X o ta)(O:PE X value tv)(R:swapsWith value (some<|.Attribute o f pos') pos.line X.env=pure false):PS X (.Assign [.Attribute o f pos'] value pos) (zx X.K ta tv f):=by
 intro Z s U H D I h;refine plainObj_wpAny_Assign_Attribute (thn (O Z s U H _ I h) λu J ⟨y,P,S,G,q⟩=>thn (T Z J U P _ S q) λN j ⟨x,m,A,L,a,C,t,z,B,E,c,n,l,M⟩=>?_) R;subst B;obtain rfl:N=Value.ref a:=L;exact B0 A E c n l G λQ F=>⟨U,_,F,M⟩
end
section
variable{H:Hp}
inductive Xq(K:W.Frag)(H:Hp):V->Value->Prop where
 |non:Xq K H .non (.type "NoneType")
 |bl (x:Bool):Xq K H (.bl x) (.type "bool")
 |int (i:Int):Xq K H (.int i) (.type "int")
 |str (x:Str):Xq K H (.str x) (.type "str")
 |flt (x:UInt64):Xq K H (.flt x) (.type "float")
 |lst {a:Addr}{xs:List V}(e:H a=some (.lst xs)):Xq K H (.ref a) (.type "list")
 |frz {a:Addr}{o:Obj}{xs:List V}(e:H a=some (.frz o (.lst xs))):Xq K H (.ref a) (.type "list")
 |tup {a:Addr}{xs:List V}(e:H a=some (.tup xs)):Xq K H (.ref a) (.type "tuple")
 |dK {a:Addr}{kvs:List (Key×V)}(e:H a=some (.dK kvs)):Xq K H (.ref a) (.type "dict")
 |dT {a:Addr}{kvs:List (List Key×V)}(e:H a=some (.dT kvs)):Xq K H (.ref a) (.type "dict")
 |ins {a C dx:Addr}{fs:List (Str×V)}(e:H a=some (.ins C dx fs)) (cl:Cls K C) (ha:W.findIn K (.ref C) "__class__"=some (some (.builtin "object.__class__")))
   (hn:W.specialIn K (.builtin "object.__class__") "__get__"=some (some (.builtin "getset_descriptor.__get__"))) (htk:W.takesIn K (.builtin "object.__class__")=some true)
   (hm:W.mroIn K C (.type "object")=some true):Xq K H (.ref a) (.ref C)
def IR(I:Inv X B U H s)(Z:RelV x u)(ty:Xq X.K H x t)(e:W.kitOne X.K t c=some b)(h:∀F,Q (.bool b) {s with toks:=F}):
  wpAny (model X.prog X.w) A (call (.builtin "isinstance") [u,c]) Q E s:=by
 cases ty with
 |non=>cases(show u=Value.none from Z);exact vR W.kitx_none I.kIn True.intro e (λz=>nomatch z) h
 |bl y=>cases(show u=Value.bool y from Z);exact vR W.kitx_bool I.kIn True.intro e (λz=>nomatch z) h
 |int i=>obtain⟨t,q⟩:=(show ∃t,u=Value.int i t from Z);cases q;exact vR W.kitx_int I.kIn True.intro e (λz=>nomatch z) h
 |str y=>obtain⟨t,q⟩:=(show ∃t,u=Value.str y t from Z);cases q;exact vR W.kitx_str I.kIn True.intro e (λz=>nomatch z) h
 |flt y=>obtain⟨t,q⟩:=(show ∃t,u=Value.float y t from Z);cases q;exact vR W.kitx_float I.kIn True.intro e (λz=>nomatch z) h
 | @lst a N G=>
  cases(show u=Value.ref a from Z);obtain⟨_,_,n,_,L⟩:=(show Va X.prog X.w H s.heap a (.lst N)from I.hok a _ G);exact vR W.kitx_list I.kIn ⟨_,L,Y⟩ e (λz=>nomatch z) h
 | @frz a S N G=>
  cases(show u=Value.ref a from Z);obtain⟨_,_,_,n,_,L⟩:=(show Va X.prog X.w H s.heap a (.frz S<|.lst N)from I.hok a _ G);exact vR W.kitx_list I.kIn ⟨_,L,Y⟩ e (λz=>nomatch z) h
 | @tup a N G=>
  cases(show u=Value.ref a from Z);obtain⟨_,_,_,p⟩:=(show Va X.prog X.w H s.heap a (.tup N)from I.hok a _ G);obtain⟨o,L,_,R,_⟩:=p;exact vR W.kitx_tuple I.kIn ⟨o,L,R⟩ e (λz=>nomatch z) h
 | @dK a M G=>
  cases(show u=Value.ref a from Z);obtain⟨_,_,d,_,p⟩:=(show Va X.prog X.w H s.heap a (.dK M)from I.hok a _ G);obtain⟨o,g,k,L,R,_⟩:=p;exact vR W.kitx_dict I.kIn ⟨o,L,R.1⟩ e (λz=>nomatch z) h
 | @dT a M G=>
  cases(show u=Value.ref a from Z);obtain⟨_,_,N,_,o,g,k,L,R,_⟩:=(show Va X.prog X.w H s.heap a (.dT M)from I.hok a _ G);exact vR W.kitx_dict I.kIn ⟨o,L,R.1⟩ e (λz=>nomatch z) h
 | @ins a C r w G D m P T j=>
  cases(show u=Value.ref a from Z);obtain⟨v,O,_⟩:=TJ I.hok G;obtain⟨f,J,_⟩:=O.look;exact vR (W.kitx_own (D.get _) D.hd m P T j) I.kIn J e (λz=>nomatch z) h
end
structure Vj(k:Nat)(A:Around):Prop where
 hd:A.handled=none
 dp:A.depth+3*k+5<recursionLimit
 un:A.units+16*k+200<cLine
def Vj.mono(r:Vj k A)(h:j<=k):Vj j A:=⟨r.hd,by have:=r.dp;omega,by have:=r.un;omega⟩
def Vj.deeper(r:Vj (k+1) A)(Z:Env):Vj k (A.deeper Z):=
 ⟨r.hd,by have:=r.dp;show A.depth+1+3*k+5<_;omega,by have:=r.un;show A.units+3+16*k+200<_;omega⟩
def Vj.in1(r:Vj (k+1) A):Vj k A.in1:=
 ⟨r.hd,by have:=r.dp;show A.depth+3*k+5<_;omega,by have:=r.un;show A.units+1+16*k+200<_;omega⟩
def Dz{A:Around}:(A.under<|.builtin "type.__call__" ⟨.ref C::Z,kw⟩).depth=A.depth+1:=by
 first|rfl|simp[Around.under,Code.weight,Code.isCreation,Code.isGuard,Code.isCaller,Code.frames,Code.isFrame,guardIds]
def Dy{A:Around}:(A.under<|.builtin "type.__call__" ⟨.ref C::Z,kw⟩).units=A.units+1:=by
 first|rfl|simp[Around.under,Code.cUnits,Code.frames,Code.isFrame]
def Vj.make(r:Vj (k+1) A)(C:Addr)(Z:kj)(J:List (Str×Value)):Vj k (A.under<|.builtin "type.__call__" ⟨.ref C::Z,J⟩):=
 ⟨r.hd,by have:=r.dp;rw[Dz];omega,by have:=r.un;rw[Dy];omega⟩
def Vj.depth(r:Vj k A):A.depth<recursionLimit:=by have:=r.dp;omega
def Vj.units(r:Vj k A):A.units+64<cLine:=by have:=r.un;omega
def Vj.units0(r:Vj k A):A.units<cLine:=by have:=r.un;omega
def Gn:TA:=λ_ H Q=>Q [] H
def V6(ta:TE)(tr:TA):TA:=λU H Q=>ta U H λx G=>tr U G λZ J=>Q (x::Z) J
section
variable{t:TA}
def Vd:PA X [] Gn:=λ_ _ _ _ H Q I h=>Calls.spliced_nil ⟨[],H,I,.nil,h⟩
def Y9(D:PE X e te)(B:PA X J t)(T:starEach (e::J) X.env=(false,eval e X.env)::starEach J X.env:=by rfl):PA X (e::J) (V6 te t):=by
 intro pos Z s U H Q I h;rw[T];show wpAny _ _ (spliced ((false,eval e X.env)::backTo pos (starEach J X.env))) _ _ s;refine Calls.spliced_cons<|thn (D Z s U H _ I h) λu L ⟨x,S,F,N,R⟩=>?_;exact thn (B pos Z L U S _ F R) λC P ⟨G,A,E,M,O⟩=>⟨x::G,A,E,.cons N M,O⟩
def pa1(J:PE X e0 t0)(Z:starEach [e0] X.env=(false,eval e0 X.env)::starEach [] X.env:=by rfl):PA X [e0] (V6 t0<|Gn):=Y9 J (Vd) Z
def pa2(L:PE X e0 t0)(G:PE X e1 t1)(J:starEach [e0,e1] X.env=(false,eval e0 X.env)::starEach [e1] X.env:=by rfl)(Z:starEach [e1] X.env=(false,eval e1 X.env)::starEach [] X.env:=by rfl):PA X [e0,e1] (V6 t0<|V6 t1<|Gn):=Y9 L (Y9 G (Vd) Z) J
def pa3(N:PE X e0 t0)(M:PE X e1 t1)(L:PE X e2 t2)(G:starEach [e0,e1,e2] X.env=(false,eval e0 X.env)::starEach [e1,e2] X.env:=by rfl)(J:starEach [e1,e2] X.env=(false,eval e1 X.env)::starEach [e2] X.env:=by rfl)(Z:starEach [e2] X.env=(false,eval e2 X.env)::starEach [] X.env:=by rfl):PA X [e0,e1,e2] (V6 t0<|V6 t1<|V6 t2<|Gn):=Y9 N (Y9 M (Y9 L (Vd) Z) J) G
def pa4(R:PE X e0 t0)(O:PE X e1 t1)(N:PE X e2 t2)(M:PE X e3 t3)(L:starEach [e0,e1,e2,e3] X.env=(false,eval e0 X.env)::starEach [e1,e2,e3] X.env:=by rfl)(G:starEach [e1,e2,e3] X.env=(false,eval e1 X.env)::starEach [e2,e3] X.env:=by rfl)(J:starEach [e2,e3] X.env=(false,eval e2 X.env)::starEach [e3] X.env:=by rfl)(Z:starEach [e3] X.env=(false,eval e3 X.env)::starEach [] X.env:=by rfl):PA X [e0,e1,e2,e3] (V6 t0<|V6 t1<|V6 t2<|V6 t3<|Gn):=Y9 R (Y9 O (Y9 N (Y9 M (Vd) Z) J) G) L
def pa5(B:PE X e0 t0)(T:PE X e1 t1)(R:PE X e2 t2)(O:PE X e3 t3)(N:PE X e4 t4)(M:starEach [e0,e1,e2,e3,e4] X.env=(false,eval e0 X.env)::starEach [e1,e2,e3,e4] X.env:=by rfl)(L:starEach [e1,e2,e3,e4] X.env=(false,eval e1 X.env)::starEach [e2,e3,e4] X.env:=by rfl)(G:starEach [e2,e3,e4] X.env=(false,eval e2 X.env)::starEach [e3,e4] X.env:=by rfl)(J:starEach [e3,e4] X.env=(false,eval e3 X.env)::starEach [e4] X.env:=by rfl)(Z:starEach [e4] X.env=(false,eval e4 X.env)::starEach [] X.env:=by rfl):PA X [e0,e1,e2,e3,e4] (V6 t0<|V6 t1<|V6 t2<|V6 t3<|V6 t4<|Gn):=Y9 B (Y9 T (Y9 R (Y9 O (Y9 N (Vd) Z) J) G) L) M
def pa6(E:PE X e0 t0)(D:PE X e1 t1)(B:PE X e2 t2)(T:PE X e3 t3)(R:PE X e4 t4)(O:PE X e5 t5)(N:starEach [e0,e1,e2,e3,e4,e5] X.env=(false,eval e0 X.env)::starEach [e1,e2,e3,e4,e5] X.env:=by rfl)(M:starEach [e1,e2,e3,e4,e5] X.env=(false,eval e1 X.env)::starEach [e2,e3,e4,e5] X.env:=by rfl)(L:starEach [e2,e3,e4,e5] X.env=(false,eval e2 X.env)::starEach [e3,e4,e5] X.env:=by rfl)(G:starEach [e3,e4,e5] X.env=(false,eval e3 X.env)::starEach [e4,e5] X.env:=by rfl)(J:starEach [e4,e5] X.env=(false,eval e4 X.env)::starEach [e5] X.env:=by rfl)(Z:starEach [e5] X.env=(false,eval e5 X.env)::starEach [] X.env:=by rfl):PA X [e0,e1,e2,e3,e4,e5] (V6 t0<|V6 t1<|V6 t2<|V6 t3<|V6 t4<|V6 t5<|Gn):=Y9 E (Y9 D (Y9 B (Y9 T (Y9 R (Y9 O (Vd) Z) J) G) L) M) N
def za(t:TA):TE:=λU H Q=>t U H λZ J=>Z.length<=sizeLine/\∀p,J p=none->Q (.ref p) (upd J p<|.tup Z)
def zm(t:TA):TE:=λU H Q=>t U H λZ J=>Z.length<=sizeLine/\∀p,J p=none->Q (.ref p) (upd J p<|.lst Z)
def Y0(h:PA X T t):PE X (.Tuple T x1 pos) (za t):=by
 intro Z s U H Q I O;refine wpAny_Tuple_spliced<|thn (h pos Z s U H _ I O) λN J ⟨M,L,G,r,z,q⟩=>⟨by rw[<-r.length];exact z,?_⟩;have R:L J.heap.objs.size=none:=G.hok.fresh<|ZF _;refine⟨.ref J.heap.objs.size,upd L J.heap.objs.size<|.tup M,G.laid (t':=J.toks) (λb u e=>ZD _ e) (ZF _) ?_,rfl,q _ R⟩;exact⟨z,N,r,⟨_,ZW _ Y,Y,Y,_,Y⟩⟩
def Vv(h:PA X T t):PE X (.List T pos) (zm t):=by
 intro Z s U H Q I O;refine wpAny_List_spliced<|thn (h pos Z s U H _ I O) λN J ⟨M,L,G,r,z,q⟩=>⟨by rw[<-r.length];exact z,?_⟩;have R:L J.heap.objs.size=none:=G.hok.fresh<|ZF _;refine⟨.ref J.heap.objs.size,upd L J.heap.objs.size<|.lst M,G.laid (t':=J.toks) (λb u e=>ZD _ e) (ZF _) ?_,rfl,q _ R⟩;exact⟨z,N,0,r,ZW _ Y⟩
end
abbrev Sp:=List V->Hp->VK->XK->Prop
abbrev CXT:=List Env->Hp->Shared->XK->Value->Shared->Prop
structure EQ(P:Program)(w:World)(K:W.Frag)(mg:Str->Option Value)(base:Heap)(A:Around)(outer:List Env)(s:Shared)(H:Hp):Prop where
 frames:A.frames=some outer
 mod:Mod K mg base
 bs:∀b o,base.get? b=some o->s.heap.get? b=some o/\H b=none
 bsz:base.objs.size<=s.heap.objs.size
 funs:s.heap.FunFrames base outer
 frf:∀b∈frs outer,H b=none
 hok:HOk P w H s.heap
 bare:AllBare s.gens
def CE(outer:List Env)(P:Program)(w:World)(H:Hp)(s:Shared)(Q:VK)(u:Value)(s':Shared):Prop:=
 ∃v Z,s'.os=s.os/\AllBare s'.gens/\Un (frs outer) [] H Z s.heap s'.heap/\HOk P w Z s'.heap/\RelV v u/\Q v Z
def CR(CX:CXT)(outer:List Env)(P:Program)(w:World)(H:Hp)(s:Shared)(Q:VK)(E:XK)(r:Result)(s':Shared):Prop:=
 match r with
 |.ok (.ret u)=>CE outer P w H s Q u s'
 |.ok _=>False
 |.error e=>CX outer H s E e s'
structure Yh(P:Program)(w:World)(K:W.Frag)(mg:Str->Option Value)(base:Heap)(CX:CXT)(k:Nat)(f:Addr)(fd:FuncData)(ps:List Str)(sp:Sp):Prop where
 len:∀vs H Q E,sp vs H Q E->vs.length=ps.length
 run:∀(A:Around)(outer:List Env)(s:Shared)(H:Hp)(args:Args)(us:List Value)(vs:List V)(Q:VK)(E:XK),Vj k A->EQ P w K mg base A outer s H->BindsTo s fd args (ps.zip us)->Vals vs us->sp vs H Q E->
  codeAny (model P w) A (.call (.ref f) args) (CR CX outer P w H s Q E) s
def Yh.mono{K:W.Frag}(F:Yh P w K N base CX j f R M L)(h:j<=k):
  Yh P w K N base CX k f R M L:=⟨F.len,λA Z s H args G J Q E O=>F.run A Z s H args G J Q E<|O.mono h⟩
def EQ.make{K:W.Frag}(e:EQ P w K J base A outer s H)(C:Addr)(Z:kj)(G:List (Str×Value)):
  EQ P w K J base (A.under<|.builtin "type.__call__" ⟨.ref C::Z,G⟩) outer s H:=⟨by first|exact e.frames|(simpa[Around.under,Code.envs,Code.isFrame,pushEnvs]using e.frames),e.mod,e.bs,e.bsz,e.funs,e.frf,e.hok,e.bare⟩
section
def Inv.env0(I:Inv X Z U H s):EQ X.prog X.w X.K X.mg X.base X.A X.stack s H:=
 ⟨I.ok.frames,I.ok.mod,I.bs,ZZ I.ok.bsz I.sz,I.stack,I.stkFree,I.hok,I.bare⟩
def Inv.after(I:Inv X Z U H s)(h:CE X.stack X.prog X.w H s Q u L):EP X Z U Q u L:=by
 obtain⟨v,R,N,bare,M,G,r,q⟩:=h;obtain⟨O,g,d,t,J⟩:=L;obtain rfl:J=s.os:=N;exact⟨v,R,I.call (h':=O) (g':=g) (d':=d) (t':=t) (ch:=[]) M G bare (λb z=>Zp z<|by simp),r,q⟩
end
def Ka(sp:Sp)(dvs:kF)(E:XK)(t:TA):TE:=λU H Q=>t U H λZ J=>sp (Z++ dvs) J Q E
def KQ(C:Addr)(m:Str)(sp:Sp)(dvs:kF)(E:XK)(ta:TE)(t:TA):TE:=λU H Q=>ta U H λx J=>Jb x λa=>∃L Z,J a=some (.ins C L Z)/\Z.lookup m=none/\
 t U J λG M=>sp (x::(G++ dvs)) M Q E
def CH(C:Addr)(sp:Sp)(dvs:kF)(E:XK)(t:TA):TE:=λU H Q=>t U H λG J=>∀x Z,J x=none->J Z=none->Z≠x->
 sp (.ref x::(G++ dvs)) (upd (upd J Z<|.own x) x<|.ins C Z []) (λv L=>v=.non/\Q (.ref x) L) E
def Binds(K:W.Frag)(fd:FuncData)(ps:kq)(ds:kj):Prop:=
 ∀(s:Shared)(Z:kj),K.In s.heap->(Z++ ds).length=ps.length->BindsTo s fd ⟨Z,[]⟩ (ps.zip<|Z++ ds)
def Binds.all{K:W.Frag}(h:∀Z:kj,Z.length=J.length->bindArgs L ⟨Z,[]⟩=pure (J.zip Z)):Binds K L J []:=λs Z _ G=>by
 rw[vE]at G |-;exact .of_eq<|h Z G
def Ub(CX:CXT)(X:Cx)(E:XK):Prop:=∀(Z:kb)(U:St)(H:Hp)(s:Shared)(e:Value)(J:Shared),Inv X Z U H s->CX X.stack H s E e J->X.xe e J
section
variable{f C:Addr}
def Mz(F:Yh X.prog X.w X.K X.mg X.base CX k f P M N)(T:Vj k X.A)(A:Binds X.K P M G)(D:Vals dvs G)(R:Ub CX X E)(I:Inv X Z U H s)(r:Vals vs us)(h:N (vs++ dvs) H Q E):wpAny (model X.prog X.w) X.A (call (.ref f) us) (EP X Z U Q) X.xe s:=by
 have L:Vals (vs++ dvs) (us++ G):=r.append D;have B:(us++ G).length=M.length:=by rw[<-L.length];exact F.len _ _ _ _ h
 refine wpAny_call<|jb (F.run X.A X.stack s H ⟨us,[]⟩ (us++ G) (vs++ dvs) Q E T I.env0 (A s us I.kIn B) L h) λr O J=>?_
 cases r with
 |error e=>exact R Z U H s e O I J
 |ok S=>
  cases S with
  |ret u=>exact I.after J
  |next=>exact False.elim J
  |brk=>exact False.elim J
  |cont=>exact False.elim J
def Xx(F:Yh X.prog X.w X.K X.mg X.base CX k f z O N)(T:Vj k X.A)(A:Gl X x)(B:X.mg x=some (.ref f))(D:W.keepIn X.K (.ref f)=true)(j:Binds X.K z O m)(P:Vals dvs m)(R:Ub CX X E)(y:PA X (e::J) t)(L:(x==("__debug__":Str))=false:=by decide)(S:starEach (e::J) X.env=(false,eval e X.env)::starEach J X.env:=by rfl)(G:(backTo pos<|starEach J X.env).any (·.1)=false:=by rfl):
  PE X (.Call (.Name x p) (e::J) [] pos) (Ka N dvs E t):=by
 intro Z s U H Q I h;refine vI<|Uk I A B ?_ L;refine jq (h₀:=X.base) I.ok.mod.kin D (thn (y pos Z s U H _ I h) λc d ⟨g,u,M,r,q⟩=>⟨M.kIn,?_⟩) S G;exact Mz F T j P R M r q
def Vg(y:PE X o ta)(c:Cls X.K C)(M:Vk X.K C m f)(F:Yh X.prog X.w X.K X.mg X.base CX k f d A R)(j:Vj k X.A)(g:Binds X.K d A b)(z:Vals dvs b)(S:Ub CX X E)(p:PA X (e::J) t)(G:starEach (e::J) X.env=(false,eval e X.env)::starEach J X.env:=by rfl)(L:(backTo pos<|starEach J X.env).any (·.1)=false:=by rfl)(P:eval (.Call (.Attribute o m apos) (e::J) [] pos) X.env=(do
   let ov <-eval o X.env
   standAt apos.atName
   let(f,first) <-holding [ov] (getMethod ov m pl)
   callWith pos f first (backTo pos<|starEach (e::J) X.env) (backToKw pos<|keywordEach [] X.env)):=by rfl):
  PE X (.Call (.Attribute o m apos) (e::J) [] pos) (KQ C m R dvs E ta t):=by
 intro Z s U H Q I h;refine W.methodCall_KW (pl:=pl) (thn (y Z s U H _ I h) λu T ⟨x,i,O,B,q⟩=>?_) P;replace q:=Jb.old q;obtain⟨a,v,dx,fs,w,l,q⟩:=q;subst v;obtain rfl:u=Value.ref a:=B;refine WH O w c M l ?_;refine jq (first:=[.ref a]) (h₀:=X.base) I.ok.mod.kin M.kp (thn (p pos Z T U i _ O q) λus n ⟨vs,H2,N,r,D⟩=>⟨N.kIn,?_⟩) G L;exact Mz (us:=.ref a::us) (vs:=.ref a::vs) F j g z S N (.cons Y r) D
def VW(B:PE X o ta)(c:Cls X.K C)(G:Vk X.K C m f)(F:Yh X.prog X.w X.K X.mg X.base CX k f S N L)(T:Vj k X.A)(A:Binds X.K S N y)(D:Vals dvs y)(O:Ub CX X E)(R:eval (.Call (.Attribute o m apos) [] [] pos) X.env=(do
   let ov <-eval o X.env
   standAt apos.atName
   let(f,first) <-holding [ov] (getMethod ov m pl)
   callWith pos f first (backTo pos<|starEach [] X.env) (backToKw pos<|keywordEach [] X.env)):=by rfl):
  PE X (.Call (.Attribute o m apos) [] [] pos) (KQ C m L dvs E ta Gn):=by
 intro Z s U H Q I h;refine W.methodCall_KW (pl:=pl) (thn (B Z s U H _ I h) λu z ⟨x,p,J,M,q⟩=>?_) R;replace q:=Jb.old q;obtain⟨a,P,g,t,j,l,q⟩:=q;subst P;obtain rfl:u=Value.ref a:=M;refine WH J j c G l ?_;exact W.callWith_K0 (first:=[.ref a]) J.kIn G.kp<|Mz (us:=[.ref a]) (vs:=[.ref a]) F T A D O J (.cons rfl .nil) q
structure Mk(K:W.Frag)(C f:Addr):Prop where
 makes:W.makesIn K C=true
 init:W.findIn K (.ref C) "__init__"=some (some (.ref f))
 fn:W.isFn K (.ref f)=true
 kp:W.keepIn K (.ref C)=true
def LD(M:Mk X.K C f)(F:Yh X.prog X.w X.K X.mg X.base CX k f p B A)(z:Vj (k+1) X.A)(m:Binds X.K p B N)(t:Vals dvs N)(y:Ub CX X E)(I:Inv X G U H s)(r:Vals R J)(h:∀x L,H x=none->H L=none->L≠x->A (.ref x::(R++ dvs)) (upd (upd H L<|.own x) x<|.ins C L []) (λv w=>v=.non/\Q (.ref x) w) E):
  wpAny (model X.prog X.w) X.A (call (.ref C) J) (EP X G U Q) X.xe s:=by
 have D:=h (s.heap.objs.size+1) s.heap.objs.size (I.hok.fresh<|jr _) (I.hok.fresh<|ZF _)<|Zc<|vZ _;have O:=Inv.made (C:=C) I;have T:Vals (V.ref (s.heap.objs.size+1)::(R++ dvs)) (Value.ref (s.heap.objs.size+1)::(J++ N)):=.cons rfl (r.append t)
 have q:(Value.ref (s.heap.objs.size+1)::J++ N).length=B.length:=by
  have e:=T.length;rw[F.len _ _ _ _ D]at e;exact e.symm
 refine wpAny_call (BG (f:=f) I.kIn M.makes M.init (beq_iff_eq.mp M.fn) (jb (F.run _ X.stack _ _ ⟨Value.ref (s.heap.objs.size+1)::J,[]⟩ (Value.ref (s.heap.objs.size+1)::(J++ N)) _ _ E (z.make C J [])
  (O.env0.make C J []) (m _ (Value.ref (s.heap.objs.size+1)::J) O.kIn q) T D) λr S Z=>?_))
 cases r with
 |error e=>exact y G U _ _ e S O Z
 |ok g=>
  cases g with
  |ret u=>
   obtain⟨v,l,d,P,c,j⟩:=O.after Z;subst c;exact⟨P,⟨V.ref<|s.heap.objs.size+1,l,d,rfl,j⟩⟩
  |next=>exact False.elim Z
  |brk=>exact False.elim Z
  |cont=>exact False.elim Z
def M7(M:Mk X.K C f)(F:Yh X.prog X.w X.K X.mg X.base CX k f z R O)(B:Vj (k+1) X.A)(A:Gl X x)(D:X.mg x=some (.ref C))(j:Binds X.K z R m)(P:Vals dvs m)(T:Ub CX X E)(y:PA X (e::J) t)(L:(x==("__debug__":Str))=false:=by decide)(S:starEach (e::J) X.env=(false,eval e X.env)::starEach J X.env:=by rfl)(G:(backTo pos<|starEach J X.env).any (·.1)=false:=by rfl):
  PE X (.Call (.Name x p) (e::J) [] pos) (CH C O dvs E t):=by
 intro Z s U H Q I h;refine vI<|Uk I A D ?_ L;refine jq (h₀:=X.base) I.ok.mod.kin M.kp (thn (y pos Z s U H _ I h) λc d ⟨g,u,N,r,q⟩=>⟨N.kIn,?_⟩) S G;exact LD M F B j P T N r q
end
structure Yn(N P:List Str)(sc:Scope):Prop where
 kind:sc.kind=.function
 co:sc.isCoroutine=false
 gen:sc.isGenerator=false
 nd:N.Nodup
 pre:N.take P.length=P
 par:∀x∈P,sc.names.lookup x=some .local\/sc.names.lookup x=some .cell
 nofree:∀y∈sc.names,y.2≠.free
theorem MJ{kindOf:Str->Option NameKind}:∀{binds:List (Str×Value)}{m:Str->Option Value},(∀v,(x,v)∉binds)->bindL kindOf binds m x=m x
 |[],_,_=>rfl
 |(n,v)::r,m,h=>by
  unfold bindL;rw[MJ λw Z=>h w (ZK _ Z)]
  split
  .have:x≠n:=by rintro rfl;exact h v ZY
   simp[this]
  .rfl
theorem ML{kindOf:Str->Option NameKind}:∀{binds:List (Str×Value)}{m:Str->Option Value},(∀v,(x,v)∉binds)->bindC kindOf binds m x=m x
 |[],_,_=>rfl
 |(n,v)::r,m,h=>by
  unfold bindC;rw[ML λw Z=>h w (ZK _ Z)]
  split
  .rfl
  .have:x≠n:=by rintro rfl;exact h v ZY
   simp[this]
theorem MK{kindOf:Str->Option NameKind}:∀{P:kq}{Z:kj}{i:Nat}{m:Str->Option Value},P.Nodup->P[i]?=some x->Z[i]?=some v->kindOf x=some .local->
  bindL kindOf (P.zip Z) m x=some v
 |[],_,_,_,_,h,_,_=>by simp at h
 |_::_,[],_,_,_,_,h,_=>by simp at h
 |p::P,w::Z,0,m,nd,h1,h2,hk=>by
  simp at h1 h2;subst h1;subst h2;show bindL kindOf ((p,w)::P.zip Z) m p=_;unfold bindL;rw[MJ λv J=>(yt.mp nd).1 (jy J).1,Zn hk];simp
 |p::P,w::Z,i+1,m,nd,h1,h2,hk=>by
  show bindL kindOf ((p,w)::P.zip Z) m x=_;unfold bindL;exact MK (i:=i) (yt.mp nd).2 (by simpa using h1) (by simpa using h2) hk
theorem MN{kindOf:Str->Option NameKind}:∀{P:kq}{Z:kj}{i:Nat}{m:Str->Option Value},P.Nodup->P[i]?=some x->Z[i]?=some v->kindOf x≠some .local->
  bindC kindOf (P.zip Z) m x=some v
 |[],_,_,_,_,h,_,_=>by simp at h
 |_::_,[],_,_,_,_,h,_=>by simp at h
 |p::P,w::Z,0,m,nd,h1,h2,hk=>by
  simp at h1 h2;subst h1;subst h2;show bindC kindOf ((p,w)::P.zip Z) m p=_;unfold bindC;rw[ML λv J=>(yt.mp nd).1 (jy J).1,Zo hk];simp
 |p::P,w::Z,i+1,m,nd,h1,h2,hk=>by
  show bindC kindOf ((p,w)::P.zip Z) m x=_;unfold bindC;exact MN (i:=i) (yt.mp nd).2 (by simpa using h1) (by simpa using h2) hk
def start(N:kq)(vs:kF):St:=vs.map some++ List.replicate (N.length-vs.length) none
def Vi(CX:CXT)(P:Program)(w:World)(K:W.Frag)(mg:Str->Option Value)(base:Heap)(N:kq)(qual:Str)(scope:Scope)(f:Addr)(cd:Value)(A:Around)(outer:List Env)(s:Shared)(H:Hp)(E:XK):Cx where
 prog:=P
 w:=w
 K:=K
 mg:=mg
 base:=base
 A:=A.deeper (envOfC qual scope s.heap.objs.size f cd)
 N:=N
 s₀:=s
 H₀:=H
 env:=envOfC qual scope s.heap.objs.size f cd
 outer:=outer
 stack:=envOfC qual scope s.heap.objs.size f cd::outer
 ex:=[]
 calm:=true
 fn:=λ_=>true
 pn:=[]
 xe:=λe J=>wpAny (model P w) (A.deeper<|envOfC qual scope s.heap.objs.size f cd) (leaving (envOfC qual scope s.heap.objs.size f cd) e) (λ_ Z=>CX outer H s E e Z) (λG Z=>CX outer H s E G Z) J
def Bf{Z:Scope}(h:Z.names.lookup x=some .cell):∃c,(cellsFrom n Z.names []).lookup x=some c:=by
 have q:=W.cellsFrom_some Z.names n []<|.inl h;exact jO.mp q
def IS{C:CXT}{P:Program}{w:World}{K:W.Frag}(S:Yn N O scope)(j:A.handled=none)(J:EQ P w K F base A outer s H)(g:M.length=O.length)(r:Vals M D)(x:InCallC s s.heap.objs.size (bindL (envOfC qual scope s.heap.objs.size f cd).kindOf (O.zip D) λ_=>none) (cellsFrom (s.heap.objs.size+1) scope.names []) (bindC (envOfC qual scope s.heap.objs.size f cd).kindOf (O.zip D) λ_=>none) s1):
  Inv (Vi C P w K F base N qual scope f cd A outer s H E) [] (start N M) H s1:=by
 have Q:O.length<=N.length:=by have:=congrArg List.length S.pre;rw[ZL]at this;omega
 obtain⟨B,m,rfl,U⟩:=x.done;have G:∀b:Addr,b∉(Vi C P w K F base N qual scope f cd A outer s H E).ex:=λb z=>Zp (show b∈([]:kA)from z) (by simp);refine⟨⟨J.mod,S.kind,Y,Y,ZF _,λy z c B Z=>?_,λy L=>?_,λy c _ h=>?_,λ_=>j,Around.frames_deeper J.frames,.inr ⟨Y,Y⟩,λb z=>Zp z<|G b,J.bs,J.bsz,λb _ _=>G b,λb z=>Zp z<|G b,J.funs,J.frf⟩,
  rfl,J.bare,Un.kept U,⟨_,x.toInCall.ns,λi y v B Z d=>?_⟩,λy c h=>⟨_,x.cell y c h⟩,J.hok.fresh<|ZF _,λy c h=>?_,λp T=>Zp (show p∈([]:kb)from T) (by simp),J.hok.kept U,?_⟩
 .exact name_of_addr x.apart (vL B) (vL Z)
 .have L:scope.names.lookup y=some .cell\/scope.names.lookup y=some .free:=L
  rcases L with L|L
  .exact Bf L
  .exact Zp rfl (S.nofree _<|vL L)
 .exact Zf (x.above y c<|vL h)
 .have hi:i<M.length:=by
   unfold start at Z
   by_cases hi:i<M.length
   .exact hi
   .rw [yp (by simpa using hi)]at Z
    rw[vM]at Z
    split at Z <;> cases Z
  have t:M[i]?=some v:=by
   unfold start at Z;rw[yk (by simpa using hi),ZG]at Z
   cases e:M[i]? with
   |none=>rw[e]at Z;cases Z
   |some a=>rw[e]at Z;cases Z;rfl
  obtain⟨u,I,X⟩:=r.get t
  have T:O[i]?=some y:=by
   rw[<-S.pre,List.getElem?_take_of_lt (by omega)];exact B
  have R:O.Nodup:=by rw[<-S.pre];exact S.nd.sublist<|vm _ _
  exists u,X;rcases S.par y (ZH T)with k|k
  .exact .inl ⟨k,MK R T I k⟩
  .obtain ⟨c,e⟩:=Bf (n:=s.heap.objs.size+1) k
   refine .inr ⟨.inl k,c,e,?_⟩;have q:=x.cell y c e;rw[MN R T I (by show scope.names.lookup y≠_;rw[k];decide)]at q;exact q
 .exact J.hok.fresh (Zf<|x.above y c<|vL h)
 .unfold start
  show _=N.length;rw[ZJ,ZA,List.length_replicate];omega
def Q2{j:CXT}{P:Program}{K:W.Frag}{dV kV C a G ct oc:Value}(lk:K.lookup f=some ⟨oc,od,.func<|W.fnOf name qual params body scope dV kV C a an G ct,osl⟩)(l:W.codeIn K G qual=true)(S:Yn N g scope)(B:∀L H Q E,i L H Q E->L.length=g.length)(R:∀(A:Around)(Z:List Env)(s:Shared)(H:Hp)(L:kF)(Q:VK)(E:XK),Vj k (A.deeper<|envOfC qual scope s.heap.objs.size f G)->i L H Q E->
   ∃t,PSs (Vi j P w K p base N qual scope f G A Z s H E) body t/\t {nx:=λ_ M=>Q .non M,rt:=Q} (start N L) H):
  Yh P w K p base j (k+1) f (W.fnOf name qual params body scope dV kV C a an G ct) g i:=by
 refine⟨B,λA Z s H args us L Q E d U hb r D=>?_⟩;have hl:=B _ _ _ _ D;have KX:K.In s.heap:=U.mod.kin.keeps λb o e=>(U.bs b o e).1;have c:s.heap.NoLimit:=U.mod.nolimit.keeps λb o e=>(U.bs b o e).1
 have O:∀y∈g.zip us,scope.names.lookup y.1=some .local\/(scope.names.lookup y.1=some .cell/\((cellsFrom (s.heap.objs.size+1) scope.names []).lookup y.1).isSome=true):=λ⟨n,v⟩ hy=>by
  rcases S.par n (jy hy).1 with q|q
  .exact .inl q
  .exact .inr ⟨q,W.cellsFrom_some _ _ _<|.inl q⟩
 refine codeAny_call_function d.depth (KX _ _ lk) Y S.co S.gen Y (W.codeRec_of KX l) (hb _ _ _ _ ?_);refine wpAny_newFunctionEnv_cells S.kind O λZ8 he h x=>?_;subst he;refine⟨c.keeps x.toInCall.keep,codeAny_func ?_⟩;obtain⟨t,ht,hq⟩:=R A Z s H L Q E (d.deeper _) D;have I:Inv (Vi j P w K p base N qual scope f G A Z s H E) [] (start N L) H h:=IS S d.hd U hl r x;refine Zl (ht [] h (start N L) H _ I hq) (λfl z T=>?_) λe z T=>T
 have F:∀{X:St}{M:Hp}{v:V}{u:Value},Inv (Vi j P w K p base N qual scope f G A Z s H E) [] X M z->RelV v u->Q v M->CE Z P w H s Q u z:=
  λ{X M v u} J m q=>⟨v,M,J.os,J.bare,J.base,J.hok,m,q⟩
 cases fl with
 |ret u=>
  obtain⟨v,X,M,J,m,q⟩:=T;exact F J m q
 |next=>
  obtain⟨X,M,J,q⟩:=T;exact F (v:=V.non) (u:=Value.none) J Y q
 |brk=>
  obtain⟨_,_,_,q⟩:=T;exact False.elim q
 |cont=>
  obtain⟨_,_,_,q⟩:=T;exact False.elim q
end L2
namespace L2
open PySem PySem.Spec PyProof.Rows
section
variable{t:TA}{id T:String}{r:List V->Hp->VK->Prop}
def tCB(r:List V->Hp->VK->Prop)(t:TA):TE:=λU H Q=>t U H λZ J=>r Z J Q
def Yr(S:UF X (.builtin id) r)(A:Gl X x)(F:X.mg x=none)(D:bootBuiltins x=some (.builtin id))(C:PA X (e::J) t)(E:x≠"__name__":=by decide)(L:(x==("__debug__":Str))=false:=by decide)(he:starEach (e::J) X.env=(false,eval e X.env)::starEach J X.env:=by rfl)(G:(backTo pos<|starEach J X.env).any (·.1)=false:=by rfl):PE X (.Call (.Name x p) (e::J) [] pos) (tCB r t):=by
 intro Z s U H Q I h;refine vI<|W5 I A F D ?_ E L;exact PyProof.Rows.callWith_builtin1 (thn (C pos Z s U H _ I h) λN O ⟨M,j,P,R,B⟩=>S Z O U j M N Q P R B) he G
def VB(C:UF X (.type T) r)(A:Gl X x)(F:X.mg x=none)(D:bootBuiltins x=some (.type T))(P:PA X (e::J) t)(E:x≠"__name__":=by decide)(L:(x==("__debug__":Str))=false:=by decide)(S:starEach (e::J) X.env=(false,eval e X.env)::starEach J X.env:=by rfl)(G:(backTo pos<|starEach J X.env).any (·.1)=false:=by rfl):PE X (.Call (.Name x p) (e::J) [] pos) (tCB r t):=by
 intro Z s U H Q I h;refine vI<|W5 I A F D ?_ E L;exact vS (thn (P pos Z s U H _ I h) λN O ⟨M,y,j,R,B⟩=>C Z O U y M N Q j R B) S G
end
end L2
namespace HT
open PySem PyProof.Rows
section
open PySem.SeqAt
open PySem.AutoSeq1 (wpAny_loadPart')
open PySem.MeetsSeq PySem.MeetsSeq2 PySem.MeetsSeq3
end
section
def cat_tup(X:IsTup s.heap t G.toArray)(P:IsTup s.heap b Z.toArray)(F:G≠[])(y:Z=[]->Q (.ref t) s)(j:Z≠[]->Q (.ref s.heap.objs.size) {s with heap:=s.heap.push {cls:=.type "tuple",data:=.seq (G++ Z).toArray}})(T:G.length+Z.length<=sizeLine):wpAny (model prog w) A (binaryOp .Add (.ref t)<|.ref b) Q E s:=by
 obtain⟨⟨B,U,data,sl⟩,R,S,n,I⟩:=id X;obtain⟨⟨C,O,data2,L⟩,J,N,D,M⟩:=id P;simp only at S I N M;subst S I N M;have e:G.toArray++ Z.toArray=(G++ Z).toArray:=by simp
 by_cases hw:Z=[]
 .exact concat_meets ⟨_,R,rfl⟩ ⟨_,J,rfl⟩ noFill_tuple_add seq_tuple_add jW jR (jP _ _)
   (tuple_addW1 t b G.toArray Z.toArray n D U O sl L (by simpa using F)<|by simp[hw]) ⟨R,J,y hw⟩
 .refine concat_meets ⟨_,R,rfl⟩ ⟨_,J,rfl⟩ noFill_tuple_add seq_tuple_add jW jR (jP _ _)
   (tuple_addW2 t b G.toArray Z.toArray n D U O sl L (by simpa using F) (by simpa using hw) (by rw[ZM,ZM];exact T)) ⟨R,J,?_⟩
  rw[e];exact j hw
def sIx(n d:Nat):Option Int->Nat
 |none=>d
 |some v=>if v<0 then(v+(n:Int)).toNat else min v.toNat n
def sIx_none(n d:Nat):sIx n d none=d:=rfl
def sIx_nat(n d k:Nat):sIx n d (some (k:Int))=min k n:=by
 show(if(k:Int)<0 then((k:Int)+(n:Int)).toNat else min (k:Int).toNat n)=min k n;rw[Zo (by omega),je]
def Su(n d:Nat)(Z:d<=n)(o:Option Int):sIx n d o<=n:=by
 cases o with
 |none=>exact Z
 |some v=>
  show(if v<0 then(v+(n:Int)).toNat else min v.toNat n)<=n
  by_cases hv:v<0
  .rw [Zn hv];omega
  .rw [Zo hv];exact Nat.min_le_right _ _
def FL(v:Int)(n d:Nat):(if v<0 then max (v+(n:Int)) 0 else min v (n:Int))=((sIx n d (some v):Nat):Int):=by
 show(if v<0 then max (v+(n:Int)) 0 else min v (n:Int))=(((if v<0 then(v+(n:Int)).toNat else min v.toNat n):Nat):Int)
 by_cases hv:v<0
 .simp only[Zn hv];omega
 .simp only[Zo hv];omega
def EN(Z J:Option Int)(n:Nat):Builtin.Slice.sliceAdjust Z J 1 (n:Int)=(((sIx n 0 Z:Nat):Int),((sIx n n J:Nat):Int)):=by
 have G:¬((1:Int)<0):=by omega
 unfold Builtin.Slice.sliceAdjust;simp only[G,if_false];refine Prod.ext ?_ ?_
 .cases Z with
  |none=>rfl
  |some v=>exact FL v n 0
 .cases J with
  |none=>rfl
  |some v=>exact FL v n n
def Dl(i j:Nat):Builtin.Slice.slicePlaces (i:Int) (j:Int) 1=j-i:=by
 unfold Builtin.Slice.slicePlaces;have Z:(1:Int) > 0:=by omega
 simp only[Z,if_true,Int.ediv_one]
 split <;> omega
def Tj(p:IsPart v o)(h:Q o s):wpAny (model prog w) A (Builtin.Slice.slicePartIndex v) Q E s:=by
 cases p with
 |none=>exact slicePart_none h
 |int i t=>exact slicePart_int h
def sliceApplied_gen{Z G:Option Int}{n:Nat}(O:s.heap.IsSliceOf sl vl vu .none)(N:IsPart vl Z)(M:IsPart vu G)(h:Q (((sIx n 0 Z:Nat):Int),1,sIx n n G-sIx n 0 Z) s):wpAny (model prog w) A (Builtin.Slice.sliceApplied (.ref sl)<|pure (n:Int)) Q E s:=by
 obtain⟨T,J,R,L⟩:=id O;unfold Builtin.Slice.sliceApplied Builtin.Slice.sliceFields;refine Zj<|Zj<|Zm J L (x:=vl) rfl (Zj<|Zm J L (x:=vu) rfl (Zj<|Zm J L (x:=.none) rfl (Zk ?_)));refine Zj<|slicePart_none ?_;show wpAny _ _ (if((1:Int)==0)=true then _ else _) _ _ s;rw[Zo (by decide)];refine Zj<|Tj N<|Zj<|Tj M<|Zj<|Zk ?_;show wpAny _ _ (match Builtin.Slice.sliceAdjust Z G 1 (n:Int)with|(Z,G)=>pure (Z,(1:Int),Builtin.Slice.slicePlaces Z G 1)) _ _ s;rw[EN Z G n];show wpAny _ _ (pure (((sIx n 0 Z:Nat):Int),(1:Int),Builtin.Slice.slicePlaces ((sIx n 0 Z:Nat):Int) ((sIx n n G:Nat):Int) 1)) _ _ s;rw[Dl];exact Zk h
def LL(Z:Array Value)(i k:Nat):((List.range k).filterMap λ(m:Nat)=>Z[((i:Int)+(m:Int)*1).toNat]?).toArray=((Z.toList.drop i).take k).toArray:=by
 have e:(λ(m:Nat)=>Z[((i:Int)+(m:Int)*1).toNat]?)=λm=>Z[i+m]?:=by
  funext m
  have:((i:Int)+(m:Int)*1).toNat=i+m:=by omega
  rw[this]
 rw[e];have:=pick_run Z i k;rw[List.filterMap_map]at this;have J:((λx=>Z[x]?) ∘ λx=>i+x)=λm=>Z[i+m]?:=rfl;rw[J]at this;rw[this]
def getItem_tuple_cut{J G:Option Int}(L:IsTup s.heap t items)(T:s.heap.IsSliceOf sl vl vu .none)(D:IsPart vl J)(B:IsPart vu G)(I:¬(sIx items.size 0 J=0/\sIx items.size items.size G=items.size))(h:Q (.ref s.heap.objs.size) {s with heap:=s.heap.push {cls:=.type "tuple",data:=.seq ((items.toList.drop<|sIx items.size 0 J).take<|sIx items.size items.size G-sIx items.size 0 J).toArray}})(S:items.size<=sizeLine):wpAny (model prog w) A (getItem (.ref t)<|.ref sl) Q E s:=by
 have Z:sizeOk (.seq ((items.toList.drop<|sIx items.size 0 J).take<|sIx items.size items.size G-sIx items.size 0 J).toArray):=by
  show((items.toList.drop<|sIx items.size 0 J).take<|sIx items.size items.size G-sIx items.size 0 J).toArray.size<=sizeLine;rw[ZM,ZL,vN,jB];omega
 have P:sIx items.size items.size G<=items.size:=Su _ _ (ZF _) G;obtain⟨F,M,O,U⟩:=id T;have R:s.TypeIs (.ref sl) "slice":=⟨F,M,O⟩;unfold getItem
 try with_reducible refine wpAny_holding ?_
 first|refine Zj (Zk ?_)|skip
 refine Zj<|wpAny_sequenceKey L.typeIs (by decide) ?_;refine Zj (wpAny_callSpecial?_slot (name:=Str.ofString "__getitem__") L.typeIs vK
  (vD vK L.typeIs entry_tuple_getitem ?_<|args_tuple_getitem _ _))
 show wpAny _ _ (Builtin.Tuple.tupleItemsOf (.ref t) >>=_) _ _ s;refine Zj<|tupleItemsOf_ L ?_;refine Zj<|js R ?_;rw[Zn (by decide)];refine Zj<|sliceApplied_gen T D B ?_
 have N:¬((((sIx items.size 0 J:Nat):Int)==0 && (1:Int)==1 && (sIx items.size items.size G-sIx items.size 0 J)==items.size)=true):=by
  intro q;rw[ZX,ZX]at q;have X:((sIx items.size 0 J:Nat):Int)=0:=eq_of_beq q.1.1;have C:sIx items.size items.size G-sIx items.size 0 J=items.size:=eq_of_beq q.2;exact I ⟨by omega,by omega⟩
 show wpAny _ _ (if(((sIx items.size 0 J:Nat):Int)==0 && (1:Int)==1 && (sIx items.size items.size G-sIx items.size 0 J)==items.size)=true then _ else _) _ _ s;rw[Zo N,LL]
 first
  |exact Zj (m:=Builtin.Tuple.tupleExact _)<|vq (Zk ⟨_,rfl,Zk h⟩) Z
  |exact Zj (m:=Builtin.Tuple.tupleExact _)<|vq (Zj<|Zk<|Zk ⟨_,rfl,Zk h⟩) Z
  |exact Zj<|Zj (m:=Builtin.Tuple.tupleExact _)<|vq (Zk<|Zk ⟨_,rfl,Zk h⟩) Z
  |exact Zj<|Zj (m:=Builtin.Tuple.tupleExact _)<|vq (Zk ⟨_,rfl,Zk h⟩) Z
end
end HT
namespace L2
open PySem PySem.Spec PyProof.Rows
abbrev TO:=St->Hp->(Option Int->Hp->Prop)->Prop
def PO(X:Cx)(e:Option Expr)(t:TO):Prop:=
 ∀(Z:kb)(s:Shared)(U:St)(H:Hp)(Q:Option Int->Hp->Prop),Inv X Z U H s->t U H Q->
  wpAny (model X.prog X.w) X.A (evalPart e X.env) (λu G=>∃o J,Inv X Z U J G/\IsPart u o/\Q o J) X.xe s
def O0:TO:=λ_ H Q=>Q none H
def CF(t:TE):TO:=λU H Q=>t U H λx Z=>∃i,x=.int i/\Q (some i) Z
section
variable{X:Cx}{te:TE}{lo hi:Option Expr}{tl th:TO}
def JD:PO X none O0:=by
 intro Z s U H Q I h;rw[evalPart_none];exact Zk ⟨none,H,I,.none,h⟩
def V4(h:PE X e te):PO X (some e) (CF te):=by
 intro Z s U H Q I L;rw[evalPart_some];refine thn (h Z s U H _ I L) λu O ⟨x,N,M,J,G⟩=>?_;obtain⟨i,rfl,q⟩:=G;obtain⟨t,rfl⟩:=J;exact⟨some i,N,M,.int i t,q⟩
def SlR(X:Cx)(r:V->Option Int->Option Int->Hp->VK->Prop):Prop:=
 ∀(Z:kb)(s:Shared)(U:St)(H:Hp)(x:V)(v G J:Value)(lo hi:ky)(sl:Addr)(Q:VK),Inv X Z U H s->RelV x v->s.heap.IsSliceOf sl G J .none->IsPart G lo->IsPart J hi->r x lo hi H Q->
  ∃T L,typeLookup (.type T) "__getitem__"=pure (some<|.builtin L)/\s.TypeIs v T/\wpAny (model X.prog X.w) X.A (getItem v<|.ref sl) (EP X Z U Q) X.xe s
def tSl(r:V->Option Int->Option Int->Hp->VK->Prop)(te:TE)(tl th:TO):TE:=λU H Q=>te U H λx G=>tl U G λl J=>th U J λu Z=>r x l u Z Q
def Vt(P:SlR X r)(z:PE X e te)(j:PO X lo tl)(S:PO X hi th):PE X (.Subscript e (.Slice lo hi none p2) pos) (tSl r te tl th):=by
 intro Z s U H Q I h;refine Subscript_<|thn (z Z s U H _ I h) λv O ⟨x,d,p,R,E⟩=>?_;refine wpAny_Slice<|thn (j Z O U d _ p E) λL N ⟨l,c,k,A,D⟩=>thn (S Z N U c _ k D) λG J ⟨u,M,g,F,B⟩=>?_;rw[evalPart_none];refine Zk ?_;have m:Inv X Z U M {J with heap:=J.heap.push {cls:=.type "slice",data:=.fields #[L,G,.none]}}:=g.kept (t':=J.toks) λb f q=>ZD _ q;obtain⟨T,w,t,C,y⟩:=P Z {J with heap:=J.heap.push {cls:=.type "slice",data:=.fields #[L,G,.none]}} U M x v L G l u J.heap.objs.size Q m R (Heap.IsSliceOf.new ..) A F B;show wpAny (model X.prog X.w) X.A (subscriptTail e (.Slice lo hi none p2) v<|.ref J.heap.objs.size) (EP X Z U Q) X.xe {J with heap:=J.heap.push {cls:=.type "slice",data:=.fields #[L,G,.none]}};exact tail_any (ops:=[.ref J.heap.objs.size,v]) C t y<|by with_unfolding_all rfl
def XT(xs:kF)(lo hi:ky):kF:=(xs.drop<|HT.sIx xs.length 0 lo).take<|HT.sIx xs.length xs.length hi-HT.sIx xs.length 0 lo
def Gj(Z:kF)(lo hi:ky):(XT Z lo hi).length<=Z.length:=by
 unfold XT;rw[ZL,vN];omega
def yB(K:W.Frag):V->Option Int->Option Int->Hp->VK->Prop:=λx lo hi H Q=>∃a Z,x=.ref a/\SqT K H a Z/\
 ¬(HT.sIx Z.length 0 lo=0/\HT.sIx Z.length Z.length hi=Z.length)/\∀p,H p=none->Q (.ref p) (upd H p<|.tup<|XT Z lo hi)
def Mh:SlR X (yB X.K):=by
 intro L s U H x v A F lo hi sl Q I O E T R h;obtain⟨a,J,rfl,B,D,q⟩:=h;cases O;obtain⟨G,r,N,M⟩:=I.tuple B;have Z:G.toArray.size=J.length:=by rw[ZM];exact r.length.symm
 exists "tuple",_,PyProof.Rows.slot_tuple_getitem.lookup,N.typeIs;refine HT.getItem_tuple_cut N E T R (by rw[Z];exact D) ?_ (by rw[Z];exact M);rw[Z];refine⟨.ref s.heap.objs.size,_,I.laid (t':=s.toks) (o:=.tup<|XT J lo hi) (λb S q=>ZD _ q) (ZF _) ?_,rfl,q _<|I.hok.fresh<|ZF _⟩;exact⟨ZZ (Gj J lo hi) M,_,(r.drop<|HT.sIx J.length 0 lo).take<|HT.sIx J.length J.length hi-HT.sIx J.length 0 lo,Gr.new _ _⟩
def WX(K:W.Frag):R2:=λx y H Q=>∃a b J Z,x=.ref a/\y=.ref b/\SqT K H a J/\SqT K H b Z/\J≠[]/\J.length+Z.length<=sizeLine/\
 (Z=[]->Q (.ref a) H)/\(Z≠[]->∀p,H p=none->Q (.ref p) (upd H p<|.tup<|J++ Z))
def Vals.nil_iff(r:Vals Z J):J=[]↔Z=[]:=by
 cases r with
 |nil=>simp
 |cons _ _=>simp
def Wa:OpR X (binaryOp .Add) (WX X.K):=by
 intro G s U H x y v u Q I T R h;obtain⟨a,b,O,N,rfl,rfl,P,C,S,M,D,B⟩:=h;cases T;cases R;obtain⟨A,J,F,_⟩:=I.tuple P;obtain⟨L,Z,E,_⟩:=I.tuple C;refine HT.cat_tup F E (λz=>S<|J.nil_iff.mp z) (λz=>⟨.ref a,H,I,rfl,D<|Z.nil_iff.mp z⟩) (λz=>?_) (by rw[<-J.length,<-Z.length];exact M);refine⟨.ref s.heap.objs.size,_,I.laid (t':=s.toks) (o:=.tup<|O++ N) (λb j q=>ZD _ q) (ZF _) ?_,rfl,B (λw=>z<|Z.nil_iff.mpr w) _<|I.hok.fresh<|ZF _⟩;exact⟨by rw[ZJ];exact M,_,J.append Z,Gr.new _ _⟩
end
def ixN(n:Nat)(i:Int):Option Nat:=if 0<=i then(if i<n then some i.toNat else none)else if -(n:Int)<=i then some (i+n).toNat else none
def atI{α:Type}(xs:List α)(i:Int):Option α:=(ixN xs.length i).bind λj=>xs[j]?
def E3(h:ixN n i=some j):seqIndex? i n=some j/\j<n/\ -(n:Int)<=i/\i<n:=by
 unfold ixN at h
 by_cases h0:0<=i
 .rw [Zn h0]at h
  by_cases h1:i<n
  .rw [Zn h1]at h
   have e:i.toNat=j:=ZP h;exact⟨by rw[seqIndex_of h0 h1,e],by omega,by omega,h1⟩
  .rw [Zo h1]at h;cases h
 .rw [Zo h0]at h
  by_cases h1: -(n:Int)<=i
  .rw [Zn h1]at h
   have e:(i+n).toNat=j:=ZP h;exact⟨by rw[seqIndex_neg (by omega) h1,e],by omega,h1,by omega⟩
  .rw [Zo h1]at h;cases h
def NU(h:atI Z i=some v):∃j,seqIndex? i Z.length=some j/\Z[j]?=some v/\j<Z.length/\ -(Z.length:Int)<=i/\i<Z.length:=by
 unfold atI at h
 cases e:ixN Z.length i with
 |none=>rw[e]at h;cases h
 |some j=>
  rw[e]at h;obtain⟨M,L,G,J⟩:=E3 e;exact⟨j,M,h,L,G,J⟩
def Yw{Z:List α}{j:Nat}{v:α}(h:Z[j]?=some v):atI Z (j:Int)=some v:=by
 have J:j<Z.length:=(ZE.mp h).1
 have e:ixN Z.length (j:Int)=some j:=by
  unfold ixN;rw[Zn (by omega),Zn (by omega)];simp
 unfold atI;rw[e];exact h
def Oh(Z:List α)(v:α):atI (Z++[v]) (-1)=some v:=by
 have J:(Z++[v]).length=Z.length+1:=by simp
 have e:ixN (Z++[v]).length (-1)=some Z.length:=by
  unfold ixN;rw[J,Zo<|by decide,Zn (by omega)]
  congr 1
  omega
 unfold atI;rw[e];show(Z++[v])[Z.length]?=some v;simp
def Qc(b:Expr):Prop:=∀o i,subscripted b false o i=operate [o,i] (getItem o i)
def IxR(X:Cx)(r:R2):Prop:=
 ∀(value slice:Expr)(Z:kb)(s:Shared)(U:St)(H:Hp)(x y:V)(v u:Value)(Q:VK),Inv X Z U H s->RelV x v->RelV y u->r x y H Q->
  subscripted slice false v u=operate [v,u] (getItem v u)->wpAny (model X.prog X.w) X.A (subscriptTail value slice v u) (EP X Z U Q) X.xe s
def MtR(X:Cx)(id:String)(r:V->List V->Hp->VK->Prop):Prop:=
 ∀(Z:kb)(s:Shared)(U:St)(H:Hp)(x:V)(J:kF)(v:Value)(G:kj)(Q:VK),Inv X Z U H s->RelV x v->Vals J G->r x J H Q->
  wpAny (model X.prog X.w) X.A (call (.builtin id) (v::G)) (EP X Z U Q) X.xe s
section
variable{a b:Expr}{ta tb:TE}
def Ym(N:IxR X r)(R:PE X a ta)(O:PE X b tb)(M:Qc b:=by exact λ_ _=>Y):PE X (.Subscript a b pos) (tOp r ta tb):=by
 intro Z s U H Q I h;exact Subscript_<|A4 R O I h λv u J x y B T L G q=>N a b Z J U B x y v u Q T L G q<|M _ _
def LG(K:W.Frag):R2:=λx y H Q=>Jb x λp=>XQ y λi=>∃Z v,SqL K H p Z/\atI Z i=some v/\Q v H
def LG.old{K:W.Frag}(h:LG K x y H Q):∃p Z i v,x=.ref p/\y=.int i/\SqL K H p Z/\atI Z i=some v/\Q v H:=by
 replace h:=Jb.old h;obtain⟨p,e,h⟩:=h;replace h:=XQ.old h;obtain⟨i,J,Z,v,h⟩:=h;exact⟨p,Z,i,v,e,J,h⟩
def UG(K:W.Frag):R2:=λx y H Q=>Jb x λp=>XQ y λi=>∃Z v,SqT K H p Z/\atI Z i=some v/\Q v H
def UG.old{K:W.Frag}(h:UG K x y H Q):∃p Z i v,x=.ref p/\y=.int i/\SqT K H p Z/\atI Z i=some v/\Q v H:=by
 replace h:=Jb.old h;obtain⟨p,e,h⟩:=h;replace h:=XQ.old h;obtain⟨i,J,Z,v,h⟩:=h;exact⟨p,Z,i,v,e,J,h⟩
def CS:R2:=λx y H Q=>∃z i c,x=.str z/\y=.int i/\z.length<=sizeLine/\atI z.cps.toList i=some c/\Q (.str ⟨#[c]⟩) H
def Y3:IxR X (LG X.K):=by
 intro value slice Z s U H x y v u Q I D B h O;replace h:=LG.old h;obtain⟨p,m,i,z,rfl,rfl,E,A,q⟩:=h;cases D;obtain⟨t,rfl⟩:=B;obtain⟨N,r,M,g⟩:=I.list E;obtain⟨j,G,P,c,C,S⟩:=NU A;obtain⟨w,R,L⟩:=r.get P;have F:=r.length;have k:=W4;have J:EP X Z U Q w s:=⟨z,H,I,L,q⟩
 by_cases h0:0<=i
 .have hj:i.toNat=j:=by
   rw[seqIndex_of h0 S]at G;exact ZP G
  exact item_listR M.isList h0 (by omega) (by rw[hj];simpa using R) J O
 .have hj:(i+(N.toArray.size:Int)).toNat=j:=by
   rw[seqIndex_neg (by omega) C]at G;rw[ZM,<-F];exact ZP G
  exact subscriptTail_builtinR (x:=w) M.isList.typeIs slot_list_getitem.lookup
   (wpAny_getItem_list_neg (Q:=λr T=>r=w/\EP X Z U Q r T) M.isList (by omega) (by rw[ZM] <;> omega) (by omega) (by rw[hj];simpa using R) ⟨rfl,J⟩) O
def Yp:IxR X (UG X.K):=by
 intro value slice Z s U H x y v u Q I O N h T;replace h:=UG.old h;obtain⟨p,C,i,z,rfl,rfl,B,E,q⟩:=h;cases O;obtain⟨t,rfl⟩:=N;obtain⟨R,r,L,P⟩:=I.tuple B;obtain⟨j,A,F,c,k,g⟩:=NU E;obtain⟨w,S,J⟩:=r.get F;have D:=r.length;have m:=W4;have G:EP X Z U Q w s:=⟨z,H,I,J,q⟩;exact subscriptTail_builtinR (x:=w) L.typeIs slot_tuple_getitem.lookup
  (getItem_tuple (j:=j) (Q:=λr M=>r=w/\EP X Z U Q r M) L (by omega) (by omega) (by rw[ZM,<-D];exact A) (by simpa using S) ⟨rfl,G⟩) T
def L4:IxR X CS:=by
 intro value slice Z s U H x y v u Q I L G h M;obtain⟨z,i,c,rfl,rfl,A,O,q⟩:=h;obtain⟨t,rfl⟩:=L;obtain⟨F,rfl⟩:=G;obtain⟨j,J,B,C,T,R⟩:=NU O;have N:z.cps.toList.length=z.length:=by simp[Str.length]
 rw[N]at J T R;have S:=W4
 exact tail_any (typeIs_str s z t) slot_str_getitem.lookup (getItem_str (c:=c) (by
  have E:decide (i < -(2 ^ 63:Int))=false:=Zw (by omega);have D:decide (i ≥ 2 ^ 63)=false:=Zw (by omega);rw[E,D,Bool.or_false]) (by rw[J];simpa using B) ⟨.str ⟨#[c]⟩,H,I.tok _,⟨_,rfl⟩,q⟩) M
def Dx(Z:kj)(n j:Nat)(u:Value):Obj.mapSeq (·.setIfInBounds j u) {cls:=.type "list",data:=.seq Z.toArray n}={cls:=.type "list",data:=.seq (Z.set j u).toArray n}:=by
 simp[Obj.mapSeq]
def Inv.lst(I:Inv X G U H s)(h:H p=some (.lst J)):
  ∃(Z:kj)(n:Nat),Vals J Z/\s.heap.get? p=some {cls:=.type "list",data:=.seq Z.toArray n}/\J.length<=sizeLine:=by
 obtain⟨z,Z,n,r,e⟩:=I.hok p _ h;exact⟨Z,n,r,e,z⟩
def Inv.lstUpd{G Z:kj}(I:Inv X J U H s)(h:H p=some (.lst R))(N:s.heap.get? p=some {cls:=.type "list",data:=.seq G.toArray n})(L:f {cls:=.type "list",data:=.seq G.toArray n}={cls:=.type "list",data:=.seq Z.toArray n'})(r:Vals ys Z)(M:ys.length<=sizeLine)(t:Nat):
  Inv X J U (upd H p<|.lst ys) {s with heap:=s.heap.update p f,toks:=t}:=by
 have e:(s.heap.update p f).get? p=some {cls:=.type "list",data:=.seq Z.toArray n'}:=by
  rw[ve f N (by rw[L] <;> rfl),L]
 refine I.write (x:=p) (e:=p) (by rw[h];trivial) (.inl Y) (λb u O q=>(vc _ _<|Zq O).trans q) ⟨_,e⟩ ?_;exact⟨M,Z,n',r,e⟩
def CQ:V->V->V->Hp->(Hp->Prop)->Prop:=λo i v H Q=>∃p Z k j,o=.ref p/\i=.int k/\H p=some (.lst Z)/\ixN Z.length k=some j/\Q (upd H p<|.lst<|Z.set j v)
def set_list:zW X CQ:=by
 intro Z s U H o i v C P u Q I E F D h;obtain⟨p,B,k,j,rfl,rfl,N,S,q⟩:=h;cases E;obtain⟨t,rfl⟩:=F;obtain⟨J,n,r,L,A⟩:=I.lst N;obtain⟨G,z,R,O⟩:=E3 S;have M:=r.length;have y:=W4
 have T:Inv X Z U (upd H p<|.lst<|B.set j v) {s with heap:=s.heap.update p (Obj.mapSeq (·.setIfInBounds j u))}:=
  I.lstUpd N L (Dx J n j u) (r.set D j) (by rw[yz];exact A) s.toks
 by_cases h0:0<=k
 .have hk:k.toNat=j:=by
   rw[seqIndex_of h0 O]at G;exact ZP G
  exact W.ki_setAt L h0 (by omega) (by rw[ZM,<-M];exact O) (by rw[hk];exact⟨_,T,q⟩)
 .have hk:(k+(J.toArray.size:Int)).toNat=j:=by
   rw[seqIndex_neg (by omega) R]at G;rw[ZM,<-M];exact ZP G
  exact W.ki_setBack L (by omega) (by rw[ZM,<-M];exact R) (by omega) (by rw[hk];exact⟨_,T,q⟩)
def Mg(Z J:ky)(n:Nat):(sliceBounds Z J none n).1=((HT.sIx n 0 Z:Nat):Int)/\(sliceBounds Z J none n).2.1=((HT.sIx n n J:Nat):Int)/\(sliceBounds Z J none n).2.2=1:=by
 refine⟨?_,?_,Y⟩
 .cases Z with
  |none=>simp[sliceBounds,HT.sIx]
  |some i=>
   simp only[sliceBounds,HT.sIx,Option.getD_none,show(1:Int) > 0 by decide,if_true]
   by_cases h:i<0
   .simp only[h,if_true] <;> omega
   .simp only[h,if_false] <;> omega
 .cases J with
  |none=>simp[sliceBounds,HT.sIx]
  |some i=>
   simp only[sliceBounds,HT.sIx,Option.getD_none,show(1:Int) > 0 by decide,if_true]
   by_cases h:i<0
   .simp only[h,if_true] <;> omega
   .simp only[h,if_false] <;> omega
def Rj(Z:kj)(J G:ky):slicePick Z.toArray J G none=((Z.drop<|HT.sIx Z.length 0 J).take<|HT.sIx Z.length Z.length G-HT.sIx Z.length 0 J).toArray:=by
 obtain⟨N,M,L⟩:=Mg J G Z.toArray.size;unfold slicePick;rw[N,M,L];simp only[sliceRange_one,pick_run,ZM] <;> rfl
def yE(K:W.Frag):V->Option Int->Option Int->Hp->VK->Prop:=λx J G H Q=>∃a Z,x=.ref a/\SqL K H a Z/\∀p,H p=none->Q (.ref p) (upd H p<|.lst<|XT Z J G)
def Xt:SlR X (yE X.K):=by
 intro M s U H x v S A G L sl Q I O F T R h;obtain⟨a,Z,rfl,E,q⟩:=h;cases O;obtain⟨B,r,N,D⟩:=I.list E;have J:=r.length;exists "list",_,slot_list_getitem.lookup,N.isList.typeIs;refine wpAny_getItem_list_slice N.isList F T R .none (by simp) ?_ (by rw[ZM] <;> omega);rw[Rj,<-J];refine⟨.ref s.heap.objs.size,_,I.laid (t':=s.toks) (o:=.lst<|XT Z G L) (λb C q=>ZD _ q) (ZF _) ?_,rfl,q _<|I.hok.fresh<|ZF _⟩;exact⟨ZZ (Gj Z G L) D,_,0,(r.drop<|HT.sIx Z.length 0 G).take<|HT.sIx Z.length Z.length L-HT.sIx Z.length 0 G,ZW _ rfl⟩
def Wf:V->Bool
 |.non=>true
 |.bl _=>true
 |.int _=>true
 |.str _=>true
 |_=>false
def eqV:V->V->Bool
 |.non,.non=>true
 |.bl a,.bl b=>a==b
 |.bl a,.int b=>(if a then 1 else 0)==b
 |.int a,.bl b=>a==(if b then 1 else 0)
 |.int a,.int b=>a==b
 |.str a,.str b=>a==b
 |_,_=>false
def Ay(G:RelV y u)(Z:RelV x v)(M:Wf y=true)(L:Wf x=true):SeqAt.EqAt A s u v (eqV y x):=by
 cases y with
 |non=>
  cases G
  cases x with
  |non=>cases Z;exact SeqAt.EqAt.same _
  |bl b=>cases Z;exact SeqAt.EqAt.none_bool b
  |int b=>obtain⟨t,rfl⟩:=Z;exact SeqAt.EqAt.none_int b t
  |str b=>obtain⟨t,rfl⟩:=Z;exact SeqAt.EqAt.none_str b t
  |_=>exact Zp (show false=true from L) Zg
 |bl a=>
  cases G
  cases x with
  |non=>cases Z;exact SeqAt.EqAt.bool_none a
  |bl b=>cases Z;exact SeqAt.EqAt.bool_bool a b
  |int b=>obtain⟨t,rfl⟩:=Z;exact SeqAt.EqAt.bool_int a b t
  |str b=>obtain⟨t,rfl⟩:=Z;exact SeqAt.EqAt.bool_str a b t
  |_=>exact Zp (show false=true from L) Zg
 |int a=>
  obtain⟨J,rfl⟩:=G
  cases x with
  |non=>cases Z;exact SeqAt.EqAt.int_none a J
  |bl b=>cases Z;exact SeqAt.EqAt.int_bool a J b
  |int b=>obtain⟨t,rfl⟩:=Z;exact SeqAt.EqAt.int_int a J b t
  |str b=>obtain⟨t,rfl⟩:=Z;exact SeqAt.EqAt.int_str a J b t
  |_=>exact Zp (show false=true from L) Zg
 |str a=>
  obtain⟨J,rfl⟩:=G
  cases x with
  |non=>cases Z;exact SeqAt.EqAt.str_none a J
  |bl b=>cases Z;exact SeqAt.EqAt.str_bool a J b
  |int b=>obtain⟨t,rfl⟩:=Z;exact SeqAt.EqAt.str_int a J b t
  |str b=>obtain⟨t,rfl⟩:=Z;exact SeqAt.EqAt.str_str a J b t
  |_=>exact Zp (show false=true from L) Zg
 |_=>exact Zp (show false=true from M) Zg
def eqU(x:V)(u:Value):Bool:=match u with
 |.none=>eqV .non x
 |.bool b=>eqV (.bl b) x
 |.int i _=>eqV (.int i) x
 |.str z _=>eqV (.str z) x
 |_=>false
def OQ(r:RelV y u)(f:Wf y=true):eqU x u=eqV y x:=by
 cases y with
 |non=>cases r;rfl
 |bl b=>cases r;rfl
 |int i=>obtain⟨t,rfl⟩:=r;rfl
 |str z=>obtain⟨t,rfl⟩:=r;rfl
 |_=>exact Zp (show false=true from f) Zg
theorem Wm:∀{Z:kF}{J:kj},Vals Z J->Z.all Wf=true->J.any (eqU x)=Z.any λy=>eqV y x
 |_,_,.nil,_=>rfl
 |y::Z,u::J,.cons r t,f=>by
  rw[qg,ZX]at f;rw[jQ,jQ,OQ r f.1,Wm t f.2]
theorem Xj(L:RelV x v)(M:Wf x=true):∀{J:kF}{G:kj},Vals J G->J.all Wf=true->∀u∈G,SeqAt.EqAt A s u v<|eqU x u
 |_,_,.nil,_=>λu Z=>by cases Z
 |y::J,u::G,.cons r t,f=>λN Z=>by
  rw[qg,ZX]at f;rcases Zb.mp Z with rfl|Z
  .rw [OQ r f.1];exact Ay r L f.1 M
  .exact Xj L M t f.2 N Z
def inV(x:V)(xs:kF):Bool:=xs.any λy=>eqV y x
def rIn(K:W.Frag)(neg:Bool):R2:=λx y H Q=>∃p Z,y=.ref p/\(SqL K H p Z\/SqT K H p Z)/\Wf x=true/\Z.all Wf=true/\Q (.bl<|if neg then !inV x Z else inV x Z) H
def W3:OpR X (compareOp .In) (rIn X.K false):=by
 intro M s U H x y v u Q I L O h;obtain⟨p,R,rfl,Z,N,J,q⟩:=h;cases O;rcases Z with Z|Z
 .obtain ⟨its,r,pl,hz⟩:=I.list Z
  refine SeqAt.in_listAt (eqU x) pl.isList (λw G=>Xj L N r J w<|by simpa using G) ⟨.bl _,H,I,rfl,?_⟩;rw[show its.toArray.any (eqU x)=its.any (eqU x) by simp,Wm r J];exact q
 .obtain ⟨its,r,pl,hz⟩:=I.tuple Z
  refine SeqAt.in_tupleAt (eqU x) pl (λw G=>Xj L N r J w<|by simpa using G) ⟨.bl _,H,I,rfl,?_⟩;rw[show its.toArray.any (eqU x)=its.any (eqU x) by simp,Wm r J];exact q
def JZ:OpR X (compareOp .NotIn) (rIn X.K true):=by
 intro M s U H x y v u Q I L O h;obtain⟨p,R,rfl,Z,N,J,q⟩:=h;cases O;rcases Z with Z|Z
 .obtain ⟨its,r,pl,hz⟩:=I.list Z
  refine SeqAt.notIn_listAt (eqU x) pl.isList (λw G=>Xj L N r J w<|by simpa using G) ⟨.bl _,H,I,rfl,?_⟩;rw[show its.toArray.any (eqU x)=its.any (eqU x) by simp,Wm r J];exact q
 .obtain ⟨its,r,pl,hz⟩:=I.tuple Z
  refine SeqAt.notIn_tupleAt (eqU x) pl (λw G=>Xj L N r J w<|by simpa using G) ⟨.bl _,H,I,rfl,?_⟩;rw[show its.toArray.any (eqU x)=its.any (eqU x) by simp,Wm r J];exact q
def Yl:UF X (.builtin "len") (λG H Q=>∃p ys,G=[.ref p]/\(SqL X.K H p ys\/SqT X.K H p ys)/\Q (.int ys.length) H):=by
 intro L s U H G N Q I r h;obtain⟨p,ys,rfl,J,q⟩:=h;obtain⟨u,rfl,M⟩:=vals1 r;cases M;have O:=W4;rcases J with J|J
 .obtain ⟨its,r',pl,hz⟩:=I.list J
  have Z:=r'.length;exact Calls.call_len_list pl.isList (by simp only[ZM] <;> omega) ⟨.int ys.length,H,I.tok _,⟨s.toks+1,by rw[ZM,Z]⟩,q⟩
 .obtain ⟨its,r',pl,hz⟩:=I.tuple J
  have Z:=r'.length;exact len_tuple pl (by simp only[ZM] <;> omega) ⟨.int ys.length,H,I.tok _,⟨s.toks+1,by rw[ZM,Z]⟩,q⟩
def XU:UF X (.builtin "len") (λZ H Q=>∃z,Z=[.str z]/\z.length<=sizeLine/\Q (.int z.length) H):=by
 intro J s U H Z G Q I r h;obtain⟨z,rfl,L,q⟩:=h;obtain⟨u,rfl,t,rfl⟩:=vals1 r;have M:=W4;exact len_str (by omega) ⟨.int z.length,H,I.tok _,⟨_,Y⟩,q⟩
def Vw:UF X (.type "list") (λA H Q=>∃p ys,A=[.ref p]/\(SqL X.K H p ys\/SqT X.K H p ys)/\∀l,H l=none->Q (.ref l) (upd H l<|.lst ys)):=by
 intro M s U H A P Q I r h;obtain⟨p,ys,rfl,R,q⟩:=h;obtain⟨u,rfl,C⟩:=vals1 r;cases C;have B:∀(Z:kj),Vals ys Z->ys.length<=sizeLine->∀(J:Heap)(L:Nat),(∀b S,s.heap.get? b=some S->J.get? b=some S)->
   J.get? s.heap.objs.size=some {cls:=.type "list",dict:=none,data:=.seq Z.toArray L,slots:= #[]}->EP X M U Q (.ref s.heap.objs.size) {s with heap:=J}:=λZ G O J L N e=>
  ⟨.ref s.heap.objs.size,_,I.laid (t':=s.toks) N (ZF _) (show Va X.prog X.w _ J _ (.lst ys)from⟨O,Z,L,G,e⟩),rfl,q _<|I.hok.fresh<|ZF _⟩
 rcases R with R|R
 .obtain ⟨Z,G,pl,O⟩:=I.list R
  have T:=G.length;obtain⟨o,D,F,n,E⟩:=pl.isList;exact call_list_seq p (.inl Y) D F E (λJ L N e=>B Z G O J L N e) (by simp only[ZM] <;> omega)
 .obtain ⟨Z,G,pl,O⟩:=I.tuple R
  have T:=G.length;obtain⟨o,D,F,n,E⟩:=pl;exact call_list_seq p (.inr Y) D F E (λJ L N e=>B Z G O J L N e) (by simp only[ZM] <;> omega)
def VH:UF X (.type "tuple") (λL H Q=>∃p ys,L=[.ref p]/\((SqL X.K H p ys/\∀l,H l=none->Q (.ref l) (upd H l<|.tup ys))\/(SqT X.K H p ys/\Q (.ref p) H))):=by
 intro Z s U H L B Q I r h;obtain⟨p,ys,rfl,h⟩:=h;obtain⟨u,rfl,O⟩:=vals1 r;cases O;rcases h with⟨G,q⟩|⟨G,q⟩
 .obtain ⟨its,r',pl,hz⟩:=I.list G
  have M:=r'.length;refine call_tuple_list pl.isList (λJ R=>?_) (by simp only[ZM] <;> omega);have N:Inv X Z U H {s with heap:=J}:=I.kept (t':=s.toks) R
  have T:Inv X Z U (upd H J.objs.size<|.tup ys) {s with heap:=J.push {cls:=.type "tuple",data:=.seq its.toArray}}:=
   N.laid (t':=s.toks) (λb o e=>ZD _ e) (ZF _) (show Va X.prog X.w _ _ _ (.tup ys)from⟨hz,its,r',Gr.new _ _⟩)
  exact⟨.ref J.objs.size,_,T,Y,q _<|N.hok.fresh<|ZF _⟩
 .obtain ⟨its,r',pl,hz⟩:=I.tuple G
  exact call_tuple_same pl ⟨.ref p,H,I,Y,q⟩
def tyV(K:W.Frag)(T:String)(x:V)(H:Hp):Prop:=match x with
 |.str _=>T="str"
 |.int _=>T="int"
 |.ref p=>(T="list" /\∃xs,SqL K H p xs)\/(T="tuple" /\∃o,K.lookup p=some o/\o.cls=.type "tuple" /\o.dict=none) \/
   (T="dict" /\((∃kvs,H p=some (.dK kvs)) \/ ∃kvs,H p=some (.dT kvs)))\/(T="set" /\∃S n,H p=some (.set S n))
 |_=>False
def KH(I:Inv X N U H s)(r:RelV x v)(ty:tyV X.K T x H):
  s.TypeIs v T/\∀a,v=.ref a->∃O,s.heap.get? a=some O/\O.dict=none:=by
 cases x with
 |str z=>
  obtain⟨t,rfl⟩:=r;cases(show T="str" from ty);exact⟨typeIs_str s z t,λ_ e=>nomatch e⟩
 |int i=>
  obtain⟨t,rfl⟩:=r;cases(show T="int" from ty);exact⟨typeIs_int s i t,λ_ e=>nomatch e⟩
 |ref p=>
  cases r;rcases ty with⟨rfl,D,R⟩|⟨rfl,o,Z,B,L⟩|⟨rfl,Z⟩|⟨rfl,S,n,Z⟩
  .obtain ⟨its,_,pl,_⟩:=I.list R
   refine⟨pl.isList.typeIs,λa e=>?_⟩;cases e;obtain⟨o,n,e,c,L,_⟩:=pl;exact⟨o,e,L⟩
  .refine ⟨⟨o,I.kIn p o Z,B⟩,λa e=>?_⟩
   cases e;exact⟨o,I.kIn _ o Z,L⟩
  .have z:∃o,s.heap.get? p=some o/\o.ExactDict:=by
    rcases Z with⟨G,Z⟩|⟨G,Z⟩
    .obtain ⟨_,_,_,_,o,_,_,e,J,_⟩:=I.hok p _ Z
     exact⟨o,e,J⟩
    .obtain ⟨_,_,_,_,o,_,_,e,J,_⟩:=I.hok p _ Z
     exact⟨o,e,J⟩
   obtain⟨o,e,J⟩:=z;refine⟨⟨o,e,J.1⟩,λa M=>?_⟩;cases M;exact⟨o,e,J.2.1⟩
  .obtain ⟨o,_,_,_,e,J,_⟩:=I.hok p _ Z
   refine⟨⟨o,e,J.1⟩,λa M=>?_⟩;cases M;exact⟨o,e,J.2.1⟩
 |_=>exact False.elim ty
def zo(K:W.Frag)(T:String)(r:V->List V->Hp->VK->Prop)(to:TE):TE:=λU H Q=>to U H λx Z=>tyV K T x Z/\r x [] Z Q
def tBM(K:W.Frag)(T:String)(r:V->List V->Hp->VK->Prop)(to:TE)(t:TA):TE:=λU H Q=>to U H λx Z=>tyV K T x Z/\t U Z λJ G=>r x J G Q
variable{T id:String}
def S3(B:PlainAttrs T)(slot:Slot T name id)(L:typeOf (.builtin id)=pure (.type "method_descriptor"))(E:MtR X id r)(D:PE X o to)(G:attributeBase o name X.env (eval o X.env)=eval o X.env:=by rfl)(J:(apos.endLine==cpos.line)=true:=by rfl):PE X (.Call (.Attribute o name apos) [] [] cpos) (zo X.K T r to):=by
 intro Z s U H Q I h;refine wpAny_Call_method0_late G J<|thn (D Z s U H _ I h) λv O ⟨x,S,N,M,ty,R⟩=>?_;obtain⟨A,F⟩:=KH N M ty;exact⟨T,id,B,slot,L,A,F,Calls.callWith_builtin Y (PySem.evalArgs_none<|E Z O U S x [] v [] Q N M .nil R)⟩
def Ui(y:PlainAttrs T)(slot:Slot T name id)(O:typeOf (.builtin id)=pure (.type "method_descriptor"))(m:MtR X id r)(q:PE X o to)(g:PA X (e::M) t)(L:attributeBase o name X.env (eval o X.env)=eval o X.env:=by rfl)(N:((backTo cpos<|starEach (e::M) X.env).all (λx=>!x.1) && (backToKw cpos<|keywordEach [] X.env).all (λx=>x.1.isSome)
   && decide ((e::M).length+([]:List Keyword).length+(if([]:List Keyword).isEmpty then 0 else 1)<30))=true:=by rfl)(G:(apos.endLine==cpos.line)=true:=by rfl)(z:starEach (e::M) X.env=(false,eval e X.env)::starEach M X.env:=by rfl)(J:(backTo cpos<|starEach M X.env).any (·.1)=false:=by rfl):
  PE X (.Call (.Attribute o name apos) (e::M) [] cpos) (tBM X.K T r to t):=by
 intro Z s U H Q I h;refine wpAny_Call_method_late L N G Y (thn (q Z s U H _ I h) λv S ⟨x,f,D,R,ty,j⟩=>?_);obtain⟨p,k⟩:=KH D R ty;exists T,id,y,slot,O,p,k;have B:=g cpos Z S U f _ D j;rw[z]at B |-;refine Calls.callWith_builtin (by show(false || (backTo cpos<|starEach M X.env).any (·.1))=false;rw[J] <;> rfl)<|Calls.evalArgs_plain ?_;exact thn B λF A ⟨E,d,c,C,P⟩=>m Z A U d x E v F Q c R C P
end
def MtM(X:Cx)(id:String)(r:V->List V->Hp->VK->Prop):Prop:=
 ∀(Z:kb)(s:Shared)(U:St)(H:Hp)(x:V)(J:kF)(v:Value)(G:kj)(Q:VK),Inv X Z U H s->RelV x v->Vals J G->r x J H Q->
  wpAny (model X.prog X.w) X.A (call (.builtin id) (v::G)) (EP X Z U Q) X.xe s
theorem Vals.one:∀{x:V}{Z:kj},Vals [x] Z->∃u,Z=[u]/\RelV x u
 |_,_,.cons r .nil=>⟨_,rfl,r⟩
theorem Vals.zero:∀{Z:kj},Vals [] Z->Z=[]
 |_,.nil=>rfl
theorem Vals.rep(h:Vals Z J):∀k:Nat,Vals (List.replicate k Z).flatten (List.replicate k J).flatten
 |0=>.nil
 |k+1=>by
  rw[vg,vg,vT,vT];exact Vals.append h<|Vals.rep h k
theorem foldl_rep(Z:kj):∀(k:Nat)(J:kj),
  List.foldl (λL G=>L++ G) J.toArray (List.replicate k Z.toArray)=(J++ (List.replicate k Z).flatten).toArray
 |0,J=>by simp
 |k+1,J=>by
  have e:J.toArray++ Z.toArray=(J++ Z).toArray:=by simp
  have M:(J++ Z)++ (List.replicate k Z).flatten=J++ (List.replicate (k+1) Z).flatten:=by
   rw[vg,vT,jf]
  rw[<-M,<-foldl_rep Z k (J++ Z),<-e,vg,v8]
section
def Inv.lset{J its':kj}(I:Inv X Z U H s)(R:H l=some (.lst T))(e:s.heap.get? l=some {cls:=.type "list",data:=.seq J.toArray n})(N:f J.toArray=its'.toArray)(L:Vals ys its')(G:ys.length<=sizeLine):
  Inv X Z U (upd H l<|.lst ys) {s with heap:=s.heap.update l<|Obj.mapSeq f,toks:=B}:=by
 have q:=PySem.IsL.update e f;rw[N]at q;refine I.write (x:=l) (e:=l) (by rw[R];exact trivial) (.inl Y) (λD u O M=>(vc s.heap (Obj.mapSeq f)<|Zq O).trans M) ⟨_,q⟩ ?_;exact⟨G,its',_,L,q⟩
def Inv.lnew(I:Inv X Z U H s)(L:Vals ys J)(G:ys.length<=sizeLine):
  Inv X Z U (upd H s.heap.objs.size<|.lst ys) {s with heap:=s.heap.push {cls:=.type "list",data:=.seq J.toArray},toks:=t'}:=
 I.laid (λ_ _ q=>ZD _ q) (ZF _) ⟨G,J,0,L,ZW _ rfl⟩
def Inv.fresh(I:Inv X Z U H s):H s.heap.objs.size=none:=I.hok.fresh<|ZF _
def Inv.lstM(I:Inv X G U H s)(L:H l=some (.lst J)):J.length<=sizeLine/\∃(Z:kj)(n:Nat),Vals J Z/\J.length=Z.length/\s.heap.get? l=some {cls:=.type "list",data:=.seq Z.toArray n}:=by
 obtain⟨z,Z,n,r,e⟩:=I.hok l _ L;exact⟨z,Z,n,r,r.length,e⟩
def N8(h:n<=sizeLine):Builtin.List.listTooLong n=false:=by
 unfold Builtin.List.listTooLong;exact Zw<|by omega
end
section
def PV:V->List V->Hp->VK->Prop:=λx J H Q=>∃l Z y,x=.ref l/\J=[y]/\H l=some (.lst Z)/\Z.length<sizeLine/\Q .non (upd H l<|.lst<|Z++[y])
def V2:MtM X "list.append" PV:=by
 intro J s U H x R v T Q I L M h;obtain⟨l,O,y,rfl,rfl,G,B,q⟩:=h;cases L;obtain⟨u,rfl,N⟩:=M.one;obtain⟨z,Z,n,r,D,e⟩:=I.lstM G;refine qa F.slot_list_append ⟨_,e,Y⟩ F.entry_list_append (F.args_list_append_2 _ _) (PySem.list_append l Z.toArray n u (by rw[ZM];omega)) ⟨e,?_⟩;refine⟨.non,_,I.lset (its':=Z++[u]) G e (by simp) (r.append<|.cons N .nil) ?_,rfl,q⟩;rw[ZJ,yn];omega
def PU:V->List V->Hp->VK->Prop:=λx G H Q=>∃l b J Z,x=.ref l/\G=[.ref b]/\H l=some (.lst J)/\H b=some (.lst Z)/\J.length+Z.length<=sizeLine/\Q .non (upd H l<|.lst<|J++ Z)
def IO:MtM X "list.extend" PU:=by
 intro M s U H x y v t Q I O R h;obtain⟨l,b,j,C,rfl,rfl,N,A,m,q⟩:=h;cases O;obtain⟨u,rfl,T⟩:=R.one;cases T;obtain⟨z,J,n,r,g,e⟩:=I.lstM N;obtain⟨P,Z,D,B,E,S⟩:=I.lstM A;have L:J.toArray.size+Z.toArray.size<=sizeLine:=by rw[ZM,ZM];omega
 have G:¬(!J.toArray.isEmpty && Builtin.List.listTooLong (J.toArray.size+Z.toArray.size))=true:=by
  rw[N8 L,j5];exact Zg
 refine qa F.slot_list_extend ⟨_,e,Y⟩ F.entry_list_extend (F.args_list_extend_2 _ _)
  (AutoSeq1.list_extend_list_list_0 l J.toArray n b Z.toArray D G (by rw[ZM];omega)<|by omega) ⟨e,S,?_⟩
 refine⟨.non,_,I.lset (its':=J++ Z) N e (by simp) (r.append B) ?_,Y,q⟩;rw[ZJ];omega
def Sx:V->List V->Hp->VK->Prop:=λx J H Q=>∃l Z,x=.ref l/\J=[]/\H l=some (.lst Z)/\Q .non (upd H l<|.lst [])
def Lp:MtM X "list.clear" Sx:=by
 intro G s U H x R v T Q I M N h;obtain⟨l,O,rfl,rfl,L,q⟩:=h;cases M;have J:=N.zero;subst J;obtain⟨z,Z,n,r,B,e⟩:=I.lstM L;refine qa F.slot_list_clear ⟨_,e,Y⟩ F.entry_list_clear (F.args_list_clear_1 _) (AutoSeq1.list_clear_list_0 l Z.toArray n (by rw[ZM];omega)) ⟨e,?_⟩;exact⟨.non,_,I.lset (its':=[]) (ys:=[]) L e Y .nil (Za _),Y,q⟩
def yI:R2:=λx y H Q=>∃l b J Z,x=.ref l/\y=.ref b/\H l=some (.lst J)/\H b=some (.lst Z)/\J.length+Z.length<=sizeLine/\∀p,H p=none->Q (.ref p) (upd H p<|.lst<|J++ Z)
def Dr:OpR X (binaryOp .Add) yI:=by
 intro G s U H x y v u Q I M L h;obtain⟨l,b,A,E,rfl,rfl,R,T,C,q⟩:=h;cases M;cases L;obtain⟨z,J,n,r,P,e⟩:=I.lstM R;obtain⟨F,Z,S,N,O,D⟩:=I.lstM T;refine PySem.P.add_list e D ?_ (by rw[ZM,ZM];omega);have B:J.toArray++ Z.toArray=(J++ Z).toArray:=by simp
 rw[B];exact⟨.ref _,_,I.lnew (t':=s.toks) (r.append N) (by rw[ZJ];omega),Y,q _ I.fresh⟩
def yF:R2:=λx y H Q=>∃l k Z,x=.ref l/\y=.int k/\H l=some (.lst Z)/\ -(2 ^ 63)<=k/\k<2 ^ 63/\Z.length*k.toNat<=sizeLine/\
 ∀p,H p=none->Q (.ref p) (upd H p<|.lst (List.replicate k.toNat Z).flatten)
def len_rep(Z:List α)(k:Nat):(List.replicate k Z).flatten.length=k*Z.length:=by
 induction k with
 |zero=>simp
 |succ k ih=>rw[vg,vT,ZJ,ih,v0,Nat.add_comm]
def AA:OpR X (binaryOp .Mult) yF:=by
 intro B s U H x y v u Q I S A h;obtain⟨l,k,c,rfl,rfl,P,g,j,D,q⟩:=h;cases S;obtain⟨t,rfl⟩:=A;obtain⟨z,Z,n,r,C,e⟩:=I.lstM P;have L:Z.toArray.size*k.toNat<=sizeLine:=by rw[ZM,<-C];exact D
 have N:¬Z.toArray.size*k.toNat > (2 ^ 63-1) / 8:=by
  have:(sizeLine:Nat)<=(2 ^ 63-1) / 8:=by decide
  omega
 have M:¬(!Builtin.List.listFitsIndex k)=true:=by
  rw[fitsIndex_both g j];exact Zg
 have J:¬Builtin.List.listTooLong (Z.toArray.size*k.toNat)=true:=by
  rw[N8 L];exact Zg
 have G:List.foldl (λR O=>R++ O) #[] (List.replicate (if Z.toArray.isEmpty=true then 0 else k.toNat) Z.toArray)=(List.replicate k.toNat Z).flatten.toArray:=by
  have p:∀m:Nat,List.foldl (λR O=>R++ O) #[] (List.replicate m Z.toArray)=(List.replicate m Z).flatten.toArray:=λm=>by
   have:=foldl_rep Z m [];rw[List.nil_append]at this;exact this
  rw[p]
  cases Z with
  |nil=>simp
  |cons a d=>rw[Zo (by simp)]
 refine wpAny_binaryOp_repeat_ref (T:="list") (U:="int") (by decide) ⟨_,e,Y⟩ (λE=>typeIs_int E k t) noFill_list_mul F.fills_int_mul F.slot_int_rmul repeat_list F.slot_int_index.lookup
  (qa F.slot_int_rmul (typeIs_int s k t) F.entry_int_rmul (F.args_int_rmul_2 _ _) (int___rmul___int_list k t l Z.toArray n)
   ⟨e,rfl,⟨_,e,rfl⟩,qa F.slot_list_mul ⟨_,e,rfl⟩ F.entry_list_mul (F.args_list_mul_2 _ _) (AutoListH.list___mul___list_int_3 l Z.toArray n k t M N J) ⟨e,?_⟩⟩)
 rw[G];exact⟨.ref _,_,I.lnew (t':=s.toks) (r.rep k.toNat) (by rw[len_rep,Nat.mul_comm];exact D),Y,q _ I.fresh⟩
end
section
set_option maxRecDepth 100000 in
end
section
variable{κ:Type}[DecidableEq κ]
def VI(kvs:List (κ×V))(k:κ):kJ:=(kvs.find? λZ=>decide<|Z.1=k).map (·.2)
def putK(kvs:List (κ×V))(k:κ)(v:V):List (κ×V):=
 if(kvs.any λZ=>decide<|Z.1=k)=true then kvs.map (λZ=>if Z.1=k then(Z.1,v)else Z)else kvs++[(k,v)]
def JR{p:κ×V}(e:p.1=k):VI (p::r) k=some p.2:=by simp[VI,y9,e]
def JT{p:κ×V}(e:¬p.1=k):VI (p::r) k=VI r k:=by simp[VI,y9,e]
theorem Uu(k:κ):∀Z:List (κ×V),(Z.any λJ=>decide<|J.1=k)=(VI Z k).isSome
 |[]=>rfl
 |p::r=>by
  rw[jQ]
  by_cases e:p.1=k
  .simp only[JR e,decide_eq_true e,Bool.true_or,Option.isSome_some]
  .rw [JT e,Zw e,Bool.false_or];exact Uu k r
theorem Nh(k j:κ)(y:V):∀Z:List (κ×V),VI (Z.map λJ=>if J.1=k then(J.1,y)else J) j=(VI Z j).map λx=>if j=k then y else x
 |[]=>rfl
 |p::r=>by
  have ih:=Nh k j y r;rw[ZT]
  by_cases h:p.1=k
  .rw [Zn h]
   by_cases e:p.1=j
   .rw [JR (p:=(p.1,y)) e,JR e,jX,Zn (e.symm.trans h)]
   .rw [JT (p:=(p.1,y)) e,JT e,ih]
  .rw [Zo h]
   by_cases e:p.1=j
   .rw [JR (p:=p) e,JR e,jX,Zo (λz=>h<|e.trans z)]
   .rw [JT (p:=p) e,JT e,ih]
theorem Rq(k j:κ)(y:V):∀Z:List (κ×V),VI Z k=none->VI (Z++[(k,y)]) j=if j=k then some y else VI Z j
 |[],_=>by
  by_cases e:k=j
  .rw [Zn e.symm];exact JR (p:=(k,y)) e
  .rw [Zo (λz=>e z.symm)];exact JT (p:=(k,y)) e
 |p::r,hn=>by
  rw[jS];have J:¬p.1=k:=λz=>by rw[JR z]at hn;cases hn
  rw[JT J]at hn;have ih:=Rq k j y r hn
  by_cases e:p.1=j
  .rw [JR e,JR e,Zo (λz=>J<|e.trans z)]
  .rw [JT e,JT e,ih]
def UO(Z:List (κ×V))(k j:κ)(y:V):VI (putK Z k y) j=if j=k then some y else VI Z j:=by
 unfold putK
 by_cases a:(Z.any λJ=>decide<|J.1=k)=true
 .rw [Zn a,Nh]
  rw[Uu]at a
  by_cases e:j=k
  .obtain ⟨x,hx⟩:=jO.mp a
   rw[Zn e,e,hx,jX,Zn rfl]
  .rw [Zo e]
   cases VI Z j with
   |none=>rfl
   |some x=>rw[jX,Zo e]
 .rw [Zo a]
  refine Rq k j y Z ?_;rw[Uu]at a
  cases q:VI Z k with
  |none=>rfl
  |some x=>rw[q]at a;exact(a rfl).elim
def JB(Z:List (κ×V))(k:κ)(v:V):(putK Z k v).length<=Z.length+1:=by
 unfold putK
 split
 .rw [ZA];omega
 .rw [ZJ,Zd,List.length_nil];omega
def Ux{Z:List (κ×V)}(v:V)(h:VI Z k=none):putK Z k v=Z++[(k,v)]:=by
 unfold putK;rw[Uu,h];exact Zo<|by decide
def Ud.isSome_eq(r:Ud o u):o.isSome=u.isSome:=by
 cases o with
 |none=>cases u with
  |none=>rfl
  |some _=>exact(show False from r).elim
 |some _=>cases u with
  |none=>exact(show False from r).elim
  |some _=>rfl
def Ud.getD(r:Ud o u)(Z:RelV d d'):RelV (o.getD d) (u.getD d'):=by
 cases o with
 |none=>cases u with
  |none=>exact Z
  |some _=>exact(show False from r).elim
 |some _=>cases u with
  |none=>exact(show False from r).elim
  |some _=>exact r
def KV.val(r:KV J L)(k:κ):Ud (VI J k) (valueAt L k):=by
 unfold KV at r
 induction r with
 |nil=>exact True.intro
 | @cons p q N Z h t ih=>
  obtain⟨G,M⟩:=h
  by_cases e:p.1=k
  .have e':q.1=k:=G.symm.trans e
   have b:valueAt (q::Z) k=some q.2:=by simp[valueAt,y9,e']
   rw[JR e,b];exact M
  .have e':¬q.1=k:=λz=>e<|G.trans z
   have b:valueAt (q::Z) k=valueAt Z k:=by simp[valueAt,y9,e']
   rw[JT e,b];exact ih
def KV.any(r:KV Z G)(k:κ):(Z.any λJ=>decide<|J.1=k)=G.any λJ=>decide (J.1=k):=by
 unfold KV at r
 induction r with
 |nil=>rfl
 |cons h t ih=>rw[jQ,jQ,ih,h.1]
def KV.repl(r:KV G L)(k:κ)(M:RelV y u):
  KV (G.map λZ=>if Z.1=k then(Z.1,y)else Z) (L.map λZ=>if Z.1=k then(Z.1,u)else Z):=by
 unfold KV at r |-
 induction r with
 |nil=>exact .nil
 | @cons p q R O h t ih=>
  rw[ZT,ZT];refine .cons ?_ ih;obtain⟨J,N⟩:=h
  by_cases e:p.1=k
  .rw [Zn e,Zn (J.symm.trans e)];exact⟨J,M⟩
  .rw [Zo e,Zo (λz=>e<|J.trans z)];exact⟨J,N⟩
def KV.put(r:KV Z J)(k:κ)(G:RelV y u):KV (putK Z k y) (stored J k u):=by
 unfold putK stored;rw[r.any k]
 by_cases e:(J.any λL=>decide<|L.1=k)=true
 .rw [Zn e,Zn e];exact r.repl k G
 .rw [Zo e,Zo e];exact Paired.snoc r ⟨Y,G⟩
def KV.keys{Z:List (κ×V)}(r:KV Z J):Z.map (·.1)=J.map (·.1):=by
 unfold KV at r
 induction r with
 |nil=>rfl
 |cons h t ih=>rw[ZT,ZT,ih,h.1]
def KV.length(r:KV Z J):Z.length=J.length:=Paired.length r
end
def Gg(r:RelV (kV k) u):(VT P w).is k u=true:=by
 cases k with
 |inl i=>obtain⟨t,e⟩:=(show ∃t,u=Value.int i t from r);subst e;exact BF P w i t
 |inr x=>obtain⟨t,e⟩:=(show ∃t,u=Value.str x t from r);subst e;exact BC P w x t
theorem MA:∀{Z:List Key}{J:kj},Vals (Z.map kV) J->ItemsAre (VT P w) Z J
 |[],_,r=>by rw[v7]at r;cases r;exact .nil
 |k::Z,_,r=>by
  rw[ZT]at r
  cases r with
  |cons h t=>exact .cons (Gg h)<|MA t
abbrev KT(H:Hp):List (List Key×V)->List (List Key×Addr×Value)->Prop:=Paired λp q=>p.1=q.1/\H q.2.1=some (.tup (p.1.map kV))/\RelV p.2 q.2.2
def KT.val(r:KT H J L)(k:List Key):Ud (VI J k) ((atKey L k).map (·.2)):=by
 induction r with
 |nil=>exact True.intro
 | @cons p q N Z h t ih=>
  obtain⟨G,_,M⟩:=h
  by_cases e:p.1=k
  .have e':q.1=k:=G.symm.trans e
   have b:atKey (q::Z) k=some q.2:=by simp[atKey,y9,e']
   rw[JR e,b];exact M
  .have e':¬q.1=k:=λz=>e<|G.trans z
   have b:atKey (q::Z) k=atKey Z k:=by simp[atKey,y9,e']
   rw[JT e,b];exact ih
def KT.repl(r:KT H J M)(k:List Key)(N:RelV y u):
  KT H (J.map λG=>if G.1=k then(G.1,y)else G) (M.map<|putAt k u):=by
 induction r with
 |nil=>exact .nil
 | @cons p q T R h t ih=>
  rw[ZT,ZT];refine .cons ?_ ih;obtain⟨Z,L,O⟩:=h;unfold putAt
  by_cases e:p.1=k
  .rw [Zn e,Zn (Z.symm.trans e)];exact⟨Z,L,N⟩
  .rw [Zo e,Zo (λz=>e<|Z.trans z)];exact⟨Z,L,O⟩
def KT.put(r:KT H Z J)(k:List Key)(M:H b=some (.tup<|k.map kV))(G:RelV y u):
  KT H (putK Z k y) (storedH J k b u):=by
 have e:(Z.any λL=>decide<|L.1=k)=(atKey J k).isSome:=by
  rw[Uu,(r.val k).isSome_eq,qu]
 unfold putK storedH;rw[e]
 by_cases q:(atKey J k).isSome=true
 .rw [Zn q,Zn q];exact r.repl k G
 .rw [Zo q,Zo q];exact Paired.snoc r ⟨Y,M,G⟩
def KT.keeps(r:KT H Z J)(G:∀b ys,H b=some (.tup ys)->L b=some (.tup ys)):KT L Z J:=
 Paired.mapP r λ_ _ z=>⟨z.1,G _ _ z.2.1,z.2.2⟩
section
def Ql(Z:HOk P w H h)(e:Rd H a u):Va P w H h a u:=e.ok Z
def Gi(G:HOk P w H h)(e:Rd H a (.dK Z)):Z.length<=sizeLine/\(a==sysModules)=false/\∃J,KV Z J/\h.DictOf (VT P w) a J:=
 show Va P w H h a (.dK Z)from Ql G e
def Q3(G:HOk P w H h)(e:H a=some (.dK Z)):Z.length<=sizeLine/\(a==sysModules)=false/\∃J,KV Z J/\h.DictOf (VT P w) a J:=Gi G<|.inl e
def W9(G:HOk P w H h)(e:H a=some (.tup<|J.map kV)):(tupleKind<|VT P w).is h J a:=by
 obtain⟨_,Z,r,o,N,_,M,n,L⟩:=(show Va P w H h a (.tup<|J.map kV)from G a _ e);exact⟨o,Z.toArray,n,N,M,L,by simpa using MA r⟩
def Re(M:HOk P w H h)(e:Rd H a (.dT Z)):Z.length<=sizeLine/\(a==sysModules)=false/\
  ∃G,KT H Z G/\h.DictOfH (tupleKind<|VT P w) a G:=by
 obtain⟨z,y,G,r,o,E,F,D,B,T,R,O⟩:=(show Va P w H h a (.dT Z)from Ql M e);refine⟨z,y,G,r,o,E,F,D,B,T,R,λx J=>?_,O⟩
 have L:∀{l:List (List Key×V)}{m:List (List Key×Addr×Value)},KT H l m->∀x∈m,(tupleKind<|VT P w).is h x.1 x.2.1:=by
  intro l m q
  induction q with
  |nil=>intro x J;exact nomatch J
  | @cons p q I A N t ih=>
   intro x J;rcases Zb.mp J with e|J
   .subst e
    exact W9 M (by rw[<-N.1];exact N.2.1)
   .exact ih x J
 exact L r x J
def zI(G:HOk P w H h)(e:H a=some (.dT Z)):Z.length<=sizeLine/\(a==sysModules)=false/\
  ∃J,KT H Z J/\h.DictOfH (tupleKind<|VT P w) a J:=Re G<|.inl e
end
def V1(H:Hp)(a:Addr)(y:V)(r:kJ):Prop:=
 (∃Z k,Rd H a (.dK Z)/\y=kV k/\r=VI Z k) \/ ∃Z k b,Rd H a (.dT Z)/\y=.ref b/\H b=some (.tup<|k.map kV)/\r=VI Z k
def Us(H:Hp)(a:Addr)(y v:V)(H':Hp):Prop:=
 (∃Z k,H a=some (.dK Z)/\y=kV k/\Z.length<sizeLine/\H'=upd H a (.dK<|putK Z k v)) \/
 ∃Z k b,H a=some (.dT Z)/\y=.ref b/\H b=some (.tup<|k.map kV)/\Z.length<sizeLine/\H'=upd H a (.dT<|putK Z k v)
def V1.k{k:Key}(e:H a=some (.dK Z)):V1 H a (kV k) (VI Z k):=.inl ⟨Z,k,.inl e,rfl,rfl⟩
def V1.t{k:List Key}(e:H a=some (.dT Z))(J:H b=some (.tup<|k.map kV)):V1 H a (.ref b) (VI Z k):=.inr ⟨Z,k,b,.inl e,rfl,J,rfl⟩
def Us.k{k:Key}(e:H a=some (.dK Z))(J:Z.length<sizeLine):Us H a (kV k) v (upd H a<|.dK<|putK Z k v):=.inl ⟨Z,k,e,rfl,J,rfl⟩
def Us.t{k:List Key}(e:H a=some (.dT Z))(G:H b=some (.tup<|k.map kV))(J:Z.length<sizeLine):
  Us H a (.ref b) v (upd H a<|.dT<|putK Z k v):=.inr ⟨Z,k,b,e,rfl,G,J,rfl⟩
section
def Inv.big(I:Inv X Z U H s):sysModules<s.heap.objs.size:=by
 have h:mainGlobals<s.heap.objs.size:=(I.mod.glob.keeps I.bk).lt;exact Nat.lt_trans (by decide) h
def Ih(C:A.units+1<cLine)(I:Inv X L U H s)(g:V1 H a y (some v))(D:RelV y u)(h:∀G B,Inv X L U H B->RelV v G->Q G B):
  wpAny (model X.prog X.w) A (getItem (.ref a) u) Q E s:=by
 rcases g with⟨M,k,e,R,l⟩|⟨M,k,b,e,R,q,l⟩
 .subst R
  obtain⟨z,j,S,J,T⟩:=Gi I.hok e;obtain⟨G,N,Z⟩:=Ud.some_of (v:=v) (o:=valueAt S k) (by rw[l];exact J.val k);exact wpAny_getItem_of (Gg D) T.mapOf N<|h G _ (I.tok _) Z
 .subst R
  cases(show u=Value.ref b from D);obtain⟨z,j,F,J,T⟩:=Re I.hok e;obtain⟨G,N,Z⟩:=Ud.some_of (v:=v) (o:=(atKey F k).map (·.2)) (by rw[l];exact J.val k);obtain⟨p,P,O⟩:=Zh.mp N;refine wpAny_getItem_heap (jk C) (W9 I.hok q) T P ?_;rw[O];exact h G _ (I.tok _) Z
def yY(T:A.units+1<cLine)(I:Inv X J U H s)(g:V1 H a y o)(R:RelV y u)(h:∀O,Inv X J U H O->Q (.bool o.isSome) O):
  wpAny (model X.prog X.w) A (compareOp .In u<|.ref a) Q E s:=by
 rcases g with⟨G,k,e,M,l⟩|⟨G,k,b,e,M,B,l⟩
 .subst M
  obtain⟨z,L,F,Z,N⟩:=Gi I.hok e;refine wpAny_in_of (Gg R) L N.mapOf ?_;rw[<-(Z.val k).isSome_eq,<-l];exact h _<|I.tok _
 .subst M
  cases(show u=Value.ref b from R);obtain⟨z,L,D,Z,N⟩:=Re I.hok e;refine wpAny_in_heap (jk T) (W9 I.hok B) L N ?_;have q:=(Z.val k).isSome_eq;rw[qu]at q;rw[<-q,<-l];exact h _<|I.tok _
def QU(T:A.units+1<cLine)(I:Inv X J U H s)(g:V1 H a y o)(R:RelV y u)(h:∀O,Inv X J U H O->Q (.bool<|!o.isSome) O):
  wpAny (model X.prog X.w) A (compareOp .NotIn u<|.ref a) Q E s:=by
 rcases g with⟨G,k,e,M,l⟩|⟨G,k,b,e,M,B,l⟩
 .subst M
  obtain⟨z,L,F,Z,N⟩:=Gi I.hok e;refine wpAny_notIn_of (Gg R) L N.mapOf ?_;rw[<-(Z.val k).isSome_eq,<-l];exact h _<|I.tok _
 .subst M
  cases(show u=Value.ref b from R);obtain⟨z,L,D,Z,N⟩:=Re I.hok e;refine wpAny_notIn_heap (jk T) (W9 I.hok B) L N ?_;have q:=(Z.val k).isSome_eq;rw[qu]at q;rw[<-q,<-l];exact h _<|I.tok _
def FJ(I:Inv X Z U H s)(L:Mut (H a))(M:Heap.SameBut a s.heap G)(N:∃q,G.get? a=some q)(J:Va X.prog X.w (upd H a ob) G a ob):
  Inv X Z U (upd H a ob) {s with heap:=G,toks:=R}:=
 I.write (x:=a) (e:=a) L (.inl rfl) (λb q O z=>(M.2 b O).trans z) N J
def EE(z:Z.length<=sizeLine)(L:(a==sysModules)=false)(J:KV Z G)(N:M.DictOf (VT P w) a G):
  Va P w O M a (.dK Z):=⟨z,L,G,J,N⟩
def Ig(f:A.units+1<cLine)(I:Inv X L U H s)(g:Us H a y v H')(C:RelV y u)(P:RelV v r)(h:∀S,Inv X L U H' S->Q () S):
  wpAny (model X.prog X.w) A (setItem (.ref a) u r) Q E s:=by
 rcases g with⟨J,k,e,B,l,D⟩|⟨J,k,b,e,B,m,l,D⟩
 .subst B D
  obtain⟨z,T,d,Z,F⟩:=Q3 I.hok e;have N:d.length<=sizeLine:=by rw[<-Z.length];exact z
  have R:(putK J k v).length<=sizeLine:=by have:=JB J k v;omega
  refine wpAny_setItem_pairs (hsz:=N) (Gg C) F λj G O=>h _ ?_;have w:∃q,j.get? a=some q:=let⟨q,_,_,M,_⟩:=G;⟨q,M⟩
  exact FJ I (by rw[e];exact True.intro) O w<|EE R T (Z.put k P) G
 .subst B D
  cases(show u=Value.ref b from C);obtain⟨z,T,p,Z,F⟩:=zI I.hok e;have N:p.length<=sizeLine:=by rw[<-Paired.length Z];exact z
  have R:(putK J k v).length<=sizeLine:=by have:=JB J k v;omega
  refine wpAny_setItem_heap (hsz:=N) (jk f) (W9 I.hok m) F λj G O=>h _ ?_;obtain⟨q,es,ep,M,x,n,i,_,o⟩:=G;refine FJ I (by rw[e];exact True.intro) O ⟨q,M⟩ ⟨R,T,_,(Z.put k m P).keeps λc ys t=>?_,q,es,ep,M,x,n,i,o⟩;rw[Yd (JQ t e λz=>nomatch z)];exact t
end
def A8(i:Expr):Prop:=∀Z J,subscripted i false Z J=operate [Z,J] (getItem Z J)
def EY{T B:String}(F:typeLookup (.type T) "__getitem__"=pure (some<|.builtin B))(D:A8 slice)(h:wpAny (model prog w) A (eval value env) (λo L=>wpAny (model prog w) A (eval slice env) (λi Z=>Z.TypeIs o T/\wpAny (model prog w) A (getItem o i) Q E Z) E L) E s):
  wpAny (model prog w) A (eval (.Subscript value slice pos) env) Q E s:=by
 refine Subscript_<|Zl h (λo L O=>Zl O (λi Z J=>?_) λ_ _ x=>x) λ_ _ x=>x;obtain⟨R,J⟩:=J;unfold subscriptTail;refine Zj ?_;rw[getitemInPython_of_ne R.not_modules];refine Zj<|wpAny_specialOf R F ?_
 have M:wpAny (model prog w) A (subscripted slice false o i) (λr G=>wpAny (model prog w) A (letTemporaryGo value o r >>=λ_=>pure r) Q E G) E Z:=by
  rw[D o i];exact wpAny_operating (Zl J (λr G N=>Zj<|wpAny_letTemporaryGo<|Zk N) λ_ _ x=>x)
 first
  |exact Zk<|Zj M
  |exact Zj<|Zk<|Zj M
  |exact Zj M
def BY(I:Inv X J U H s)(g:V1 H a y o):s.TypeIs (.ref a) "dict":=by
 rcases g with⟨Z,k,e,_,_⟩|⟨Z,k,b,e,_,_,_⟩
 .obtain ⟨_,_,vs,_,dd⟩:=Gi I.hok e
  exact dd.typeIs
 .obtain ⟨_,_,xs,_,dd⟩:=Re I.hok e
  exact dd.typeIs
def Qh(td ty:TE):TE:=λU H Q=>td U H λx J=>ty U J λy Z=>Jb x λa=>∃v,V1 Z a y (some v)/\Q v Z
def zn(ty td:TE):TE:=λU H Q=>ty U H λy J=>td U J λx Z=>Jb x λa=>∃o,V1 Z a y o/\Q (.bl o.isSome) Z
def O1(ty td:TE):TE:=λU H Q=>ty U H λy J=>td U J λx Z=>Jb x λa=>∃o,V1 Z a y o/\Q (.bl<|!o.isSome) Z
def CO(td ty tv:TE):TS:=λD U H=>tv U H λv L=>td U L λx G=>ty U G λy J=>Jb x λa=>∃Z,Us J a y v Z/\D.nx U Z
section
def JF(T:X.A.units+1<cLine)(D:PE X o td)(E:PE X i ty)(B:A8 i):PE X (.Subscript o i pos) (Qh td ty):=by
 intro Z s U H Q I h;refine EY PySem.F.slot_dict_getitem.lookup B<|thn (D Z s U H _ I h) λu M ⟨x,P,S,O,R⟩=>thn (E Z M U P _ S R) λt q ⟨y,C,L,N,J⟩=>?_;replace J:=Jb.old J;obtain⟨a,F,v,g,J⟩:=J;subst F;obtain rfl:u=Value.ref a:=O;exact⟨BY L g,Ih T L g N λj z A G=>⟨v,C,A,G,J⟩⟩
def WC(R:X.A.units+1<cLine)(B:PE X i ty)(T:PE X o td):PC X .In i o (zn ty td):=by
 intro Z s U H Q I h;refine thn (B Z s U H _ I h) λz G ⟨y,C,A,L,N⟩=>thn (T Z G U C _ A N) λu j ⟨x,S,F,M,J⟩=>?_;replace J:=Jb.old J;obtain⟨a,D,O,g,J⟩:=J;subst D;obtain rfl:u=Value.ref a:=M;exact yY R F g L λP E=>⟨.bl O.isSome,S,E,Y,J⟩
def UM(R:X.A.units+1<cLine)(B:PE X i ty)(T:PE X o td):PC X .NotIn i o (O1 ty td):=by
 intro Z s U H Q I h;refine thn (B Z s U H _ I h) λz G ⟨y,C,A,L,N⟩=>thn (T Z G U C _ A N) λu j ⟨x,S,F,M,J⟩=>?_;replace J:=Jb.old J;obtain⟨a,D,O,g,J⟩:=J;subst D;obtain rfl:u=Value.ref a:=M;exact QU R F g L λP E=>⟨.bl<|!O.isSome,S,E,rfl,J⟩
def JP(E:X.A.units+1<cLine)(A:PE X o td)(S:PE X i ty)(B:PE X value tv)(F:swapsWith value (some<|.Subscript o i pos') pos.line X.env=pure false):
  PS X (.Assign [.Subscript o i pos'] value pos) (CO td ty tv):=by
 intro Z s U H D I h;refine wpAny_Assign_Subscript (thn (B Z s U H _ I h) λr L ⟨v,m,z,O,T⟩=>thn (A Z L U m _ z T) λu G ⟨x,t,j,N,R⟩=>thn (S Z G U t _ j R) λc p ⟨y,d,Q,M,J⟩=>?_) F;replace J:=Jb.old J;obtain⟨a,C,q,g,J⟩:=J;subst C;obtain rfl:u=Value.ref a:=N;exact Ig E Q g M O λk P=>⟨U,q,P,J⟩
end
def OW(h:Heap)(Z:sysModules<h.objs.size):Va P w H (h.push {cls:=.type "dict",data:=.dict #[]}) h.objs.size (.dK []):=
 ⟨Za _,beq_eq_false_iff_ne.mpr<|Zq<|Zc Z,[],.nil,Heap.DictOf.new h⟩
def OT(h:Heap)(Z:sysModules<h.objs.size):Va P w H (h.push {cls:=.type "dict",data:=.dict #[]}) h.objs.size (.dT []):=
 ⟨Za _,beq_eq_false_iff_ne.mpr<|Zq<|Zc Z,[],.nil,_,#[],0,ZW _ rfl,⟨rfl,rfl,rfl⟩,rfl,rfl,List.nodup_nil⟩
def SN:TE:=λ_ H Q=>∀p,H p=none->Q (.ref p) (upd H p<|.dK [])
def SM:TE:=λ_ H Q=>∀p,H p=none->Q (.ref p) (upd H p<|.dT [])
section
def JJ:PE X (.Dict [] [] pos) SN:=λZ s U H Q I h=>
 wpAny_Dict_empty ⟨.ref s.heap.objs.size,_,I.laid (a:=s.heap.objs.size) (o:=.dK []) (t':=s.toks) (λ_ _ q=>ZD _ q) (ZF _)<|OW s.heap I.big,rfl,h _<|I.hok.fresh<|ZF _⟩
def LR:PE X (.Dict [] [] pos) SM:=λZ s U H Q I h=>
 wpAny_Dict_empty ⟨.ref s.heap.objs.size,_,I.laid (a:=s.heap.objs.size) (o:=.dT []) (t':=s.toks) (λ_ _ q=>ZD _ q) (ZF _)<|OT s.heap I.big,rfl,h _<|I.hok.fresh<|ZF _⟩
end
structure M1(X:Cx)(o:Expr)(m:Str)(apos:Pos)(e:Expr)(cpos:Pos):Prop where
 base:attributeBase o m X.env (eval o X.env)=eval o X.env
 few:((backTo cpos (starEach [e] X.env)).all (λx=>!x.1) && (backToKw cpos (keywordEach [] X.env)).all (λx=>x.1.isSome)
  && decide (([e]:List Expr).length+([]:List Keyword).length+(if([]:List Keyword).isEmpty then 0 else 1)<30))=true
 line:(apos.endLine==cpos.line)=true
 trees:backTo cpos (starEach [e] X.env)=[(false,eval e X.env)]
def IsD(H:Hp)(a:Addr):Prop:=(∃Z,Rd H a<|.dK Z) \/ ∃Z,Rd H a<|.dT Z
def Ag(I:Inv X M U H s)(d:IsD H a):
  s.TypeIs (.ref a) "dict" /\(∀b,Value.ref a=.ref b->∃Z,s.heap.get? b=some Z/\Z.dict=none)/\(a==sysModules)=false:=by
 rcases d with⟨J,e⟩|⟨J,e⟩
 .obtain ⟨_,hd,vs,_,dd⟩:=Gi I.hok e
  refine⟨dd.typeIs,λb q=>?_,hd⟩;cases q;obtain⟨Z,_,_,L,G,_⟩:=dd;exact⟨Z,L,G.2.1⟩
 .obtain ⟨_,hd,xs,_,dd⟩:=Re I.hok e
  refine⟨dd.typeIs,λb q=>?_,hd⟩;cases q;obtain⟨Z,_,_,L,G,_⟩:=dd;exact⟨Z,L,G.2.1⟩
section
def A0(D:A.units+1<cLine)(I:Inv X J U H s)(g:V1 H a y o)(T:RelV y u)(h:∀O R,Inv X J U H R->RelV (o.getD .non) O->Q O R):
  wpAny (model X.prog X.w) A (call (.builtin "dict.get") [.ref a,u]) Q E s:=by
 rcases g with⟨L,k,e,N,l⟩|⟨L,k,b,e,N,F,l⟩
 .subst N
  obtain⟨z,M,S,Z,G⟩:=Gi I.hok e;refine call_meetsIn jZ G.typeIs PySem.F.entry_dict_get (PySem.F.args_dict_get_2 _ _) (meets_dict_get (VT X.prog X.w) a (Gg T) M) ⟨_,G.mapOf,h _ _ (I.tok _) ?_⟩;rw[l];exact(Z.val k).getD rfl
 .subst N
  cases(show u=Value.ref b from T);obtain⟨z,M,B,Z,G⟩:=Re I.hok e;refine call_meetsIn jZ G.typeIs PySem.F.entry_dict_get (PySem.F.args_dict_get_2 _ _) (meetsH_dict_get (tupleKind<|VT X.prog X.w) a b M) ⟨jk D,k,B,W9 I.hok F,G,h _ _ (I.tok _) ?_⟩;rw[l];exact(Z.val k).getD rfl
end
def SO(td ty:TE):TE:=λU H Q=>td U H λx J=>Jb x λa=>IsD J a/\ty U J λy Z=>∃o,V1 Z a y o/\Q (o.getD .non) Z
section
def RH(D:X.A.units+1<cLine)(E:PE X o td)(F:PE X e ty)(m:M1 X o "get" apos e cpos):PE X (.Call (.Attribute o "get" apos) [e] [] cpos) (SO td ty):=by
 intro Z s U H Q I h;refine wpAny_Call_method m.base m.few m.line PySem.F.plainAttrs_dict jZ PySem.F.type_dict_get<|thn (E Z s U H _ I h) λu O ⟨x,j,L,T,J⟩=>?_;replace J:=Jb.old J;obtain⟨a,A,d,J⟩:=J;subst A;obtain rfl:u=Value.ref a:=T;obtain⟨N,M,_⟩:=Ag L d;exists N,M;rw[m.trees];refine Calls.callWith_builtin Y (Calls.evalArgs_plain<|Calls.spliced_cons<|thn (F Z O U j _ L J) λp t ⟨y,P,C,R,k,g,B⟩=>Calls.spliced_nil ?_);exact A0 D C g R λz q S G=>⟨_,P,S,G,B⟩
end
end L2
namespace Att
open PySem PySem.W PySem.Calls PyProof.Rows
def Gp:∀(Z:List Int)(J:List Value),WellAll P h J (Z.map WData.int)->IntsAre J Z:=by
 intro Z
 induction Z with
 |nil=>
  intro J w;rw[v7]at w;cases w;exact .nil
 |cons n Z ih=>
  intro J w;rw[ZT]at w
  cases w with
  |cons a b=>
   cases a;exact .cons _ _<|ih _ b
def Fg{l:OpenLaw}(I:l.most=some n)(J:l.row.toRowW.claim.pre args=true)(O:WellAll P h vals args):
  ∃a T Z,vals=[Value.ref a]/\args=[WData.list (Z.map WData.int)]/\h.get? a=some {cls:=.type "list",data:=.seq T.toArray}/\IntsAre T Z/\Z.length<=n:=by
 have R:WShape.hasAll [] args [.list .int]=true:=(pre_splitW J).1;have B:l.pre.holds [] {args:=args}=true:=(pre_splitW J).2;obtain⟨d,r,rfl,C,U⟩:=hasAllW_cons R;obtain rfl:=hasAllW_nil U;obtain⟨X,rfl,S⟩:=hasW_list C;obtain⟨Z,rfl⟩:=items_int S
 have G:Z.length<=n:=by
  unfold OpenLaw.pre at B
  have N:(WTm.not<|.lt (.lit<|.int (n:Int))<|.len<|.arg 0).holds [] {args:=[.list (Z.map .int)]}=true:=by
   have N:=(holds_andW B).1;rw[I]at N;exact N
  have M:=condW_of N<|w_not<|w_lt w_lit<|w_len_list<|w_arg rfl;rw[ZA]at M;refine jm λq=>?_;have F:(n:Int)<((Z.length:Nat):Int):=by omega
  first
   |(rw[decide_eq_true F]at M;exact Zp M<|by decide)
   |(simp at M;omega)
 cases O with
 |cons E D=>
  cases D
  cases E with
  |list A L=>exact⟨_,_,Z,Y,Y,A,Gp Z _ L,G⟩
def Fq(l:OpenLaw)(args:List WData):l.row.toRowW.claim.post args (.bool true) args=true:=
 postW_of (r:=l.row.toRowW) (X:=(true==true))
  (show WShape.has [] (.bool true) .bool=true by first|rfl|decide|simp[WShape.has,WShape.arms,WShape.armsAll])
  (show(WTm.eq .res<|.lit<|.bool true).value [] {args:=args,res:=some<|.bool true,after:=args}=some (.bool<|true==true)from w_eq_bool (w_res rfl) w_lit) rfl
theorem attach_call{l:OpenLaw}(g:l.most=some n)(X:d.params.defaults=[])(call:∀(w:World)(J Z:Shared)(F S:Str->Option Value)(B:Addr)(o:Obj)(I A M:Value)(a:Addr)(N:List Value)(E:List Int),
   Ground q loose [] XP w J F S Z.heap->YP w Z.heap->
   Z.heap.get? B=some o->o.data=.func (docDef d.name d.params d.body d.scope I A M)->Z.heap.CodeRec A d.name->F d.name=some (.ref B)->
   Z.heap.get? a=some {cls:=.type "list",data:=.seq N.toArray}->IntsAre N E->E.length<=n->Z.gens= #[]->
   codeAny (model l.prog w) callerA (.call (.ref B) ⟨[.ref a],[]⟩) (λr D=>r=.ok (.ret<|.bool true)/\OldK Z.heap D.heap/\D.os=Z.os/\AllBare D.gens) Z):
  WalkO q loose XP YP l.row.toRowW d [] (λf N=>PySem.call f N):=by
 intro w J Z F S G Y B o I A M i kV m u P y C c args Q s O j z U p;obtain rfl:i=.none:=Dflts.none y X;obtain rfl:kV=.none:=Dflts.noKw y;obtain⟨a,N,E,rfl,rfl,R,L,T⟩:=Fg g O U;refine enter_call<|jb (call w J Z F S B o I A M a N E G Y m (fd_plain u) P C R L T c) λr D t=>?_;obtain⟨rfl,e,b,v⟩:=t;exact⟨.inl ⟨.bool true,.bool true,[],rfl,λ_=>rfl,.bool true,Fq l _,λ_=>⟨List.Pairwise.nil,λ_ k=>(nomatch k)⟩⟩,e,b,v⟩
end Att
namespace L2
open PySem PySem.Spec PyProof.Rows
theorem Rp:∀{Z:kj}{J:kz},IntsAre Z J->Vals (J.map V.int) Z
 |_,_,.nil=>.nil
 |_,_,.cons n t h=>.cons ⟨t,rfl⟩<|Rp h
def A7(H:Hp):Prop:=∀b,H b=none \/ ∃o Z,H b=some (.frz o<|.lst Z)
def Lq{K:W.Frag}(KX:K.In s₁.heap)(D:s₁.heap.Ns mainGlobals C)(J:s₁.heap.Ns builtinsNs mb)(y:∀x:Str,x≠"__name__" ->mb x=bootBuiltins x)(E:s₁.heap.NoLimit)(hg:s₁.gens= #[])(X:s₁.heap.get? a=some {cls:=.type "list",data:=.seq N.toArray})(l:IntsAre N U)(f:U.length<=sizeLine)(hr:Vj k callerA)(F:∀base:Heap,K.In base->base.Ns mainGlobals C->Yh P w K C base CX k fa fd [x] sp)(M:∀(s:Shared)(u:Value),BindsTo s fd ⟨[u],[]⟩ [(x,u)])(j:∀H:Hp,A7 H->SqL K H a (U.map V.int)->sp [.ref a] H (λv _=>v=.bl true) λ_ _ _=>False)(t:∀H e G,CX [] H s₁ (λ_ _ _=>False) e G->False):
  codeAny (model P w) callerA (.call (.ref fa) ⟨[.ref a],[]⟩) (λr G=>r=.ok (.ret<|.bool true)/\OldK s₁.heap G.heap/\G.os=s₁.os/\AllBare G.gens) s₁:=by
 have c:=Rp l;have R:=l.length;have core:∀H:Hp,A7 H->SqL K H a (U.map V.int)->HOk P w H s₁.heap->(∀b,H b≠none->b=a)->(H a≠none->K.lookup a=none)->
   codeAny (model P w) callerA (.call (.ref fa) ⟨[.ref a],[]⟩) (λr G=>r=.ok (.ret<|.bool true)/\OldK s₁.heap G.heap/\G.os=s₁.os/\AllBare G.gens) s₁:=by
  intro H i hS B hA hK;have Z:∀{b:Addr}{o:Obj},s₁.heap.get? b=some o->H b=none->(NJ s₁.heap H).get? b=some o:=λe n=>L7 e n
  have Q:∀{b:Addr}{o:Obj}{I:Array DictEntry}{S:Nat},s₁.heap.get? b=some o->o.data=.dict I S->H b=none:=λ{b o I S} e d=>by
   cases q:H b with
   |none=>rfl
   |some u=>
    have g:b=a:=hA b (by rw[q];simp);subst g;rw[X]at e;cases e;have d':Data.seq N.toArray _=Data.dict I S:=d;cases d'
  have L:∀{b:Addr}{m:Str->Option Value},s₁.heap.Ns b m->(NJ s₁.heap H).Ns b m:=λ{b m} ⟨o,I,S,e,d,r⟩=>⟨o,I,S,Z e<|Q e d,d,r⟩
  have A:K.In (NJ s₁.heap H):=λb o e=>Z (KX b o e) (by
   cases q:H b with
   |none=>rfl
   |some u=>
    have g:b=a:=hA b (by rw[q];simp);subst g;rw[hK (by rw[q];simp)]at e;cases e)
  have hM:Mod K C (NJ s₁.heap H):=⟨A,L D,⟨mb,L J,y⟩,let⟨mc,h1,h2⟩:=E;⟨mc,L h1,h2⟩⟩;have e0:EQ P w K C (NJ s₁.heap H) callerA [] s₁ H:=⟨rfl,hM,λb o e=>P5 e,vY<|IT _ _,trivial,λb J=>Zp (show b∈([]:kA)from J) (by simp),B,.of_eq hg⟩;refine jb ((F _ A<|L D).run callerA [] s₁ H ⟨[.ref a],[]⟩ [.ref a] [.ref a] _ _ hr e0 (M s₁<|.ref a) (.cons rfl .nil)<|j H i hS) λr G h=>?_
  cases r with
  |error e=>exact(t H e G h).elim
  |ok fl=>
   cases fl with
   |next=>exact False.elim h
   |brk=>exact False.elim h
   |cont=>exact False.elim h
   |ret u=>
    obtain⟨v,H',os,bare,p,T,r',q⟩:=h;have q':v=.bl true:=q;subst q';obtain rfl:u=Value.bool true:=r';refine⟨Y,OldK.of_keep λb o e=>?_,os,bare⟩
    cases q:H b with
    |none=>exact p.keep b o e q (by intro z;exact Zp (show b∈([]:kA)from z)<|by simp)<|by simp
    |some u=>
     rcases i b with z|⟨ob,xs,z⟩
     .rw [q]at z;cases z
     .have z2:=p.frzs b ob _ z
      obtain⟨e1,_⟩:=B b _ z;obtain⟨e2,_⟩:=T b _ z2;rw[e]at e1;cases e1;exact e2
 cases hk:K.lookup a with
 |some o=>
  have e:=KX a o hk;rw[X]at e;cases e;refine core (λ_=>none) (λ_=>.inl Y) (.inr ⟨_,N.toArray,_,hk,Y,Y,Y,by rw[ZM,R];exact f,by simpa using c⟩) (λb u z=>by have O:(none:Option HO)=some u:=z;cases O) (λb z=>Zp Y z) λz=>Zp Y z
 |none=>
  refine core (λb=>if b=a then some (.frz {cls:=.type "list",data:=.seq N.toArray}<|.lst<|U.map V.int)else none) (λb=>?_) (.inl<|.inr ⟨{cls:=.type "list",data:=.seq N.toArray},Zn rfl⟩) (λb u z=>?_) (λb z=>?_) λ_=>hk
  .by_cases J:b=a
   .exact .inr ⟨_,_,Zn J⟩
   .exact .inl (Zo J)
  .by_cases J:b=a
   .have O:=(Zn J).symm.trans z
    cases O;subst J;exact⟨X,by rw[ZA];exact f,N,_,c,X⟩
   .have O:=(Zo J).symm.trans z
    cases O
  .by_cases J:b=a
   .exact J
   .exact Zp (Zo J) z
theorem walk_of{l:W.OpenLaw}{K:Params->W.Frag}{CX:World->CXT}{sp:World->Sp}(Q:l.most=some n)(D:n<=sizeLine)(A:d.params.defaults=[])(P:Vj k callerA)(t:∀(w:World)(h:Heap),YP w h->(K w.params).In h)(F:∀(w:World)(L:Str->Option Value)(R:Addr)(h:Heap),(K w.params).In h->h.Ns mainGlobals L->L d.name=some (.ref R)->
   ∃S:FuncData,(∀(s:Shared)(u:Value),BindsTo s S ⟨[u],[]⟩ [(x,u)])/\
    ∀base:Heap,(K w.params).In base->base.Ns mainGlobals L->Yh l.prog w (K w.params) L base (CX w) k R S [x] (sp w))(B:∀(w:World)(H:Hp)(a:Addr)(O:kz),O.length<=n->A7 H->SqL (K w.params) H a (O.map V.int)->sp w [.ref a] H (λv _=>v=.bl true) λ_ _ _=>False)(I:∀(w:World)(H:Hp)(s:Shared)(e:Value)(T:Shared),CX w [] H s (λ_ _ _=>False) e T->False):
  W.WalkO q loose XP YP l.row.toRowW d [] (λf U=>PySem.call f U):=by
 refine Att.attach_call Q A λw C M L b R o r cd c a U O G Y i hd y E N J Z j=>?_;have X:=t w _ Y;obtain⟨S,z,p⟩:=F w L R _ X G.T.g E;exact Lq X G.T.g G.T.b G.T.builtins G.T.nolimit j N J (ZZ Z D) P p z (λH g m=>B w H a O Z g m) λH e T=>I w H M e T
def inClass(s:Stmt)(j:Nat):Stmt:=match s with
 |.ClassDef _ _ _ body _ _ _ _ _ _ _=>body.getD j<|.Pass ⟨0,0,0,0⟩
 |_=>.Pass ⟨0,0,0,0⟩
def Um(s:Stmt):Arguments:=match s with
 |.FunctionDef _ a _ _ _ _ _ _ _ _=>a
 |_=>{posonlyargs:=[],args:=[],vararg:=none,kwonlyargs:=[],kw_defaults:=[],kwarg:=none,defaults:=[]}
def Ja(s:Stmt):List Stmt:=match s with
 |.FunctionDef _ _ b _ _ _ _ _ _ _=>b
 |_=>[]
def Yc(s:Stmt):Scope:=match s with
 |.FunctionDef _ _ _ _ _ _ sc _ _ _=>sc
 |_=>{kind:=.function,names:=[],isGenerator:=false,isCoroutine:=false}
abbrev CX0:CXT:=λ_ _ _ _ _ _=>False
abbrev E0:XK:=λ_ _ _=>False
def VN:Ub CX0 X E0:=λ_ _ _ _ _ _ _ h=>h.elim
structure Fun(K:W.Frag)(x qual:Str)(st:Stmt)(f:Addr)(fd:FuncData):Prop where
 ex:∃(oc:Value)(od:Option Addr)(kV doc pm:Value)(an:Option Addr)(cdv ct:Value)(osl:Array (Option Value)),
  fd=W.fnOf x qual (Um st) (Ja st) (Yc st) .none kV doc pm an cdv ct/\K.lookup f=some ⟨oc,od,.func fd,osl⟩/\W.codeIn K cdv qual=true
 kp:W.keepIn K (.ref f)=true
section
variable{K:W.Frag}
def Fun.ok{M:Stmt}(F:Fun K x qual M f j)(S:Yn N D (Yc M))(O:∀G H Q E,B G H Q E->G.length=D.length)(L:∀(J:Value)(A:Around)(Z:List Env)(s:Shared)(H:Hp)(G:kF)(Q:VK)(E:XK),Vj k (A.deeper<|envOfC qual (Yc M) s.heap.objs.size f J)->B G H Q E->
   ∃t,PSs (Vi CX0 P w K U base N qual (Yc M) f J A Z s H E).nox (Ja M) t/\t {nx:=λ_ z=>Q .non z,rt:=Q} (start N G) H):Yh P w K U base CX0 (k+1) f j D B:=by
 obtain⟨p,g,kV,y,m,d,J,c,I,rfl,C,T⟩:=F.ex;refine Q2 C T S O λA Z s H G Q E X R=>?_;obtain⟨t,h,q⟩:=L J A Z s H G Q E X R;exact⟨t,h.nox,q⟩
def Fun.oq{L:Stmt}(F:Fun K x qual L f D)(S:Yn N T (Yc L))(J:∀(M:Value)(A:Around)(Z:List Env)(s:Shared)(H:Hp)(G:kF)(Q:VK)(E:XK),Vj k (A.deeper<|envOfC qual (Yc L) s.heap.objs.size f M)->R G H Q E->
   ∃t,PSs (Vi CX0 P w K B base N qual (Yc L) f M A Z s H E).nox (Ja L) t/\t {nx:=λ_ I=>Q .non I,rt:=Q} (start N G) H)(O:∀G H Q E,R G H Q E->G.length=T.length:=by intro G H Q E h;repeat (obtain⟨e,h⟩:=h;first|(subst e;exact Y)|skip)):Yh P w K B base CX0 (k+1) f D T R:=F.ok S O J
def Fun.binds{G:Stmt}(F:Fun K x qual G f D)(h:∀(kV Z M:Value)(O:kB)(J N:Value)(L:kj),L.length=R.length->bindArgs (W.fnOf x qual (Um G) (Ja G) (Yc G) .none kV Z M O J N) ⟨L,[]⟩=pure (R.zip L)):Binds K D R []:=by
 obtain⟨A,E,kV,Z,M,O,J,N,T,rfl,I,B⟩:=F.ex;exact .all<|h kV Z M O J N
def OK{st:Stmt}{kV J G Z L:Value}(l:K.lookup f=some ⟨oc,od,.func<|W.fnOf x qual (Um st) (Ja st) (Yc st) .none kV J G an Z L,osl⟩)(c:W.codeIn K Z qual=true)(k:W.keepIn K (.ref f)=true):Fun K x qual st f (W.fnOf x qual (Um st) (Ja st) (Yc st) .none kV J G an Z L):=⟨⟨oc,od,kV,J,G,an,Z,L,osl,rfl,l,c⟩,k⟩
end
def Jg(Z:Vj k A):A.units+1<cLine:=qi (Nat.add_le_add_left (by decide:1<=64) _) Z.units
def Yt(h:n<=1000):n<sizeLine:=qi h<|by decide
section
def pv(i:Nat)(L:X.N[i]?=some x:=by rfl)(J:Vis X.env.scope x:=by first|exact Or.inl Y|exact Or.inr (Or.inl Y)|exact Or.inr<|Or.inr rfl)(G:(x==("__debug__":Str))=false:=by decide)(Z:(x==("__classdict__":Str))=false:=by decide):PE X (.Name x pos) (Wo i):=S1 L J G Z
end
def UJ{c A B:Prop}[Decidable c](J:c->A)(Z:¬c->B):if c then A else B:=by
 by_cases h:c
 .rw [Zn h]
  exact J h
 .rw [Zo h]
  exact Z h
def Same(H H':Hp):Prop:=∀b o,H b=some o->H' b=some o
def Same.refl(H:Hp):Same H H:=λ_ _ h=>h
abbrev Z6:=@Same.refl
def Same.trans(a:Same H J)(b:Same J Z):Same H Z:=λc o h=>b c o<|a c o h
def Same.free(e:Same H Z)(h:Z l=Option.none):H l=Option.none:=by
 cases q:H l with
 |none=>rfl
 |some o=>
  rw[e l o q]at h;cases h
def Same.seq{K:W.Frag}(e:Same H J)(h:SqL K H a Z):SqL K J a Z:=by
 rcases h with(h|⟨o,h⟩)|h
 .exact .inl (.inl<|e _ _ h)
 .exact .inl (.inr ⟨o,e _ _ h⟩)
 .exact .inr h
section
variable[DecidableEq κ]
def Ng{Z:List (κ×V)}(h:VI Z k=none):¬k∈Z.map (·.1):=by
 intro m;obtain⟨p,G,e⟩:=ZU.mp m;have q:(Z.any λJ=>decide<|J.1=k)=true:=jT.mpr ⟨p,G,decide_eq_true e⟩;rw[Uu,h]at q;exact Zp q<|by simp
theorem Ez:∀{l:List κ}{k:κ},l.Nodup->¬k∈l->(l++[k]).Nodup
 |[],k,_,_=>by simp
 |a::r,k,h,hk=>by
  obtain⟨J,Z⟩:=yt.mp h;show(a::(r++[k])).Nodup;refine yt.mpr ⟨λm=>?_,Ez Z λm=>hk<|Zb.mpr<|Or.inr m⟩;rcases ZV.mp m with q|q
  .exact J q
  .exact hk (Zb.mpr<|Or.inl (ZO.mp q).symm)
end
end L2
namespace PySem.W
open PySem PyProof.Rows
section
variable{K:Frag}{x D:Addr}
def BV(G:(clsIn K D).isSome=true)(L:findIn K (.ref D) name=some (some a))(J:specialIn K a "__get__"=some (some g))(Z:takesIn K a=some true):findObj K D odo name=some (.bind g a):=by
 obtain⟨M,e⟩:=jO.mp G;simp only[findObj,e,L,Option.bind_some,J,Z]
structure ExcC(K:Frag)(D:Addr):Prop where
 cls:(clsIn K D).isSome=true
 ga:findIn K (.ref D) "__getattribute__"=some (some (.builtin "BaseException.__getattribute__"))
 gn:findIn K (.ref D) "__getattr__"=some none
 base:mroIn K D (.type "BaseException")=some true
 obj:mroIn K D (.type "object")=some true
 ha:findIn K (.ref D) "__class__"=some (some (.builtin "object.__class__"))
 hn:specialIn K (.builtin "object.__class__") "__get__"=some (some (.builtin "getset_descriptor.__get__"))
 htk:takesIn K (.builtin "object.__class__")=some true
set_option tactic.hygienic true in
def Ob(X:K.In h)(Z:(clsIn K D).isSome=true):∃c d J sl,h.get? D=some ⟨c,d,.cls J,sl⟩:=by
 unfold clsIn at Z
 split at Z
 case h_1 c d J sl ho=>exact⟨c,d,J,sl,X D _ ho⟩
 case h_2=>cases Z
def MH(X:K.In h)(J:(clsIn K D).isSome=true):Looks M h (isType<|.ref D) true:=by
 obtain⟨c,d,L,sl,Z⟩:=Ob X J;intro R N O G k q;simp only[isType,loadHead];exact Zj<|wpAny_loadPart (k D _ Z)<|Zk q
def QN:builtinKind "BaseException.__getattribute__"=some .slot:=by decide +kernel
def OH:splitId "BaseException.__getattribute__"=some ("BaseException","__getattribute__"):=by decide +kernel
def OI:(Value.builtin "BaseException.__getattribute__"==.builtin "object.__getattribute__")=false:=by decide +kernel
def MG(C:ExcC K D)(X:K.In s.heap)(I:InstAt s.heap x ox D odo)(G:Q () s):
  wpAny M A (checkBuiltinCall "BaseException.__getattribute__" ⟨[.ref x,nameV],[]⟩) Q E s:=by
 have J:=looks_mroIn (M:=M) X C.base;have L:=F.args_bexc_ga (.ref x) nameV;have Z:=I.type (M:=M);unfold checkBuiltinCall;simp only[QN,OH,isInstance];obtain⟨h,g,d,t,N⟩:=s;refine Zj (Zj<|Z.at<|J.at ?_)
 repeat any_goals first|exact L|exact G|wp_step
def Ib(C:ExcC K D)(X:K.In s.heap)(I:InstAt s.heap x ox D odo)(h:Q (some<|.ref D) {s with toks:=s.toks+1}):
  wpAny (model prog w) A (getAttr? (.ref x) "__class__") Q E s:=by
 obtain⟨N,g,d,t,Z⟩:=s;have L:=I.type (M:=model prog w);have G:=qj (M:=model prog w) X C.ga;have J:=qj (M:=model prog w) X C.gn;have R:=looks_find (M:=model prog w) X I<|BV C.cls C.ha C.hn C.htk;have sl:=F.attr_ValueError.ga;have O:=sl.bind<|.ref x;simp only[getAttr?,getAttrBy?,getAttrBy];refine Zj<|wpAny_mkText<|Zj<|jg<|wpAny_holding<|Zj<|L.at ?_;refine Zj<|G.at ?_;simp only[OI,j5,jc,if_false,getAttrByItsOwn,hookBefore];refine Zj<|J.at<|Zj<|jg<|wpAny_holding ?_;simp only[callGetattribute,boundAndCalled,Bool.false_and,jc,if_false];rw[O];refine Zj<|Zk<|wpAny_call<|qv sl.plain F.entry_bexc_ga<|MG C X I ?_;simp only[Builtin.«object.__getattribute__»]
 repeat (first|(with_reducible refine wpAny_call<|class_get (s:=⟨N,g,d,t+1,Z⟩) X I C.obj ?_)|lk)
 exact h
def NS{Z:List Value}(X:K.In h)(N:(clsIn K D).isSome=true)(J:h.get? G=some ⟨.type "tuple",O,.seq Z.toArray n,sl⟩):(Value.ref D==.ref G)=false:=by
 obtain⟨c,d,R,L,M⟩:=Ob X N
 cases hb:(Value.ref D==Value.ref G)with
 |false=>rfl
 |true=>cases beq_iff_eq.mp hb;cases M.symm.trans J
def kitx_exc(C:ExcC K D):KitX K (.ref x) (.ref D) (λh=>∃J Z,InstAt h x J D Z):=
 ⟨λ_ _ _ ⟨_,_,I⟩=>I.type,λ_ _ X _=>MH X C.cls,λ_ _ _ _ _ _ X G=>NS X C.cls G,λX ⟨_,_,I⟩ k=>Ib C X I k⟩
def exc_matches(X:K.In s.heap)(I:InstAt s.heap x ox D odo)(G:(clsIn K N).isSome=true)(Z:typeIn K (.ref N)=some (.type "type"))(L:mroIn K N (.type "BaseException")=some true)(J:subIn K (.ref D) (.ref N)=some b)(C:Q b s):
  wpAny M A (excMatches (.ref x)<|.ref N) Q E s:=by
 have U:=I.type (M:=M);have S:=looks_typeIn (M:=M) X Z;have F:=looks_mroIn (M:=M) X L;have B:=looks_subIn (M:=M) X J;have T:=MH (M:=M) X G;have R:=tc_notTuple;obtain⟨h,g,d,t,O⟩:=s;simp only[excMatches,isInstance,isExcClass]
 repeat any_goals first|assumption|lk
 cases b <;> (repeat any_goals first|assumption|lk)
end
end PySem.W
namespace L2
open PySem PySem.Spec PyProof.Rows
def Trc(old:Heap)(H:Hp)(h:Heap)(ea:Addr)(vs:kC):Prop:=
 vs[1]?=some .none \/ ∃T J Z,vs[1]?=some (.ref T)/\T≠ea/\old.get? T=none/\H T=none/\h.get? T=some J/\J.data=.fields Z/\Z[3]?=some .none
structure Fly(old:Heap)(H:Hp)(h:Heap)(ea C:Addr)(dx:Option Addr):Prop where
 new:old.get? ea=none
 free:H ea=none
 obj:∃oe vs,h.get? ea=some oe/\oe.cls=.ref C/\oe.dict=dx/\oe.data=.fields vs/\1<vs.size/\Trc old H h ea vs
section
def tbO(head:Value)(L:Addr)(pl:kj):Obj:={cls:=.type "traceback",dict:=none,data:=.fields ([head,.ref L,.none,rawInt L,.none]++ (if pl.isEmpty then List.replicate 6 Value.none else pl)).toArray}
def tbH(g:Heap)(head:Value)(L ea:Addr)(pl:kj):Heap:=
 ((g.push<|tbO head L pl).update ea<|Obj.mapFields (·.setIfInBounds 1<|.ref g.objs.size)).update g.objs.size (Obj.mapFields (·.setIfInBounds 3<|(none:kB).elim Value.none λf=>rawInt f))
section
variable{g:Heap}
def Nn(Z:b≠ea)(q:g.get? b=some o):(tbH g head L ea pl).get? b=some o:=
 (vc _ _<|vH<|ZN q).trans ((vc _ _<|Zq Z).trans<|ZD _ q)
def EW(q:g.get? ea=some oe)(Z:oe.data=.fields J):((g.push<|tbO head L pl).update ea<|Obj.mapFields (·.setIfInBounds 1<|.ref g.objs.size)).get? ea=some (oe.mapFields (·.setIfInBounds 1<|.ref g.objs.size)):=
 ve _ (ZD _ q) (Obj.isFreed_of_fields<|Obj.data_mapFields Z _)
def SG(q:g.get? ea=some oe)(Z:oe.data=.fields J):(tbH g head L ea pl).get? ea=some (oe.mapFields (·.setIfInBounds 1<|.ref g.objs.size)):=
 (vc _ _<|vH<|ZN q).trans (EW q Z)
def Nm(q:g.get? ea=some oe):((g.push<|tbO head L pl).update ea<|Obj.mapFields (·.setIfInBounds 1<|.ref g.objs.size)).get? g.objs.size=some (tbO head L pl):=
 (vc _ _<|Zc<|ZN q).trans (ZW g rfl)
def Oy(q:g.get? ea=some oe):∃o Z,(tbH g head L ea pl).get? g.objs.size=some o/\o.data=.fields Z/\Z[3]?=some Value.none:=
 ⟨_,_,ve _ (Nm q)<|Obj.isFreed_of_fields<|Obj.data_mapFields rfl _,Obj.data_mapFields rfl _,by
  rw[Array.getElem?_setIfInBounds_self_of_lt (by simp)];rfl⟩
end
def FB(p:A.frames=some (J::outer))(C:s.heap.FunFrames base (J::outer))(c:J.frame=some L)(U:s.heap.get? ea=some oe)(N:oe.data=.fields S)(G:1<S.size)(h:∀O T B R,s.heap.get? T=none->(∀b o,b≠ea->b∉frs (J::outer)->s.heap.get? b=some o->O.get? b=some o)->(∀b o,b≠ea->s.heap.get? b=some o->∃sl,O.get? b=some {o with slots:=sl})->
   O.get? ea=some (oe.mapFields (·.setIfInBounds 1<|.ref T))->O.get? T=some B->B.data=.fields R->R[3]?=some .none->Q () {s with heap:=O}):
  wpAny M A (do let a <-frameOf J;let pl <-entryPlaceOf L hadNext;let b <-EntryCells.newEntry head a .none (rawInt L) .none pl;setField (.ref ea) 1 b) (λ_ X=>wpAny M A (setFlight (.ref ea) none) Q E X) E s:=by
 have apart:ea∉frs (J::outer):=λz=>(C.mem z).2.elim λo q=>q.2 S (by have e:=U.symm.trans q.1;cases e;exact N);refine Zj<|wpAny_frameOf_fun p C c λg D=>Zj<|wpAny_entryPlaceOf λpl k=>?_;have Z:g.get? ea=some oe:=(D.2.1 ea apart).trans U;obtain⟨B,R,y,j,P⟩:=Oy (head:=head) (L:=L) (pl:=pl) Z;simp only[EntryCells.newEntry,newFields];refine Zj<|vq (jt (ZD _ Z) N G ?_)<|k.sizeOk5 _ _ _ _ _;simp only[setFlight];refine Zj<|Zm (EW (head:=head) (L:=L) (pl:=pl) Z N) (Obj.data_mapFields N _) (x:=.ref g.objs.size) (by simp[G]) ?_;rw[Zn (by simp)];refine jt (Nm Z) Y (by simp) ?_;refine h (tbH g head L ea pl) g.objs.size B R (jG<|vY D.1.symm) (λb o I m q=>Nn I<|(D.2.1 b m).trans q) (λb o I q=>?_) (SG Z N) y j P;obtain⟨sl,t⟩:=D.2.2 b o q;exact⟨sl,Nn I t⟩
def Lk(f:A.frames=some (B::outer))(hl:s.heap.FunFrames base (B::outer))(hf:B.frame=some L)(F:Fly old H s.heap ea C dx)(hT:∀b o,old.get? b=some o->∃u,s.heap.get? b=some u)(hH:∀b o,H b=some o->∃u,s.heap.get? b=some u)(h:∀N,(∀b o,(H b≠none \/ ∃u,old.get? b=some u)->b∉frs (B::outer)->s.heap.get? b=some o->N.get? b=some o)->
   (∀b o,(∀r,o.data≠.fields r)->s.heap.get? b=some o->∃sl,N.get? b=some {o with slots:=sl})->Fly old H N ea C dx->Q () {s with heap:=N}):
  wpAny M A (noteFrame (.ref ea) B) (λ_ g=>wpAny M A (setFlight (.ref ea) none) Q E g) E s:=by
 obtain⟨X,O,oe,r,y,hc,Z9,t,D,ht⟩:=F;unfold noteFrame;simp only[hf];have done:∀R:Heap,(∀b o,b≠ea->(H b≠none\/(∃u,old.get? b=some u) \/ ∀r,o.data≠.fields r)->s.heap.get? b=some o->R.get? b=some o)->(∀b,(∃u,s.heap.get? b=some u)->∃u,R.get? b=some u)->
   ∀N T k m,R.get? T=none->(∀b o,b≠ea->b∉frs (B::outer)->R.get? b=some o->N.get? b=some o)->(∀b o,b≠ea->R.get? b=some o->∃sl,N.get? b=some {o with slots:=sl})->
   N.get? ea=some (oe.mapFields (·.setIfInBounds 1<|.ref T))->N.get? T=some k->k.data=.fields m->m[3]?=some .none->Q () {s with heap:=N}:=by
  intro R k1 k2 N T k m J1 hk i Z8 Z J4 J5
  have w:∀b,R.get? b=none->s.heap.get? b=none:=λb G=>by
   cases q:s.heap.get? b with
   |none=>rfl
   |some u=>obtain⟨v,U⟩:=k2 b ⟨u,q⟩;rw[G]at U;cases U
  have S:=w T J1;refine h N (λb o G j I=>?_) (λb o p I=>?_) ⟨X,O,_,_,Z8,?_,?_,Obj.data_mapFields t _,by simpa using D,.inr ⟨T,k,m,by simp[D],?_,?_,?_,Z,J4,J5⟩⟩
  .have J:b≠ea:=by
    rintro rfl;rcases G with z|⟨u,z⟩
    .exact z O
    .rw [X]at z;cases z
   exact hk b o J j<|k1 b o J (by rcases G with z|z;exact .inl z;exact .inr<|.inl z) I
  .have J:b≠ea:=by
    rintro rfl;rw[y]at I;cases I;exact p _ t
   exact i b o J<|k1 b o J (.inr<|.inr p) I
  .rw [Obj.cls_mapFields];exact hc
  .rw [<-Z9];obtain⟨c,d,dt,sl⟩:=oe;cases dt <;> rfl
  .rintro rfl;rw[y]at S;cases S
  .cases q:old.get? T with
   |none=>rfl
   |some u=>obtain⟨v,U⟩:=hT T u q;rw[S]at U;cases U
  .cases q:H T with
   |none=>rfl
   |some u=>obtain⟨v,U⟩:=hH T u q;rw[S]at U;cases U
 rcases ht with R|⟨T,k,m,R,J2,n,x,Z,hdT,h3⟩
 .refine Zj (Zm y t R ?_)
  rw[Zo (by decide)];exact FB f hl hf y t D<|done s.heap (λb o _ _ q=>q) λb q=>q
 .refine Zj (Zm y t R ?_)
  rw[Zn (by simp)];refine Zj<|Zm Z hdT h3 ?_;rw[Zo (by simp[rawInt])];have l:=(jH.mp h3).1;have other:∀b,b≠T->(s.heap.update T<|Obj.mapFields λa=>a.setIfInBounds 3 .none).get? b=s.heap.get? b:=λb z=>vc _ _ z.symm;refine Zj<|jt Z hdT l ?_;refine FB f (hl.of_keeps λb o G j=>⟨o,(other b λq=>by rw[q,Z]at G;cases G;exact j _ hdT).trans G,Y⟩) hf ((other ea<|Zq J2).trans y) t D
   (done _ (λb o J G I=>?_) λb G=>?_)
  .refine (other b ?_).trans I
   rintro rfl;rcases G with z|⟨u,z⟩|z
   .exact z x
   .rw [n]at z;cases z
   .rw [Z]at I;cases I;exact z _ hdT
  .by_cases e:b=T
   .subst e
    exact⟨_,ve _ Z<|Obj.isFreed_of_fields<|Obj.data_mapFields hdT _⟩
   .obtain ⟨u,hu⟩:=G
    exact⟨u,(other b e).trans hu⟩
end
section
def Va.ex(x:Va P w H h a o):∃u,h.get? a=some u:=by
 cases o with
 |lst J=>obtain⟨_,_,_,_,e⟩:=x;exact⟨_,e⟩
 |tup J=>obtain⟨_,_,_,o,e,_⟩:=x;exact⟨_,e⟩
 |dK Z=>obtain⟨_,_,_,_,o,_,_,e,_⟩:=x;exact⟨_,e⟩
 |dT Z=>obtain⟨_,_,_,_,o,_,_,e,_⟩:=x;exact⟨_,e⟩
 |set S n=>obtain⟨o,_,_,_,e,_⟩:=x;exact⟨_,e⟩
 |ins C R G=>obtain⟨_,_,_,e,_⟩:=x;exact⟨_,e⟩
 |own y=>exact x
 |xd G=>obtain⟨_,⟨_,_,_,e,_⟩,_⟩:=x;exact⟨_,e⟩
 |rng N O=>obtain⟨_,_,_,e⟩:=x;exact⟨_,e⟩
 |frz M u=>obtain⟨e,_⟩:=x;exact⟨_,e⟩
 |tbl L=>exact⟨_,x⟩
 |met f y=>exact⟨_,x⟩
 |ext φ=>obtain⟨_,e,_⟩:=x;exact e
end
def CX1(P:Program)(w:World):CXT:=λZ H s E e J=>∃L C M G,e=.ref L/\J.os=s.os/\AllBare J.gens/\Un (frs Z) [] H G s.heap J.heap/\HOk P w G J.heap/\Fly s.heap G J.heap L C M/\E (.ref C) M G
def Iv(X:Cx)(E:XK):Prop:=∀(Z:kb)(U:St)(H:Hp)(s:Shared)(J C:Addr)(G:kB),Inv X Z U H s->Fly X.s₀.heap H s.heap J C G->E (.ref C) G H->X.xe (.ref J) s
def Fly.older(F:Fly old H h ea C j)(k:∀b u,old'.get? b=some u->∃v,old.get? b=some v):Fly old' H h ea C j:=by
 have Z:∀b,old.get? b=none->old'.get? b=none:=λb Q=>by
  cases q:old'.get? b with
  |none=>rfl
  |some u=>obtain⟨v,B⟩:=k b u q;rw[Q]at B;cases B
 obtain⟨G,J,A,D,U,P,N,X,L,S⟩:=F;exists Z _ G,J,A,D,U,P,N,X,L;rcases S with R|⟨T,I,E,R,O,M,r⟩
 .exact .inl R
 .exact .inr ⟨T,I,E,R,O,Z _ M,r⟩
section
variable{K:W.Frag}
def XN:Iv (Vi (CX1 P w) P w K d base N qual scope f cd A outer s₀ H₀ E) E:=by
 intro y U H s k C p I F q;have there:∀b u,s₀.heap.get? b=some u->∃v,s.heap.get? b=some v:=λb u e=>I.base.there b u e (by simp[Vi]);show wpAny _ _ (leaving _ _) _ _ s;unfold leaving;refine Zj<|Lk (base:=base) (outer:=outer) I.ok.frames I.stack rfl F there (λb o e=>(I.hok b o e).ex) λm X O c=>?_;have g:∀b∈frs (envOfC qual scope s₀.heap.objs.size f cd::outer),H b=none:=I.stkFree;have M:∀b o,H b=some o->b∉frs (envOfC qual scope s₀.heap.objs.size f cd::outer):=λb o e z=>by rw[g b z]at e;cases e
 have j:∀b o u,H b=some o->s.heap.get? b=some u->m.get? b=some u:=λb o u e q=>X b u (.inl (by rw[e];simp)) (M b o e) q;have B:=I.base;refine⟨k,C,p,H,Y,I.os,I.bare,⟨λb o e n Z _=>?_,λb o e n Z _=>?_,λb o e n _=>B.free b o e n (by simp[Vi]),λb o e _=>?_,B.tups,B.frzs,B.tbls⟩,λa o e=>?_,c,q⟩
 .refine X b o (.inr ⟨o,e⟩) ?_ (B.keep b o e n Z<|by simp[Vi])
  intro z;have R:b∈(s₀.heap.objs.size::frs outer):=z;rcases Zb.mp R with rfl|R
  .exact (yx _<|ZN e).elim
  .exact Z R
 .obtain ⟨sl,e1⟩:=B.slot b o e n Z<|by simp[Vi]
  have t:∀T,o.data≠.fields T:=λT z=>by
   obtain⟨_,L,J,G⟩:=I.stack.mem (b:=b) (by show b∈(s₀.heap.objs.size::frs outer);exact ZK _ Z);rw[e1]at J;cases J;exact G T z
  obtain⟨S,Q⟩:=O b {o with slots:=sl} t e1;exact⟨S,Q⟩
 .by_cases Z:b∈frs (envOfC qual scope s₀.heap.objs.size f cd::outer)
  .obtain ⟨_,L,J,G⟩:=I.stack.mem Z
   obtain⟨sl,Q⟩:=O b L G J;exact⟨_,Q⟩
  .obtain ⟨L,e1⟩:=there b o e
   exact⟨L,X b L (.inr ⟨o,e⟩) Z e1⟩
 .refine (I.hok a o e).stay (λb u Z q=>?_) (λ_ q=>q) λ_ _ q=>q
  rcases Z with rfl|Z
  .exact j _ _ _ e q
  .exact j _ _ _ Z q
end
section
def Iv.passes(h:Iv X E)(L:X.ex=[]):Ub (CX1 X.prog X.w) X E:=by
 intro Z U H s e N I R;obtain⟨B,C,D,A,rfl,O,bare,M,G,F,q⟩:=R;obtain⟨T,g,d,t,J⟩:=N;obtain rfl:J=s.os:=O;exact h Z U A _ B C D (I.call (h':=T) (g':=g) (d':=d) (t':=t) (ch:=[]) M G bare λb z=>Zp z<|by simp) (F.older λb u q=>I.base.there b u q (by rw[L];simp)) q
end
abbrev vErr:kj:=[.type "ValueError",.type "Exception",.type "BaseException",.type "object"]
abbrev IsX(K:W.Frag)(C:Addr):Prop:=W.excIn K C vErr "ValueError.__new__"=true
set_option tactic.hygienic true in
def QV{K:W.Frag}(X:K.In h)(q:IsX K C):
  ∃G N F E U I D Z P J S B T R O M y,h.get? C=some (excClassObj F E C N U G I D Z P J S B T R O M "ValueError.__new__")/\h.Ns N y/\y "__init__"=none/\OwnTail h vErr G:=by
 unfold IsX W.excIn at q
 split at q
 case h_1 S cd sl ho=>
  split at q
  case h_1 C2 G B T R O n M hm hs=>
   rw[ZX,ZX,ZX,ZX,ZX]at q;obtain⟨⟨⟨⟨⟨k,g⟩,m⟩,t⟩,Q⟩,z⟩:=q;have u:C2=C:=beq_iff_eq.mp k;have f:n="ValueError.__new__":=beq_iff_eq.mp g;subst u f
   cases cd with
   |mk F U A j E I D Z P J L=>
    have d:A=.ref C2::G:=hm
    have c:L=false:=by cases L with
     |false=>rfl
     |true=>cases m
    subst d c
    have p:sl= #[B,T,R,O,some<|.builtin "ValueError.__new__",M]:=by
     cases sl with
     |mk l=>exact congrArg Array.mk hs
    subst p;exact⟨G,j,F,E,U,I,D,Z,P,J,S,B,T,R,O,M,h.nsMap j,X _ _ ho,.of_isNs<|W.isNs_of_in X Q,W.nsMap_none_of_in X Q<|beq_iff_eq.mp z,W.tail_of_in X t⟩
  case h_2=>cases q
 case h_2=>cases q
section
variable{X:Cx}{E:XK}{x:Str}{C:Addr}{e:Expr}{es:kP}{t:TA}
def SH(C:Addr)(E:XK)(t:TA):TS:=λ_ U H=>t U H λZ J=>Z.length<=sizeLine/\E (.ref C) none J
def LJ(w:Iv X E)(B:X.ex=[])(b:X.calm=true)(r:Gl X x)(f:X.mg x=some (.ref C))(n:IsX X.K C)(o:PA X (e::es) t)(A:(x==("__debug__":Str))=false:=by decide)(P:starEach (e::es) X.env=(false,eval e X.env)::starEach es X.env:=by rfl)(O:(backTo cpos<|starEach es X.env).any (·.1)=false:=by rfl):
  PS X (.Raise (some<|.Call (.Name x np) (e::es) [] cpos) none pos) (SH C E t):=by
 intro Z s U H D I h;obtain⟨y,N,nm,k,bs,l,sn,sub,ab,col,dd,k0,k1,k2,k3,k5,mN,S,i,R,T⟩:=QV I.ok.mod.kin n;refine wpAny_Raise_call_subT (C:=C) (nm:=nm) (q:=k) (N:=N) (bs:=bs) (bm:=y) (hdct:=l) (sn:=sn) (sub:=sub) (ab:=ab) (col:=col) (dd:=dd) (k0:=k0) (k1:=k1) (k2:=k2) (k3:=k3) (k5:=k5)
  F.excBase_ValueError (mN:=mN) (T.hasType F.excBase_ValueError.hasBase) (I.ok.hd b) ?_ R (Uk I r f ⟨rfl,?_⟩ A)
 .rw [P]
  show(false || (backTo cpos<|starEach es X.env).any (·.1))=false;rw[O];rfl
 .have ha':=o cpos Z s U H _ I h
  rw[P]at ha' |-;refine Calls.evalArgs_plain<|Zl ha' (λj m ⟨a,Q,J,g,c,p⟩=>⟨rfl,by show j.length<=sizeLine;rw[<-g.length];exact c,J.bk _ _ S,i.keeps J.bk,T.keeps J.bk,λh' L M=>?_⟩) λ_ _ z=>z;obtain⟨tt,d,_,_⟩:=M.there;refine w Z U Q _ L C none (J.kept (h':=h') (t':=m.toks) M.keeps) ⟨?_,?_,_,_,d,Y,Y,Y,(by show 1<6;decide),.inl Y⟩ p
  .cases q:X.s₀.heap.get? L with
   |none=>rfl
   |some u=>obtain⟨v,G⟩:=J.base.there L u q (by rw[B];simp);rw[M.new]at G;cases G
  .cases q:Q L with
   |none=>rfl
   |some u=>obtain⟨v,G⟩:=(J.hok L u q).ex;rw[M.new]at G;cases G
def Rr:List TE->Str->TE
 |[],acc=>λ_ H Q=>Q (.str acc) H
 |t::ts,acc=>λU H Q=>t U H λv H1=>∃x,v=.str x/\(acc++ x).length<=sizeLine/\Rr ts (acc++ x) U H1 Q
inductive PEs(X:Cx):List Expr->List TE->Prop where
 |nil:PEs X [] []
 |cons {e:Expr}{t:TE}{es:List Expr}{ts:List TE}:PE X e t->PEs X es ts->PEs X (e::es) (t::ts)
def BH:∀{es:kP}{M:List TE}(N:PEs X es M)(Z:Str)(s:Shared)(H:Hp),Z.length<=sizeLine->Inv X G U H s->Rr M Z U H Q->
  Joins (model X.prog X.w) X.A X.xe (evalEach es X.env) Z (λL J=>L.length<=sizeLine/\EP X G U Q (.str L J.toks) {J with toks:=J.toks+1}) s
 |_,_,.nil,Z,s,H,hz,I,h=>by
  unfold evalEach;exact⟨hz,.str Z,H,I.tok _,⟨_,Y⟩,h⟩
 |_,_,.cons (e:=e) (es:=es) N hr,Z,s,H,hz,I,h=>by
  unfold evalEach;refine thn (N G s U H _ I h) λu T ⟨y,A,F,B,x,D,O,q⟩=>?_;subst D;obtain⟨R,rfl⟩:=B;exact⟨x,R,Y,O,BH hr (Z++ x) T A O F q⟩
def Fs(M:PEs X (G::v2::J) L):PE X (.JoinedStr (G::v2::J) pos) (Rr L Str.empty):=by
 intro Z s U H Q I h;exact wpAny_JoinedStr<|BH M Str.empty s H (by decide) I h
end
def U2(ea C:Addr)(dx:kB):HO:=.ext λh=>∃Z,h.get? ea=some Z/\Z.cls=.ref C/\W.notCls Z=true/\Z.dict=dx
section
variable{s s':Shared}
def P6(k:A.frames=some (Z::outer))(m:s'.heap.FunFrames base (Z::outer))(f:Z.frame=some L)(r:∀b∈frs (Z::outer),N b=none)(O:Un (frs (Z::outer)) [] H N s.heap s'.heap)(U:HOk P w N s'.heap)(F:Fly s.heap N s'.heap ea C l)(h:∀T,Un (frs (Z::outer)) [] H N s.heap T->HOk P w N T->Fly s.heap N T ea C l->Q () {s' with heap:=T}):
  wpAny M A (noteFrame (.ref ea) Z) (λ_ B=>wpAny M A (setFlight (.ref ea) none) Q E B) E s':=by
 have there:∀b u,s.heap.get? b=some u->∃v,s'.heap.get? b=some v:=λb u e=>O.there b u e (by simp);refine Lk k m f F there (λb o e=>(U b o e).ex) λT g S i=>?_;have I:∀b o,N b=some o->b∉frs (Z::outer):=λb o e z=>by rw[r b z]at e;cases e
 have c:∀b o u,N b=some o->s'.heap.get? b=some u->T.get? b=some u:=λb o u e q=>g b u (.inl (by rw[e];simp)) (I b o e) q;refine h T ⟨λb o e n J X=>g b o (.inr ⟨o,e⟩) J<|O.keep b o e n J X,λb o e n J X=>?_,O.free,λb o e X=>?_,O.tups,O.frzs,O.tbls⟩ (λa o e=>?_) i
 .obtain ⟨sl,e1⟩:=O.slot b o e n J X
  have d:∀j,o.data≠.fields j:=λj z=>by
   obtain⟨_,D,G,R⟩:=m.mem J;rw[e1]at G;cases G;exact R j z
  obtain⟨t,p⟩:=S b {o with slots:=sl} d e1;exact⟨t,p⟩
 .by_cases J:b∈frs (Z::outer)
  .obtain ⟨_,D,G,R⟩:=m.mem J
   obtain⟨sl,p⟩:=S b D R G;exact⟨_,p⟩
  .obtain ⟨D,e1⟩:=there b o e
   exact⟨D,g b D (.inr ⟨o,e⟩) J e1⟩
 .refine (U a o e).stay (λb u J q=>?_) (λ_ q=>q) λ_ _ q=>q
  rcases J with rfl|J
  .exact c _ _ _ e q
  .exact c _ _ _ J q
def IW(Z:Un fs [] H X s.heap s'.heap)(R:HOk P w X s'.heap)(F:Fly s.heap X s'.heap ea C dx)(hT:∀b∈fs,∀o m,s'.heap.get? b=some o->o.data≠.fields m)(h:∀y,Un fs [] H X s.heap y->HOk P w X y->Fly s.heap X y ea C dx->Q () {s' with heap:=y}):
  wpAny M A (setFlight (.ref ea) none) Q E s':=by
 obtain⟨B,L,r,m,p,x,c,v,k,l⟩:=id F;unfold setFlight;rcases l with j|⟨T,oT,ts,j,U,D,N,S,hdT,h3⟩
 .refine Zj (Zm p v j ?_)
  rw[Zo (by decide)];obtain⟨i,g,d,t,os⟩:=s';exact Zk<|h i Z R F
 .refine Zj (Zm p v j ?_)
  rw[Zn (by simp)];have I:=(jH.mp h3).1;have other:∀b,b≠T->(s'.heap.update T<|Obj.mapFields (·.setIfInBounds 3<|(none:kB).elim Value.none λf=>rawInt f)).get? b=s'.heap.get? b:=λb z=>vc _ _<|Zq z;have self:=ve (Obj.mapFields (·.setIfInBounds 3<|(none:kB).elim Value.none λf=>rawInt f)) S<|Obj.isFreed_of_fields<|Obj.data_mapFields hdT _;have G:∀b o,s.heap.get? b=some o->b≠T:=λb o e z=>by rw[z,D]at e;cases e
  refine jt S hdT I (h _ ⟨λb o e n J O=>(other b<|G b o e).trans<|Z.keep b o e n J O,λb o e n J O=>?_,Z.free,λb o e O=>?_,Z.tups,Z.frzs,Z.tbls⟩ (λa o e=>?_)
   ⟨B,L,r,m,(other ea<|Zq U).trans p,x,c,v,k,.inr ⟨T,_,_,j,U,D,N,self,Obj.data_mapFields hdT _,by simp[I]⟩⟩)
  .obtain ⟨sl,e1⟩:=Z.slot b o e n J O
   exact⟨sl,(other b<|G b o e).trans e1⟩
  .obtain ⟨o',e1⟩:=Z.there b o e O
   exact⟨o',(other b<|G b o e).trans e1⟩
  .refine (R a o e).stay (λb u J q=>?_) (λ_ q=>q) λ_ _ q=>q
   refine(other b ?_).trans q;rintro rfl;rcases J with rfl|J
   .rw [N]at e;cases e
   .rw [N]at J;cases J
def Fly.track(F:Fly old M h ea C E)(Z:Un fs [] H M old h)(O:HOk P w M h):Un fs [] H (upd M ea<|U2 ea C E) old h/\HOk P w (upd M ea<|U2 ea C E) h:=by
 obtain⟨L,J,B,y,D,j,R,Q,X,t⟩:=F;have G:∀b o,M b=some o->b≠ea:=λb o e z=>by rw[z,J]at e;cases e
 refine⟨⟨Z.keep,Z.slot,λb o e n U=>?_,Z.there,λb N e=>?_,λb o u e=>?_,λb S e=>?_⟩,λa o e=>?_⟩
 .rw [Yd (λz=>by rw[z,L]at e;cases e)];exact Z.free b o e n U
 .rw [Yd (G b _<|Z.tups b N e)];exact Z.tups b N e
 .rw [Yd (G b _<|Z.frzs b o u e)];exact Z.frzs b o u e
 .obtain ⟨more,q⟩:=Z.tbls b S e
  exact⟨more,by rw[Yd (G b _ q)];exact q⟩
 .by_cases z:a=ea
  .subst z
   rw[Ya]at e;cases e;refine⟨⟨B,D,j,?_,R⟩,⟨B,D⟩,λg m ⟨T,I,A⟩ k=>⟨T,k T I,A⟩⟩;unfold W.notCls;rw[Q]
  .rw [Yd z]at e
   exact(O a o e).stay (λb u _ q=>q) (λb q=>by rw[Yd (G b _ q)];exact q) λb N q=>by rw[Yd (G b _ q)];exact q
end
abbrev Cx.sui(X:Cx)(A':Around):Cx:={X with A:=A',calm:=false,xe:=λ_ _=>False}
section
def Inv.sui(I:Inv X Z U H s)(J:A'.frames=some X.stack):Inv (X.sui A') Z U H s:=
 ⟨⟨I.ok.mod,I.ok.kind,I.ok.glob,I.ok.blt,I.ok.above,I.ok.inj,I.ok.has,I.ok.cab,λz=>Zp z (by simp),J,I.ok.stk,I.ok.exf,I.ok.bs,I.ok.bsz,I.ok.noex,I.ok.exfs,I.ok.funs,I.ok.frf⟩,
  I.os,I.bare,I.base,I.loc,I.cell,I.free,I.freeC,I.pin,I.hok,I.len⟩
def Inv.unsui(I:Inv (X.sui A') Z U H s)(J:X.Ok):Inv X Z U H s:=
 ⟨J,I.os,I.bare,I.base,I.loc,I.cell,I.free,I.freeC,I.pin,I.hok,I.len⟩
def name_goes(I:Inv X O U H s)(hN:X.N.Nodup)(hi:X.N[i]?=some x)(L:X.env.kindOf x=some .local)(h:∀g,Inv X O (U.set i none) H g->Q () g):wpAny M A (do bindName X.env x .none;unbindBehindTheSuite X.env x pos) Q E s:=by
 obtain⟨m,hn,hl⟩:=id I.loc;have R:(X.env.scope.kind==.class || (X.env.scope.kind==.module && X.env.locals !=X.env.globals))=false:=by rw[I.ok.kind];rfl
 refine wpAny_nameGoes_keeps L hn R λh' v C S=>h _ ?_;have J:∀b,b≠X.env.locals->h'.get? b=s.heap.get? b:=λb z=>S.2 b z;have G:∀b o,X.s₀.heap.get? b=some o->b≠X.env.locals:=λb o e=>Zc<|Zv (ZN e) I.ok.above;have t:∀b o,H b=some o->b≠X.env.locals:=λb o e z=>by rw[z,I.free]at e;cases e
 have B:=I.base;exists I.ok,I.os,I.bare,⟨λb o e n N L=>(J b<|G b o e).trans<|B.keep b o e n N L,λb o e n N L=>?_,B.free,λb o e L=>?_,B.tups,B.frzs,B.tbls⟩,⟨_,C,λj y u k Z l=>?_⟩,λy c e=>?_,I.free,I.freeC,λp hp=>?_,λa o e=>?_
 .obtain ⟨sl,e1⟩:=B.slot b o e n N L
  exact⟨sl,(J b<|G b o e).trans e1⟩
 .obtain ⟨o',e1⟩:=B.there b o e L
  exact⟨o',(J b<|G b o e).trans e1⟩
 .by_cases hji:j=i
  .subst hji
   rw[List.getElem?_set_self']at Z
   cases q:U[j]? with
   |none=>rw[q]at Z;cases Z
   |some z=>rw[q]at Z;cases Z
  .rw [vG (Zq hji)]at Z
   obtain⟨P,f,w⟩:=hl j y u k Z l;have F:y≠x:=λz=>hji<|RN hN k<|z ▸ hi;exists P,f;rcases w with⟨D,T⟩|⟨D,c,T,r⟩
   .exact .inl ⟨D,by show(if y=x then v else m y)=some P;rw[Zo F];exact T⟩
   .refine .inr ⟨D,c,T,r.sameBut S ?_⟩
    exact I.cne y c T
 .obtain ⟨v',hv'⟩:=I.cell y c e
  exact⟨v',hv'.sameBut S<|I.cne y c e⟩
 .obtain ⟨e,n,ne,nf,d⟩:=I.pin p hp
  exact⟨(J p.1 ne).trans e,n,ne,nf,d⟩
 .refine (I.hok a o e).stay (λb u N q=>?_) (λ_ q=>q) λ_ _ q=>q
  refine(J b ?_).trans q;rcases N with rfl|N
  .exact t _ _ e
  .exact t _ _ N
 .rw [yz];exact I.len
end
def X6(CX:CXT)(X:Cx)(U:St)(E:XK):Prop:=∀(Z:kb)(H:Hp)(s:Shared)(e:Value)(J:Shared),Inv X Z U H s->CX X.stack H s E e J->X.xe e J
section
variable{sp:Sp}{dvs:kF}{E:St->XK}{t:TA}
def PL(F:Yh X.prog X.w X.K X.mg X.base CX k f S M sp)(R:Vj k X.A)(D:Binds X.K S M G)(B:Vals dvs G)(O:∀U,X6 CX X U<|E U)(I:Inv X Z U H s)(r:Vals vs us)(h:sp (vs++ dvs) H Q (E U)):wpAny (model X.prog X.w) X.A (call (.ref f) us) (EP X Z U Q) X.xe s:=by
 have L:Vals (vs++ dvs) (us++ G):=r.append B;have T:(us++ G).length=M.length:=by rw[<-L.length];exact F.len _ _ _ _ h
 refine wpAny_call<|jb (F.run X.A X.stack s H ⟨us,[]⟩ (us++ G) (vs++ dvs) Q (E U) R I.env0 (D s us I.kIn T) L h) λr N J=>?_
 cases r with
 |error e=>exact O U Z H s e N I J
 |ok A=>
  cases A with
  |ret u=>exact I.after J
  |next=>exact False.elim J
  |brk=>exact False.elim J
  |cont=>exact False.elim J
end
structure Oo(K:W.Frag)(N:Addr):Prop where
 cls:(W.clsIn K N).isSome=true
 ty:W.typeIn K (.ref N)=some (.type "type")
 base:W.mroIn K N (.type "BaseException")=some true
def ze(K:W.Frag)(Nc:Addr)(i:Nat)(tb:(St->XK)->TS)(ts:TS):TS:=λD U H=>
 tb (λM J L G=>∃C,J=.ref C/\W.subIn K (.ref C) (.ref Nc)=some true/\(∀d,L=some d->∃o,G d=some o)/\
  ∀Z,G Z=none->ts {nx:=λU H=>D.nx (U.set i none) H,rt:=D.rt,bk:=λU H=>D.bk (U.set i none) H,ct:=λU H=>D.ct (U.set i none) H} (M.set i<|some<|.ref Z) (upd G Z<|U2 Z C L)) D U H
section
variable{X:Cx}
def Gd{A:Around}(h:A.frames=some l):(A.mark v).frames=some l:=h
abbrev Cx.tried(X:Cx)(pn:kb)(W:kh):Cx:={X with pn:=pn,xe:=W}
def Inv.tried(I:Inv X Z U H s):Inv (X.tried (X.pn++ Z) W) [] U H s:=
 ⟨⟨I.ok.mod,I.ok.kind,I.ok.glob,I.ok.blt,I.ok.above,I.ok.inj,I.ok.has,I.ok.cab,I.ok.hd,I.ok.frames,I.ok.stk,I.ok.exf,I.ok.bs,I.ok.bsz,I.ok.noex,I.ok.exfs,I.ok.funs,I.ok.frf⟩,
  I.os,I.bare,I.base,I.loc,I.cell,I.free,I.freeC,λp J=>I.pin p (by rw[vE]at J;exact J),I.hok,I.len⟩
def Inv.untried(I:Inv (X.tried (X.pn++ Z) W) pins' U H s)(J:X.Ok):Inv X Z U H s:=
 ⟨J,I.os,I.bare,I.base,I.loc,I.cell,I.free,I.freeC,λp G=>I.pin p<|vW _ G,I.hok,I.len⟩
def LI(O:X.stack=X.env::X.outer)(L1:X.env.frame=some X.env.locals)(l:X.N.Nodup)(r:X.N[i]?=some n)(t:X.env.kindOf n=some .local)(hg:Gl X x)(hm:X.mg x=some (.ref Nc))(hC:Oo X.K Nc)(hb:∀(m:St->XK)(pn:kb)(W:kh),(∀U,X6 (CX1 X.prog X.w) (X.tried pn W) U<|m U)->PSs (X.tried pn W) body (tb m))(hs:∀A',PSs (X.sui A') (b₀::suite) ts)(N2:(x==("__debug__":Str))=false:=by decide):
  PS X (.Try body [.ExceptHandler (some<|.Name x np) (some n) (b₀::suite) hpos] [] [] pos) (ze X.K Nc i tb ts):=by
 intro Z s U H D I h;refine wpAny_Try_except ?_
 let m:St->XK:=λL R3 T G=>∃C,R3=.ref C/\PySem.W.subIn X.K (.ref C) (.ref Nc)=some true/\(∀d,T=some d->∃o,G d=some o)/\
  ∀J,G J=none->ts {nx:=λU H=>D.nx (U.set i none) H,rt:=D.rt,bk:=λU H=>D.bk (U.set i none) H,ct:=λU H=>D.ct (U.set i none) H} (L.set i<|some<|.ref J) (upd G J<|U2 J C T)
 let W:kh:=λe s'=>∃L E M,Inv X Z L E M/\CX1 X.prog X.w X.stack E M (m L) e s'
 have hp:∀U,X6 (CX1 X.prog X.w) (X.tried (X.pn++ Z) W) U (m U):=λL G2 E M e s' I1 hx=>⟨L,E,M,I1.untried I.ok,hx⟩;refine Zl (hb m (X.pn++ Z) W hp [] s U H D I.tried h) (λfl M q=>?_) λe M q=>?_
 .cases fl with
  |next=>
   obtain⟨L,G,j,q⟩:=q;exact qe ⟨L,G,j.untried I.ok,q⟩
  |brk=>obtain⟨L,G,j,q⟩:=q;exact⟨L,G,j.untried I.ok,q⟩
  |cont=>obtain⟨L,G,j,q⟩:=q;exact⟨L,G,j.untried I.ok,q⟩
  |ret u=>obtain⟨v,L,G,j,q⟩:=q;exact⟨v,L,G,j.untried I.ok,q⟩
 .obtain ⟨L,E,s0,I0,J,C,T,G,rfl,os,bare,un,hok,F,C',hC',hsub,hdx,q⟩:=q
  cases hC';have R1:X.A.frames=some (X.env::X.outer):=O ▸ I.ok.frames
  have hJ:∀a t',Un (frs X.stack) [] E G s0.heap a->HOk X.prog X.w G a->Inv X Z L G {M with heap:=a,toks:=t'}:=λa t' u k=>
   I0.call' (s':={M with heap:=a,toks:=t'}) os u k bare (λb z=>Zp z<|by simp)
  have J1:=hJ M.heap M.toks un hok;have G1:Un (frs (X.env::X.outer)) [] E G s0.heap M.heap:=O ▸ un;refine P6 (P:=X.prog) (w:=X.w) (base:=X.base) (s:=s0) R1 (O ▸ J1.stack) L1 (O ▸ J1.stkFree) G1 hok F λA Z9 R F2=>?_;have N:Un (frs X.stack) [] E G s0.heap A:=O ▸ Z9;have J2:=hJ A M.toks N R;obtain⟨ut,kt⟩:=F2.track N R
  have inst:∀h3,HOk X.prog X.w (upd G J<|U2 J C T) h3->∃g p,PySem.W.InstAt h3 J g C p:=λh3 k3=>by
   obtain⟨⟨g,e1,e2,e3,e4⟩,_⟩:=(show Va X.prog X.w _ h3 J (U2 J C T)from k3 J _ Ya)
   cases hd:T with
   |none=>exact⟨g,none,e1,e2,e3,by rw[e4,hd];trivial⟩
   |some d=>
    obtain⟨o,f⟩:=hdx d hd
    have M2:upd G J (U2 J C T) d=some o:=by
     rw[Yd (λz=>by rw[z,F2.free]at f;cases f)];exact f
    obtain⟨u,hu⟩:=(k3 d o M2).ex;exact⟨g,some u,e1,e2,e3,by rw[e4,hd];exact hu⟩
  have JS:Inv (X.sui<|X.A.mark<|some<|.ref J) Z L G {M with heap:=A}:=J2.sui<|Gd I.ok.frames;refine wpAny_handleBy_cons (codeAny_handlers_test<|Uk JS hg hm ?_ N2) (by intro z;cases z);obtain⟨g,p,IA⟩:=inst A kt;refine PySem.W.exc_matches (s:={M with heap:=A}) JS.kIn IA hC.cls hC.ty hC.base hsub ?_;refine codeAny_handlers_suite_as<|IW (P:=X.prog) (w:=X.w) (s:=s0) N R F2 (λb hb o vs f=>?_) λh4 Z8 c F4=>?_
  .obtain ⟨_,o',ho',hd'⟩:=J2.stack.mem hb
   have G3:A.get? b=some o:=f;have B:A.get? b=some o':=ho';rw[G3]at B;cases B;exact hd' vs
  .obtain ⟨ut4,kt4⟩:=F4.track Z8 c
   have J4:Inv X Z L (upd G J<|U2 J C T) {M with heap:=h4}:=I0.call' (s':={M with heap:=h4}) os ut4 kt4 bare (λb z=>Zp z<|by simp);refine WM (v:=.ref J) J4 l r (.inl t) Y (λs5 J5=>?_) (.inr t);have R4:Inv (X.sui<|X.A.mark<|some<|.ref J) Z (L.set i<|some<|.ref J) (upd G J<|U2 J C T) s5:=J5.sui<|Gd I.ok.frames;refine Zl (hs _ Z s5 _ _ _ R4<|q J F4.free) (λfl s6 z=>?_) λ_ _ z=>z.elim
   cases fl with
   |next=>
    obtain⟨σ6,y,Q,z⟩:=z;exact name_goes (Q.unsui I.ok) l r t λs7 S=>⟨_,y,S,z⟩
   |brk=>
    obtain⟨σ6,y,Q,z⟩:=z;exact name_goes (Q.unsui I.ok) l r t λs7 S=>⟨_,y,S,z⟩
   |cont=>
    obtain⟨σ6,y,Q,z⟩:=z;exact name_goes (Q.unsui I.ok) l r t λs7 S=>⟨_,y,S,z⟩
   |ret u=>
    obtain⟨v,σ6,y,Q,rv,z⟩:=z;exact name_goes (Q.unsui I.ok) l r t λs7 S=>⟨v,_,y,S,rv,z⟩
end
def EH(O:List (Str×NameKind)):∀(Z:List (Str×Addr)),(∀x∈O,x.2=.free->∃c,env.cells.lookup x.1=some c)->
  ∃L,(forIn O Z (λ(x:Str×NameKind)(r:List (Str×Addr))=>(if(x.2==NameKind.free)=true then do let c <-cellOf env x.1;pure (ForInStep.yield ((x.1,c)::r))else pure (ForInStep.yield r):Sem (ForInStep<|List<|Str×Addr)))=pure L)/\
   (∀x c,L.lookup x=some c->env.cells.lookup x=some c\/Z.lookup x=some c)/\(∀x,(x,NameKind.free)∈O->∃c,L.lookup x=some c)/\(∀x c,Z.lookup x=some c->∃N,L.lookup x=some N):=by
 induction O with
 |nil=>intro Z _;exact⟨Z,Y,λx c h=>.inr h,λx h=>(nomatch h),λx c h=>⟨c,h⟩⟩
 |cons y r ih=>
  intro Z h;obtain⟨n,k⟩:=y
  by_cases hk:k=.free
  .subst hk
   obtain⟨c,D⟩:=h (n,.free) ZY rfl;obtain⟨L,B,T,R,M⟩:=ih ((n,c)::Z) λx J=>h x<|ZK _ J;refine⟨L,?_,λx N J=>?_,λx J=>?_,λx N J=>?_⟩
   .rw [<-B]
    simp only[jz,beq_self_eq_true,if_true,cellOf,D]
    rfl
   .rcases T x N J with q|q
    .exact .inl q
    .rw [vv]at q
     cases G:x==n with
     |true=>
      rw[G]at q;have:x=n:=by simpa using G
      subst this;cases q;exact .inl D
     |false=>rw[G]at q;exact .inr q
   .rcases Zb.mp J with q|q
    .cases q
     exact M n c<|by simp[vv]
    .exact R x q
   .cases G:x==n with
    |true=>exact M x c<|by simp[vv,G]
    |false=>exact M x N<|by simp[vv,G,J]
  .obtain ⟨L,B,T,R,M⟩:=ih Z λx J=>h x<|ZK _ J
   have G:(k==NameKind.free)=false:=by simpa using hk
   refine⟨L,?_,T,λx J=>?_,M⟩
   .rw [<-B]
    simp only[jz,G,jc,if_false]
    rfl
   .rcases Zb.mp J with q|q
    .cases q;exact Zp Y hk
    .exact R x q
def EG(h:∀x∈scope.names,x.2=.free->∃c,env.cells.lookup x.1=some c):
  ∃Z,closureFor scope env=pure Z/\(∀x c,Z.lookup x=some c->env.cells.lookup x=some c)/\(∀x,(x,NameKind.free)∈scope.names->∃c,Z.lookup x=some c):=by
 obtain⟨Z,M,L,G,_⟩:=EH scope.names [] h;refine⟨Z,?_,λx c J=>(L x c J).resolve_right (by simp),G⟩;rw[<-bind_pure (pure Z:Sem (List<|Str×Addr)),<-M]
 rfl
theorem WW{scope:Scope}{Z:Env}{x:Str}:∀{names:List (Str×NameKind)},(names.map λ(n,k)=>if(k==NameKind.free && Z.scope.kind==.function && Z.kindOf n==some .cell)then(n,NameKind.cell)else(n,k)).lookup x=some .cell \/
  (names.map λ(n,k)=>if(k==NameKind.free && Z.scope.kind==.function && Z.kindOf n==some .cell)then(n,NameKind.cell)else(n,k)).lookup x=some .free->(∀y∈names,y.2≠.cell)->(x,NameKind.free)∈names
 |[],h,_=>by simp at h
 |(n,k)::r,h,hc=>by
  have ih:= @WW scope Z x r;rw[ZT]at h
  have G:∀M:NameKind,(∀J,((n,M)::(r.map λ(n,k)=>if(k==NameKind.free && Z.scope.kind==.function && Z.kindOf n==some .cell)then(n,NameKind.cell)else(n,k))).lookup x=some J->(x=n/\M=J)\/(r.map λ(n,k)=>if(k==NameKind.free && Z.scope.kind==.function && Z.kindOf n==some .cell)then(n,NameKind.cell)else(n,k)).lookup x=some J):=λM J q=>by
   rw[vv]at q
   cases hb:x==n with
   |true=>rw[hb]at q;exact .inl ⟨by simpa using hb,ZP q⟩
   |false=>rw[hb]at q;exact .inr q
  dsimp only at h
  split at h
  .rename_i hk
   have O:k=.free:=by
    cases k <;> simp at hk
    rfl
   subst O;rcases h with h|h
   .rcases G _ _ h with⟨e,_⟩|q
    .subst e;exact ZY
    .exact ZK _ (ih (.inl q) λy L=>hc y<|ZK _ L)
   .rcases G _ _ h with⟨e,_⟩|q
    .subst e;exact ZY
    .exact ZK _ (ih (.inr q) λy L=>hc y<|ZK _ L)
  .rcases h with h|h
   .rcases G _ _ h with⟨e,N⟩|q
    .exact Zp N (hc (n,k) ZY)
    .exact ZK _ (ih (.inl q) λy L=>hc y<|ZK _ L)
   .rcases G _ _ h with⟨e,N⟩|q
    .subst e;subst N;exact ZY
    .exact ZK _ (ih (.inr q) λy L=>hc y<|ZK _ L)
def Bc(I:Nat->Shared->Prop)(turn:∀n s,I n s->wpAny (model prog w) A (pyNext it) (λr G=>match r with
   |none=>R (.ok .next) G
   |some v=>wpAny (model prog w) A (letOwnedTupleGo target it v) (λ_ J=>wpAny (model prog w) A (assign target env v) (λ_ O=>wpAny (model prog w) A (eval elt env) (λx N=>
     wpAny (model prog w) A (call (.builtin "list.append") [acc,x]) (λ_ M=>∃m,m<n/\I m M) (λ_ _=>False) N)
     (λ_ _=>False) O) (λ_ _=>False) J) (λ_ _=>False) G) (λ_ _=>False) s)(n:Nat)(h:I n s):codeAny (model prog w) A
   (.compLoop (.ListComp elt [⟨target,iter,[],0⟩] scope pos) 0 it acc env) R s:=by
 refine codeAny_loop Y I (λn s B=>wpAny_noted (m:=compTurn (.ListComp elt [⟨target,iter,[],0⟩] scope pos) 0 it acc env) ?_) n h;rw[compTurn_list1];refine Zj<|vC<|Zj<|Zl (turn n s B) (λr G T=>?_) λ_ _ Z=>Z.elim
 cases r with
 |none=>exact Zk T
 |some v=>
  exact Zj (Zl T (λ_ J L=>Zj (Zl L (λ_ O F=>Zj (Zj (Zl F (λx N E=>Zj (Zl E
   (λ_ M D=>Zk<|Zk ⟨rfl,D⟩) λ_ _ Z=>Z.elim)) λ_ _ Z=>Z.elim))) λ_ _ Z=>Z.elim)) λ_ _ Z=>Z.elim)
theorem Gb{Z:Env}{x:Str}:∀{names:List (Str×NameKind)},names.lookup x=some .free->
  (names.map λ(n,k)=>if(k==NameKind.free && Z.scope.kind==.function && Z.kindOf n==some .cell)then(n,NameKind.cell)else(n,k)).lookup x≠some .local
 |[],h=>by simp at h
 |(n,k)::r,h=>by
  have ih:= @Gb Z x r;rw[ZT];dsimp only[rI0,rI,XQ];rw[vv]at h
  cases hb:x==n with
  |true=>
   rw[hb]at h;have J:k=.free:=ZP h;subst J
   split <;> simp[vv,hb]
  |false=>
   rw[hb]at h
   split <;> (simp only[vv,hb];exact ih h)
def VQ(X:Cx)(N':kq)(scope:Scope)(cl:List (Str×Addr))(C:Addr)(fp:kA)(s:Shared)(H:Hp):Cx:=
 {X with N:=N',s₀:=s,H₀:=H,env:=compEnvC scope cl C X.env,outer:=X.stack,stack:=X.stack,ex:=fp,fn:=λ_=>false,pn:=[],xe:=λ_ _=>False}
def Vh(X:Cx)(own:kq)(ix:List Nat):kq:=own++ ix.map λj=>X.N.getD j ("":Str)
def V0(k:Nat)(ix:List Nat)(U:St):St:=List.replicate k none++ ix.map λj=>U.getD j none
def GK(k:Nat)(g:TG):Prop:=∀x U H Q,g x U H Q->g x U H fun σ2 Z=>Q σ2 Z/\σ2.length=U.length/\σ2.drop k=U.drop k
def VM(h:i<k):GK k (Vp i):=λx U H Q q=>⟨q,by simp,by rw[List.drop_set,Zn h]⟩
def GKs(k:Nat)(g:TGs):Prop:=∀x U H Q,g x U H Q->g x U H fun σ2 Z=>Q σ2 Z/\σ2.length=U.length/\σ2.drop k=U.drop k
def As:GKs k BP:=λx U H Q q=>by
 match x,q with
 |[],q=>exact⟨q,Y,Y⟩
def E9(R:GK k g)(O:GKs k gs)(N:∀x U H (Q Z:kI),(∀a b,Q a b->Z a b)->g x U H Q->g x U H Z)(M:∀x U H (Q Z:kI),(∀a b,Q a b->Z a b)->gs x U H Q->gs x U H Z):GKs k (XZ g gs):=λx U H Q q=>by
 match x,q with
 |v::r,q=>
  refine N _ _ _ _ _ (λa b z=>?_)<|R _ _ _ _ q;obtain⟨L,G,J⟩:=z;refine M _ _ _ _ _ (λc d y=>?_)<|O _ _ _ _ L;exact⟨y.1,y.2.1.trans G,y.2.2.trans J⟩
def Ar{K:W.Frag}(h:GKs k gs):GK k (QO K n gs):=λx U H Q q=>by
 match x,q with
 |.ref a,q=>
  obtain⟨Z,G,J,q⟩:=q;exact⟨Z,G,J,h _ _ _ _ q⟩
def Rh(J:It)(g:TG)(te:TE)(s0:St)(Q:VK)(H1:Hp):Prop:=∃W:Nat->Nat->List V->Hp->Prop,(∃m,W 0 m [] H1)/\∀i m Z H,W i m Z H->
 Z.length<sizeLine/\((J.stop i H/\∀p,H p=none->Q (.ref p) (upd H p<|.lst Z)) \/
  (J.go i H/\∀x L,J.yld i H x L->g x s0 L fun σ2 N=>te σ2 N λy M=>∃G,G<m/\W (i+1) G (Z++[y]) M))
def Qi(k:Nat)(ix:List Nat)(wi:TI)(g:TG)(te:TE):TE:=λU H Q=>wi U H λJ Z=>Rh J g te (V0 k ix U) Q Z
def Inv.retrack(I:Inv X Z U H s)(O:H D=none)(f:UL X Z H D)(L:Va X.prog X.w (upd H D o) s.heap D o):Inv X Z U (upd H D o) s:=by
 have G:∀b u,H b=some u->b≠D:=λb u e=>Yj e O;have r:=I.step (h':=s.heap) (H':=upd H D o) (g':=s.gens) (d':=s.drawn) (t':=s.toks) (ch:=[D])
  (λb J=>by
   have e:b=D:=by simpa using J
   subst e;exact⟨f.2.2.2.1,f.2.1,f.2.2.2.2.1,f.2.2.2.2.2⟩)
  (λb o _ _ _ e _=>e) (λb o _ _ _ e _=>⟨o.slots,e⟩) (λb o J e n=>by rw[Yd (λz=>J<|by simp[z])];exact n) (λb o _ e=>⟨o,e⟩)
  (λb M e=>by rw[Yd (G _ _ e)];exact e) (λb o u e=>by rw[Yd (G _ _ e)];exact e) (λb R e=>⟨#[],by rw[Yd (G _ _ e),e];simp⟩) (λm N=>N)
  (λb u e=>by
   by_cases J:b=D
   .subst J;rw[Ya]at e;cases e;exact L
   .rw [Yd J]at e
    exact(I.hok b u e).stay (λc v _ q=>q) (λc q=>by rw[Yd (G _ _ q)];exact q) λc M q=>by rw[Yd (G _ _ q)];exact q) I.bare
 exact r
def UZ(sc:Scope)(outer:List (Str×NameKind))(N:kq)(ix:List Nat):Bool:=
 sc.names.all (λx=>(decide (x.2≠.local) || decide (sc.names.lookup x.1=some .local)) && decide (x.2≠.cell) && (decide (x.2≠.free) || decide (outer.lookup x.1=some .cell) || decide (outer.lookup x.1=some .free))) &&
  ix.all λj=>match N[j]? with
   |some y=>decide<|sc.names.lookup y=some .free
   |none=>false
def UZ.all(Z:UZ sc outer N ix=true):
  (∀x∈sc.names,x.2=.local->sc.names.lookup x.1=some .local)/\(∀x∈sc.names,x.2≠.cell)/\(∀x∈sc.names,x.2=.free->outer.lookup x.1=some .cell\/outer.lookup x.1=some .free)/\∀j∈ix,∃y,N[j]?=some y/\sc.names.lookup y=some .free:=by
 unfold UZ at Z;rw[ZX,vO,vO]at Z;have each:=λx J=>Z.1 x J;simp only[ZX,Bool.or_eq_true,decide_eq_true_eq]at each;refine⟨λx J G=>(each x J).1.1.resolve_left λz=>z G,λx J=>(each x J).1.2,λx J M=>?_,λj L=>?_⟩
 .rcases (each x J).2 with(z|z)|z
  .exact Zp M z
  .exact .inl z
  .exact .inr z
 .have q:=Z.2 j L
  cases e:N[j]? with
  |none=>rw[e]at q;cases q
  |some y=>rw[e]at q;exact⟨y,Y,Zr q⟩
structure CB(X:Cx)(own:List Str)(ix:List Nat)(scope:Scope)(pins:List (Addr×Obj))(U:St)(tg:Expr)(cl:List (Str×Addr))(D C:Addr)(fp:List Addr)(it:Addr)(tn:Nat->Heap->Prop)(J:It)(H2:Hp)(s3:Shared):Prop where
 T:Turn X.prog X.w X.K tg J fp it tn
 ok:(VQ X (Vh X own ix) scope cl C (D::fp) s3 H2).Ok
 nfp:∀b∈fp,b≠D
 f2:∀b∈fp,UL X pins H2 b
 fD:UL X pins H2 D
 I3:Inv X pins U H2 s3
 CD:C≠D
 fC:∀H':Hp,H' C=none->UL X pins H' C
section
def U5{rest:List Comprehension}(own:kq)(E:List Nat)(hi:PI X tg iter wi)(M:scope.kind=.function)(R7:UZ scope X.env.scope.names X.N E=true)(hs:∀x,foldedSetIterable iter X.env x=pure x)(I:Inv X G U H s)(h:wi U H R)(loop:∀(cl:List (Str×Addr))(D C:Addr)(fp:kA)(it:Addr)(tn:Nat->Heap->Prop)(J:It)(A:Hp)(s3 s5:Shared),CB X own E scope G U tg cl D C fp it tn J A s3->R J A->Inv (VQ X (Vh X own E) scope cl C (D::fp) s3 A) [] (V0 own.length E U) A s5->tn 0 s5.heap->s5.heap.PlainList D (List.toArray [])->
   codeAny (model X.prog X.w) X.A (.compLoop (.ListComp elt (⟨tg,iter,ifs,0⟩::rest) scope pos) 0 (.ref it) (.ref D)<|compEnvC scope cl C X.env) (compPost (model X.prog X.w) X.A X.xe use POST (.ref D) C) s5):
  wpAny (model X.prog X.w) X.A (comprehension (.ListComp elt (⟨tg,iter,ifs,0⟩::rest) scope pos) scope X.env cpos (newList []) false (eval iter X.env) use) POST X.xe s:=by
 obtain⟨Z9,Q,J5,R8⟩:=UZ.all R7;have J1:∀x∈scope.names,x.2=.free->∃c,X.env.cells.lookup x.1=some c:=λx hx hf=>I.ok.has x.1<|J5 x hx hf;obtain⟨cl,T0,Z,J4⟩:=EG J1;refine wpAny_comprehension_free Y hs T0 M Z9 ?_;refine thn (hi G s U H _ I h) λv s1 h1=>thn h1 λT4 w h2=>?_;obtain⟨it,fp,tn,J,A,e,O,T,G3,f2,hR⟩:=h2;subst e;refine vq<|wpAny_newFunctionEnv Q (by intro y hy;simp at hy) (λh4 Z8 n=>?_) M;dsimp only at Z8 n |-;generalize hh3:w.heap.push {cls:=.type "list",dict:=none,data:=.seq ([]:kj).toArray}=h3 at Z8 n |-;have M2:h3.objs.size=w.heap.objs.size+1:=by rw[<-hh3,vi]
 have l:∀b u,w.heap.get? b=some u->h3.get? b=some u:=λb u q=>by rw[<-hh3];exact ZD _ q
 have D3:h3.get? w.heap.objs.size=some {cls:=.type "list",data:=.seq #[]}:=by rw[<-hh3];exact ZW _ Y
 obtain⟨D,g⟩:∃D,D=w.heap.objs.size:=⟨_,rfl⟩;obtain⟨C,hC⟩:∃C,C=h3.objs.size:=⟨_,rfl⟩;rw[<-hC]at Z8 n;rw[<-g]at D3 M2;have F:C=D+1:=hC.trans M2
 let s3:Shared:={w with heap:=h3}
 have I3:Inv X G U A s3:=O.kept (t':=w.toks) l;have R6:∀b u,h3.get? b=some u->b<C:=λb u q=>by rw[hC];exact ZN q
 have L:∀b u,h3.get? b=some u->h4.get? b=some u:=λb u q=>n.extBut b u (Zc<|R6 b u q)<|ZD _ q;have T2:A D=none:=O.hok.fresh (by rw[g];exact ZF _);have T3:A C=none:=O.hok.fresh (by rw[F,g];exact jr _);have fD:UL X G A D:=O.fpOk (by rw[g];exact ZF _) T2
 have f:∀x c,X.env.cells.lookup x=some c->c<D:=λx c e=>by
  obtain⟨v,z⟩:=O.cell x c e;rw[g];exact z.lt
 have G1:∀b∈fp,b<D:=λb N=>by
  obtain⟨o,e,_⟩:=T.obj 0 _ G3 b N;rw[g];exact ZN e
 let X':Cx:=VQ X (Vh X own E) scope cl C (D::fp) s3 A
 have G2:∀b∈frs X.stack,b∉D::fp:=λb N z=>by
  rcases Zb.mp z with z|z
  .have q:=O.stack
   obtain⟨_,o,e,_⟩:=q.mem N;have:=ZN e;rw[z,g]at this;exact yx _ this
  .rcases Zb.mp (O.stkSub b N)with q|q
   .exact (f2 b z).2.1 q
   .exact (f2 b z).2.2.1 q
 have N2:X'.Ok:=by
  refine⟨I.ok.mod,M,I.ok.glob,I.ok.blt,?_,λx y c h1 h2=>I.ok.inj x y c (Z x c h1)<|Z y c h2,λx hx=>J4 x<|WW (scope:=scope) hx Q,(λx c z=>Bool.noConfusion (show false=true from z)),I.ok.hd,I.ok.frames,.inl rfl,λb N=>⟨?_,λx c h1=>?_⟩,λb o e=>?_,?_,λb o e N=>?_,λb N z=>G2 b z N,?_,λb N=>O.stkFree b N⟩
  .show h3.objs.size<=C
   rw[hC];exact ZF _
  .show b≠C
   rcases Zb.mp N with z|z
   .rw [z,F];exact Zc<|vZ _
   .rw [F];exact Zc<|Nat.lt_succ_of_lt<|G1 b z
  .rcases Zb.mp N with z|z
   .rw [z];exact Zc<|f x c<|Z x c h1
   .exact (f2 b z).2.2.2.2.1 x c (Z x c h1)
  .exact I3.bs b o e
  .show X.base.objs.size<=h3.objs.size
   have:=ZZ I.ok.bsz O.sz;rw[<-g]at this;rw[<-hC,F];exact Nat.le_succ_of_le this
  .rcases Zb.mp N with z|z
   .have:=ZN<|O.bk b o e
    rw[z,g]at this;exact yx _ this
   .rcases (f2 b z).2.2.2.1 with q|q
    .exact I.ok.noex b o e q
    .have:=Zv (ZN (I.ok.bs b o e).1) q
     exact yx _ this
  .exact I3.stack
 have R1:(V0 own.length E U).length=(Vh X own E).length:=by simp[V0,Vh]
 have I4:∀t,Inv X' [] (V0 own.length E U) A {w with heap:=h4,toks:=t}:=λt=>by
  refine⟨N2,Y,O.bare,Un.kept L,⟨_,Z8,λi x v e1 e2 e3=>?_⟩,λx c e=>?_,T3,λx c e=>O.freeC x c<|Z x c e,λp hp=>Zp (show p∈([]:kb)from hp) (by simp),(I3.hok).kept L,R1⟩
  .-- a name of the def that the block reads
   have R5:own.length<=i:=by
    apply jm;intro R4;unfold V0 at e2;rw[yk (by simpa using R4),vM,Zn R4]at e2;cases e2
   have d:(E.map λj=>X.N.getD j ("":Str))[i-own.length]?=some x:=by
    have z:(own++ E.map λj=>X.N.getD j ("":Str))[i]?=some x:=e1
    rwa [yp R5]at z
   have L1:(E.map λj=>U.getD j none)[i-own.length]?=some (some v):=by
    unfold V0 at e2;rw[yp (by simpa using R5)]at e2;simpa using e2
   rw[ZG]at d L1
   cases hj:E[i-own.length]? with
   |none=>rw[hj]at d;cases d
   |some j=>
    rw[hj]at d L1;obtain⟨y,hy,P⟩:=R8 j<|ZH hj
    have ex:x=y:=by
     have z:X.N.getD j ("":Str)=x:=ZP d;rw[<-z,yj,hy];rfl
    subst ex
    have ev:U[j]?=some (some v):=by
     have z:U.getD j none=some v:=ZP L1;rw[yj]at z
     cases q:U[j]? with
     |none=>rw[q]at z;cases z
     |some a=>rw[q]at z;exact congrArg some z
    have R3:=vL P;have J2:=J5 _ R3 rfl;obtain⟨m,hn,hl⟩:=O.loc;obtain⟨u,r,lk⟩:=hl j x v hy ev<|.inr J2;refine⟨u,r,.inr ⟨?_,?_⟩⟩
    .rcases e3 with z|z
     .exact Zp z (Gb P)
     .exact z
    .rcases lk with⟨k,_⟩|⟨_,c,T1,z⟩
     .rcases J2 with q|q
      .exact Zp (k.symm.trans q) (by simp)
      .exact Zp (k.symm.trans q) (by simp)
     .obtain ⟨c',hc'⟩:=J4 x R3
      have:=Z x c' hc';rw[T1]at this;cases this;obtain⟨o,ho,hd⟩:=z;exact⟨c,hc',o,L _ _<|l _ _ ho,hd⟩
  .obtain ⟨v,z⟩:=I3.cell x c<|Z x c e
   obtain⟨o,ho,hd⟩:=z;exact⟨v,o,L _ _ ho,hd⟩
 have B:CB X own E scope G U tg cl D C fp it tn J A s3:=⟨T,N2,λb N=>Zc<|G1 b N,f2,fD,I3,by rw[F];exact vH<|vZ _,λH' hn=>O.fpOk (by rw[F,g];exact jr _) hn⟩;have S:=λt=>loop cl D C fp it tn J A s3 {w with heap:=h4,toks:=t} B hR (I4 t) (T.keep 0 _ _ G3 λb _ o e=>L _ _<|l _ _ e) ⟨_,L _ _ D3⟩;rw[<-hC,<-g];exact codeAny_compStart_list (S _)<|T.self _ 0 _ _ _ (T.keep 0 _ _ G3 λb _ o e=>L _ _<|l _ _ e)<|S _
def CB.stop(B:CB X own ix scope Z U tg cl D C fp it tn J A s3)(G:Inv (VQ X (Vh X own ix) scope cl C (D::fp) s3 A) [(D,oD)] τ H5 s6)(R:ys.length<sizeLine)(O:Vals ys L)(E:oD={cls:=.type "list",data:=.seq L.toArray nn}):
  Inv X Z U (upd H5 D<|.lst ys) s6/\UL X Z (upd H5 D<|.lst ys) C/\(∃m,s6.heap.Ns C m)/\H5 D=none:=by
 obtain⟨m,N,_⟩:=id G.loc
 have F:Inv X Z U H5 s6:=B.I3.call' (ch:=D::fp) G.os G.base G.hok G.bare λb T=>by
  rcases Zb.mp T with z|z
  .subst z
   exact⟨B.fD.2.2.2.1,B.fD.2.1,B.fD.2.2.2.2.1,B.fD.2.2.2.2.2⟩
  .have f:=B.f2 b z
   exact⟨f.2.2.2.1,f.2.1,f.2.2.2.2.1,f.2.2.2.2.2⟩
 obtain⟨gD,M,_⟩:=G.pin (D,oD) (by simp);subst E;exact⟨F.retrack (o:=.lst ys) M ⟨M,B.fD.2⟩ ⟨Zf R,L,nn,O,gD⟩,B.fC _ (by rw[Yd B.CD];exact G.free),⟨m,N⟩,M⟩
def EC(R:Inv X Z U L s6)(J:UL X Z L C)(N:∃m,s6.heap.Ns C m)(q:Q (.ref D) L):compPost (model X.prog X.w) X.A X.xe none (EP X Z U Q) (.ref D) C (.ok .next) s6:=by
 obtain⟨m,M⟩:=N;exact⟨m,M,λT G=>⟨.ref D,_,R.turned (it:=C) (t':=s6.toks) (λb o O e=>(G.2 b O).trans e) J.1 J.2.1 J.2.2.2.1 J.2.2.2.2.1 J.2.2.2.2.2,Y,q⟩⟩
def EB{F:Ends}(j:X.N.Nodup)(T:X.N[i0]?=some x0)(N:Loc X.env.scope x0)(P:X.fn x0=true\/X.env.scope.names.lookup x0=some .local)(t:Inv X Z U M s6)(G:UL X Z M C)(S:∃m,s6.heap.Ns C m)(q:Vp i0 (.ref D) U M F.nx):
  compPost (model X.prog X.w) X.A X.xe (some<|assign (.Name x0 py) X.env) (λ_ I=>∃E M,Inv X Z E M I/\F.nx E M) (.ref D) C (.ok .next) s6:=by
 obtain⟨m,R⟩:=S;show wpAny _ X.A (assign (.Name x0 py) X.env<|.ref D) _ _ _;refine wpAny_assign_Name<|Ru (v:=.ref D) t j T N rfl (λA y J=>?_) P;obtain⟨a,J,L⟩:=J
 have B:C≠a:=by
  rcases L with L|L
  .rw [L];exact G.2.1
  .exact λz=>G.2.2.2.2.1 x0 a L z.symm
 exact⟨m,R.sameBut J B,λg O=>⟨_,_,y.turned (it:=C) (t':=A.toks) (λb o Q e=>(O.2 b Q).trans e) G.1 G.2.1 G.2.2.2.1 G.2.2.2.2.1 G.2.2.2.2.2,q⟩⟩
def M4(J:swapsWith (.ListComp e gens scope pos) (some<|.Name x0 py) spos.line X.env=pure true)(h:wpAny (model X.prog X.w) X.A (comprehension (.ListComp e gens scope pos) scope X.env (firstIterPos gens pos) (newList []) (firstAsync gens) (firstIter gens X.env)<|some<|assign (.Name x0 py) X.env) (λ_ G=>∃L M,Inv X Z L M G/\D0.nx L M) X.xe s):
  wpAny (model X.prog X.w) X.A (exec (.Assign [.Name x0 py] (.ListComp e gens scope pos) spos) X.env) (SP X Z D0) X.xe s:=by
 rw[exec_Assign_Name_used _ _ _ _ J];refine Zj<|vC<|Zj (?_:wpAny _ X.A (do let _ <-comprehension (.ListComp e gens scope pos) scope X.env _ (newList []) _ _ (some<|assign (.Name x0 py) X.env)) _ _ s);exact Zj<|Zl h (λ_ G N=>Zk<|Zk N) λ_ _ e=>e
def CB.loop1(B:CB X own ix scope A U tg E D C M it tn J w s3)(hc:X.calm=true)(L1:GK own.length g)(hg:∀E C M s H,PG (VQ X (Vh X own ix) scope E C M s H) tg g)(he:∀E C M s H,PE (VQ X (Vh X own ix) scope E C M s H) elt te)(cw:Rh J g te (V0 own.length ix U) Q w)(N2:∀h F ys,Inv X A U (upd F D<|.lst ys) h->UL X A (upd F D<|.lst ys) C->(∃m,h.heap.Ns C m)->Q (.ref D) (upd F D<|.lst ys)->Rs (.ok .next) h)(I4:Inv (VQ X (Vh X own ix) scope E C (D::M) s3 w) [] (V0 own.length ix U) w P)(J4:tn 0 P.heap)(lD:P.heap.PlainList D (List.toArray [])):
  codeAny (model X.prog X.w) X.A (.compLoop (.ListComp elt [⟨tg,iter,[],0⟩] scope pos) 0 (.ref it) (.ref D)<|compEnvC scope E C X.env) Rs P:=by
 obtain⟨W,⟨m0,w0⟩,turn⟩:=cw;have T:=B.T;have N:=B.ok;have Z8:=B.nfp
 let R:Cx:=VQ X (Vh X own ix) scope E C (D::M) s3 w
 have c:∀{I:Hp}{pl:kb},(∀p∈pl,p.1=D)->(∀b∈M,I b=none)->∀b∈M,UL R pl I b:=λ{I pl} O hn b L=>
  ⟨hn b L,(N.exf b<|ZK _ L).1,N.exfs b<|ZK _ L,.inl<|ZK _ L,(N.exf b<|ZK _ L).2,λp G1 z=>Z8 b L (z ▸ O p (by
   have q:p∈([]:kb)++ pl:=G1;simpa using q))⟩
 have dX:D≠R.env.locals:=(N.exf D ZY).1;have dF:D∉R.fs:=N.exfs D ZY;refine Bc (λn s'=>∃i ys Z I,Inv R [] (V0 own.length ix U) I s'/\tn i s'.heap/\(∀b∈M,I b=none)/\I D=none/\s'.heap.PlainList D (List.toArray Z)/\Vals ys Z/\W i n ys I) ?_ m0
  ⟨0,[],[],w,I4,J4,λb L=>(B.f2 b L).1,B.fD.1,lD,.nil,w0⟩
 rintro n P ⟨i,ys,Z,F,I5,a,J1,d5,⟨nn,l5⟩,v5,w5⟩;obtain⟨hz,k⟩:=turn i n ys F w5
 let oD:Obj:={cls:=.type "list",data:=.seq Z.toArray nn}
 have G:∀p∈ [((D,oD):Addr×Obj)],p.1=D:=λp O=>by
  have e:p=(D,oD):=by simpa using O
  rw[e]
 have J2:Inv R [(D,oD)] (V0 own.length ix U) F P:=I5.pins_of λp O=>by
  have e:p=(D,oD):=by simpa using O
  subst e;exact⟨l5,d5,dX,dF,λv z=>nomatch z⟩
 rcases k with⟨stop,qn⟩|⟨go,step⟩
 .refine thn (T.done R rfl rfl rfl hc i _ P _ F _ J2 (c G J1) a stop) λr h ⟨hr,I6⟩=>?_
  subst hr;obtain⟨z1,z2,z3,nD⟩:=B.stop I6 hz v5 rfl;exact N2 h F ys z1 z2 z3<|qn D nD
 .refine thn (T.item R rfl rfl rfl hc i _ P _ F _ J2 (c G J1) a go) λr h ⟨u,hr,h6⟩=>?_
  subst hr;refine thn h6 λ_ s7 ⟨x,H7,I7,r7,y7,S,M2⟩=>?_;have R3:=I7.pinned (c G M2)<|T.obj _ _ S;refine thn (hg E C (D::M) s3 w _ s7 _ H7 x u _ R3 r7<|L1 _ _ _ _<|step x H7 y7) λ_ s8 ⟨σ8,H8,I8,q8,l8,k8⟩=>?_;refine thn (he E C (D::M) s3 w _ s8 σ8 H8 _ I8 q8) λyv s9 ⟨y,H9,I9,r9,m',G2,w9⟩=>?_;obtain⟨gD,nD,_⟩:=I9.pin (D,oD) (by simp);have Z9:Z.length=ys.length:=v5.length.symm;refine j6 (l:=D) (items:=Z.toArray) ⟨nn,gD⟩ (λh' G3 J5=>?_) (by rw[ZM,Z9];exact Zf hz);have kp:∀b o,b≠D->s9.heap.get? b=some o->h'.get? b=some o:=λb o L q=>(J5.2 b L).trans q
  have R1:Inv R (VZ M s7.heap) σ8 H9 s9:=I9.pins_of λp O=>I9.pin p (by
   refine ZQ _<|ZQ _ O)
  have t:∀p∈R.pn++ VZ M s7.heap,p.1≠D:=λp O=>by
   have q:p∈([]:kb)++ VZ M s7.heap:=O;exact Z8 _ (Xz<|by simpa using q).1
  have f:Inv R (VZ M s7.heap) σ8 H9 {s9 with heap:=h',toks:=s9.toks}:=R1.turned (it:=D) kp nD dX (.inl ZY) (N.exf D ZY).2 t;refine⟨m',G2,i+1,ys++[y],Z++[yv],H9,?_,?_,?_,nD,?_,v5.append<|.cons r9 .nil,w9⟩
  .refine Inv.weak (f.pins_of (pins':=[]) λp O=>nomatch O) (by rw[l8]) λj v hj=>?_
   by_cases hlt:j<own.length
   .unfold V0 at hj
    rw[yk (by simpa using hlt),vM,Zn hlt]at hj;cases hj
   .have e:σ8[j]?=(V0 own.length ix U)[j]?:=by
     have q:=congrArg (λl:List (kJ)=>l[j-own.length]?) k8;simp only[jd]at q
     rwa [qb (jm hlt)]at q
    rw[e];exact hj
  .exact T.keep _ _ _ S λb L o e=>(f.pin (b,o)<|ZQ _<|Vz L e).1
  .intro b L
   obtain⟨o,e,d⟩:=T.obj _ _ S b L;exact(f.pin (b,o)<|ZQ _<|Vz L e).2.1
  .have e:(Z++[yv]).toArray=Z.toArray.push yv:=by simp
   rw[e];exact G3
end
def NQ(I:Nat->Shared->Prop)(turn:∀n s,I n s->wpAny (model prog w) A (pyNext it) (λr M=>match r with
   |none=>R (.ok .next) M
   |some v=>wpAny (model prog w) A (letOwnedTupleGo target it v) (λ_ L=>wpAny (model prog w) A (assign target env v) (λ_ B=>wpAny (model prog w) A (isTrue ct env<|eval ct env) (λb G=>if b=true then wpAny (model prog w) A (eval elt env) (λx T=>
     wpAny (model prog w) A (call (.builtin "list.append") [acc,x]) (λ_ O=>∃m,m<n/\I m O) (λ_ _=>False) T)
     (λ_ _=>False) G else ∃m,m<n/\I m G) (λ_ _=>False) B) (λ_ _=>False) L) (λ_ _=>False) M) (λ_ _=>False) s)(n:Nat)(h:I n s):codeAny (model prog w) A (.compLoop (.ListComp elt [⟨target,iter,[ct],0⟩] scope pos) 0 it acc env) R s:=by
 refine codeAny_loop Y I (λn s E=>wpAny_noted (m:=compTurn (.ListComp elt [⟨target,iter,[ct],0⟩] scope pos) 0 it acc env) ?_) n h;rw[compTurn_list];refine Zj<|vC<|Zj<|Zl (turn n s E) (λr M D=>?_) λ_ _ Z=>Z.elim
 cases r with
 |none=>exact Zk D
 |some v=>
  refine Zj<|Zl D (λ_ L N=>Zj<|Zl N (λ_ B U=>?_) λ_ _ Z=>Z.elim) λ_ _ Z=>Z.elim;dsimp only;refine Zj ?_;rw[jz];simp only[if_true];refine Zj<|Zj<|Zl U (λb G J=>Zk ?_) λ_ _ Z=>Z.elim;dsimp only;rw[List.forIn_nil];refine Zk ?_
  cases b with
  |true=>
   rw[Zn rfl]at J;simp only[if_true];exact Zj<|Zj<|Zl J (λx T S=>Zj<|Zl S (λ_ O F=>Zk<|Zk ⟨rfl,F⟩) λ_ _ Z=>Z.elim) λ_ _ Z=>Z.elim
  |false=>
   rw[Zo (by simp)]at J;simp only[Zo Zg];exact Zk ⟨Y,J⟩
def NX(J:It)(g:TG)(tc:TT)(te:TE)(s0:St)(Q:VK)(H1:Hp):Prop:=∃W:Nat->Nat->List V->Hp->Prop,(∃m,W 0 m [] H1)/\∀i m Z H,W i m Z H->
 Z.length<sizeLine/\((J.stop i H/\∀p,H p=none->Q (.ref p) (upd H p<|.lst Z)) \/
  (J.go i H/\∀x M,J.yld i H x M->g x s0 M fun σ2 O=>tc σ2 O λb L=>if b=true then te σ2 L λy N=>∃G,G<m/\W (i+1) G (Z++[y]) N else ∃G,G<m/\W (i+1) G Z L))
def KW(k:Nat)(ix:List Nat)(wi:TI)(g:TG)(tc:TT)(te:TE):TE:=λU H Q=>wi U H λJ Z=>NX J g tc te (V0 k ix U) Q Z
def EF(n:Nat)(C:n<sizeLine)(L:Nat->List V->Hp->Prop)(S:L 0 [] H)(O:∀i Z H,L i Z H->Z.length<=i)(D:∀i Z H,i<n->L i Z H->J.go i H)(M:∀Z H,L n Z H->J.stop n H)(F:∀i Z H x T (R:Bool->V->Hp->Prop),i<n->L i Z H->J.yld i H x T->(∀v G,L (i+1) (Z++[v]) G->R true v G)->(∀G,L (i+1) Z G->R false .non G)->g x s0 T λE U=>tc E U λb G=>if b=true then te E G (R true)else R false .non G)(A:∀Z H p,L n Z H->H p=none->Q (.ref p) (upd H p<|.lst Z)):
  NX J g tc te s0 Q H:=by
 refine⟨λi m Z H=>m=n-i/\i<=n/\L i Z H,⟨n,by simp,Za _,S⟩,?_⟩;rintro i m Z H ⟨rfl,P,p⟩;have X:=O i Z H p;exists by omega
 by_cases hlt:i<n
 .exact .inr ⟨D i Z H hlt p,λx T y=>F i Z H x T (λb v G=>if b=true then ∃N,N<n-i/\N=n-(i+1)/\i+1<=n/\L (i+1) (Z++[v]) G else ∃N,N<n-i/\N=n-(i+1)/\i+1<=n/\L (i+1) Z G) hlt p y
   (λv G B=>by rw[Zn rfl];exact⟨n-(i+1),by omega,Y,hlt,B⟩) λG B=>by rw[Zo (by simp)];exact⟨n-(i+1),by omega,Y,hlt,B⟩⟩
 .have e:i=n:=by omega
  subst e;exact .inl ⟨M Z H p,λa I=>A Z H a p I⟩
section
def CB.loopI(B:CB X own ix scope c U tg E D C L it tn J f s3)(hc:X.calm=true)(R7:GK own.length g)(hg:∀E C L s H,PG (VQ X (Vh X own ix) scope E C L s H) tg g)(R8:∀E C L s H,PT (VQ X (Vh X own ix) scope E C L s H) ct tc)(he:∀E C L s H,PE (VQ X (Vh X own ix) scope E C L s H) elt te)(cw:NX J g tc te (V0 own.length ix U) Q f)(T1:∀s6 t ys,Inv X c U (upd t D<|.lst ys) s6->UL X c (upd t D<|.lst ys) C->(∃m,s6.heap.Ns C m)->Q (.ref D) (upd t D<|.lst ys)->Rs (.ok .next) s6)(I4:Inv (VQ X (Vh X own ix) scope E C (D::L) s3 f) [] (V0 own.length ix U) f a)(R1:tn 0 a.heap)(lD:a.heap.PlainList D (List.toArray [])):
  codeAny (model X.prog X.w) X.A (.compLoop (.ListComp elt [⟨tg,iter,[ct],0⟩] scope pos) 0 (.ref it) (.ref D)<|compEnvC scope E C X.env) Rs a:=by
 obtain⟨W,⟨m0,w0⟩,turn⟩:=cw;have T:=B.T;have O:=B.ok;have G1:=B.nfp
 let R:Cx:=VQ X (Vh X own ix) scope E C (D::L) s3 f
 have J2:∀{w:Hp}{pl:kb},(∀p∈pl,p.1=D)->(∀b∈L,w b=none)->∀b∈L,UL R pl w b:=λ{w pl} I hn b G=>
  ⟨hn b G,(O.exf b<|ZK _ G).1,O.exfs b<|ZK _ G,.inl<|ZK _ G,(O.exf b<|ZK _ G).2,λp R5 z=>G1 b G (z ▸ I p (by
   have q:p∈([]:kb)++ pl:=R5;simpa using q))⟩
 have dX:D≠R.env.locals:=(O.exf D ZY).1;have dF:D∉R.fs:=O.exfs D ZY;refine NQ (λn s'=>∃i ys Z w,Inv R [] (V0 own.length ix U) w s'/\tn i s'.heap/\(∀b∈L,w b=none)/\w D=none/\s'.heap.PlainList D (List.toArray Z)/\Vals ys Z/\W i n ys w) ?_ m0
  ⟨0,[],[],f,I4,R1,λb G=>(B.f2 b G).1,B.fD.1,lD,.nil,w0⟩
 rintro n a ⟨i,ys,Z,t,I5,J5,G3,d5,⟨nn,l5⟩,v5,w5⟩;obtain⟨hz,J1⟩:=turn i n ys t w5
 let oD:Obj:={cls:=.type "list",data:=.seq Z.toArray nn}
 have N:∀p∈ [((D,oD):Addr×Obj)],p.1=D:=λp I=>by
  have e:p=(D,oD):=by simpa using I
  rw[e]
 have M2:Inv R [(D,oD)] (V0 own.length ix U) t a:=I5.pins_of λp I=>by
  have e:p=(D,oD):=by simpa using I
  subst e;exact⟨l5,d5,dX,dF,λv z=>nomatch z⟩
 rcases J1 with⟨stop,qn⟩|⟨go,step⟩
 .refine thn (T.done R rfl rfl rfl hc i _ a _ t _ M2 (J2 N G3) J5 stop) λr s6 ⟨hr,I6⟩=>?_
  subst hr;obtain⟨z1,z2,z3,nD⟩:=B.stop I6 hz v5 rfl;exact T1 s6 t ys z1 z2 z3<|qn D nD
 .refine thn (T.item R rfl rfl rfl hc i _ a _ t _ M2 (J2 N G3) J5 go) λr s6 ⟨u,hr,h6⟩=>?_
  subst hr;refine thn h6 λ_ h ⟨x,H7,I7,r7,y7,F,T0⟩=>?_;have T2:=I7.pinned (J2 N T0)<|T.obj _ _ F;refine thn (hg E C (D::L) s3 f _ h _ H7 x u _ T2 r7<|R7 _ _ _ _<|step x H7 y7) λ_ s8 ⟨σ8,H8,I8,q8,l8,k8⟩=>?_;refine thn (R8 E C (D::L) s3 f _ s8 σ8 H8 _ I8 q8) λcb R3 ⟨N2,J4,P⟩=>?_
  have Z8:∀p∈R.pn++ VZ L h.heap,p.1≠D:=λp I=>by
   have q:p∈([]:kb)++ VZ L h.heap:=I;exact G1 _ (Xz<|by simpa using q).1
  have k:∀{S:Hp}{A:Shared},Inv R (VZ L h.heap) σ8 S A->Inv R [] (V0 own.length ix U) S A:=λ{S A} M=>by
   refine Inv.weak (M.pins_of (pins':=[]) λp I=>nomatch I) (by rw[l8]) λj v hj=>?_
   by_cases hlt:j<own.length
   .unfold V0 at hj
    rw[yk (by simpa using hlt),vM,Zn hlt]at hj;cases hj
   .have e:σ8[j]?=(V0 own.length ix U)[j]?:=by
     have q:=congrArg (λl:List (kJ)=>l[j-own.length]?) k8;simp only[jd]at q
     rwa [qb (jm hlt)]at q
    rw[e];exact hj
  have L1:∀{S:Hp}{A:Shared},Inv R ((D,oD)::VZ L h.heap) σ8 S A->Inv R (VZ L h.heap) σ8 S A:=λ{S A} I9=>I9.pins_of λp I=>I9.pin p<|ZQ _<|ZK _ I
  cases cb with
  |false=>
   rw[Zo (by simp)]at P;rw[Zo (by simp)];obtain⟨m',Z9,w9⟩:=P;obtain⟨gD,nD,_⟩:=J4.pin (D,oD) (by simp);have M:=L1 J4;refine⟨m',Z9,i+1,ys,Z,N2,k M,?_,?_,nD,⟨nn,gD⟩,v5,w9⟩
   .exact T.keep _ _ _ F λb G o e=>(M.pin (b,o)<|ZQ _<|Vz G e).1
   .intro b G
    obtain⟨o,e,d⟩:=T.obj _ _ F b G;exact(M.pin (b,o)<|ZQ _<|Vz G e).2.1
  |true=>
   rw[Zn rfl]at P;rw[Zn rfl];refine thn (he E C (D::L) s3 f _ R3 σ8 N2 _ J4 P) λyv A ⟨y,S,I9,r9,m',Z9,w9⟩=>?_;obtain⟨gD,nD,_⟩:=I9.pin (D,oD) (by simp);have G2:Z.length=ys.length:=v5.length.symm;refine j6 (l:=D) (items:=Z.toArray) ⟨nn,gD⟩ (λh' R6 R4=>?_) (by rw[ZM,G2];exact Zf hz);have kp:∀b o,b≠D->A.heap.get? b=some o->h'.get? b=some o:=λb o G q=>(R4.2 b G).trans q;have M:Inv R (VZ L h.heap) σ8 S {A with heap:=h',toks:=A.toks}:=(L1 I9).turned (it:=D) kp nD dX (.inl ZY) (O.exf D ZY).2 Z8;refine⟨m',Z9,i+1,ys++[y],Z++[yv],S,k M,?_,?_,nD,?_,v5.append<|.cons r9 .nil,w9⟩
   .exact T.keep _ _ _ F λb G o e=>(M.pin (b,o)<|ZQ _<|Vz G e).1
   .intro b G
    obtain⟨o,e,d⟩:=T.obj _ _ F b G;exact(M.pin (b,o)<|ZQ _<|Vz G e).2.1
   .have e:(Z++[yv]).toArray=Z.toArray.push yv:=by simp
    rw[e];exact R6
end
abbrev two(elt tg iter tg2 iter2:Expr)(scope:Scope)(pos:Pos):Expr:=.ListComp elt [⟨tg,iter,[],0⟩,⟨tg2,iter2,[],0⟩] scope pos
section
theorem Do:compTurn (two elt tg iter tg2 iter2 scope pos) 0 it acc env=(standAt iter.pos >>=λ_=>pyNext it >>=λr=>match r with
  |none=>pure<|.done .next
  |some v=>letOwnedTupleGo tg it v >>=λ_=>assign tg env v >>=λ_=>eval iter2 env >>=λx=>standAt iter2.pos >>=λ_=>foldedSetIterable iter2 env x >>=λx=>holding [x] (pyIter x) >>=λj=>
    runOwn (.compStart (two elt tg iter tg2 iter2 scope pos) 1 j acc env) env >>=λ_=>again<|.compLoop (two elt tg iter tg2 iter2 scope pos) 0 it acc env):=by rfl
theorem D8:compTurn (two elt tg iter tg2 iter2 scope pos) 1 it acc env=(standAt iter2.pos >>=λ_=>pyNext it >>=λr=>match r with
  |none=>pure<|.done .next
  |some v=>letOwnedTupleGo tg2 it v >>=λ_=>assign tg2 env v >>=λ_=>(eval elt env >>=λx=>call (.builtin "list.append") [acc,x] >>=λ_=>pure ()) >>=λ_=>
    again (.compLoop (two elt tg iter tg2 iter2 scope pos) 1 it acc env)):=by rfl
def L5(I:Nat->Shared->Prop)(turn:∀n s,I n s->wpAny (model prog w) A (pyNext it) (λr Z=>match r with
   |none=>R (.ok .next) Z
   |some v=>wpAny (model prog w) A (letOwnedTupleGo tg2 it v) (λ_ M=>wpAny (model prog w) A (assign tg2 env v) (λ_ L=>wpAny (model prog w) A (eval elt env) (λx G=>
     wpAny (model prog w) A (call (.builtin "list.append") [acc,x]) (λ_ J=>∃m,m<n/\I m J) (λ_ _=>False) G) (λ_ _=>False) L) (λ_ _=>False) M) (λ_ _=>False) Z) (λ_ _=>False) s)(n:Nat)(h:I n s):codeAny (model prog w) A (.compLoop (two elt tg iter tg2 iter2 scope pos) 1 it acc env) R s:=by
 refine codeAny_loop Y I (λn s O=>wpAny_noted (m:=compTurn (two elt tg iter tg2 iter2 scope pos) 1 it acc env) ?_) n h;rw[D8];refine Zj<|vC<|Zj<|Zl (turn n s O) (λr Z N=>?_) λ_ _ z=>z.elim
 cases r with
 |none=>exact Zk N
 |some v=>
  exact Zj (Zl N (λ_ M E=>Zj (Zl E (λ_ L D=>Zj (Zj (Zl D (λx G B=>Zj (Zl B
   (λ_ J T=>Zk<|Zk ⟨rfl,T⟩) λ_ _ z=>z.elim)) λ_ _ z=>z.elim))) λ_ _ z=>z.elim)) λ_ _ z=>z.elim)
def BK(J:codeAny (model prog w) A (.compLoop (two elt tg iter tg2 iter2 scope pos) 1 it acc env) R s)(h:wpAny (model prog w) A (pyIter it) (λj Z=>codeAny (model prog w) A (.compLoop (two elt tg iter tg2 iter2 scope pos) 1 j acc env) R Z) (λ_ _=>False) s):
  codeAny (model prog w) A (.compStart (two elt tg iter tg2 iter2 scope pos) 1 it acc env) R s:=by
 refine codeAny_of_tree<|wpAny_notedAt (m:=compStart (two elt tg iter tg2 iter2 scope pos) 1 it acc env) (pos:=theWindowsPlace) ?_;simp only[compStart];refine Zj (m:=ask)<|wpAny_askSetting ?_
 split
 .exact Zj (Zk<|Zk ⟨rfl,J⟩)
 .exact Zj (jD<|Zj<|vC<|Zj<|Zl h (λj Z G=>Zk ⟨rfl,G⟩) λ_ _ z=>z.elim)
def LU(I:Nat->Shared->Prop)(turn:∀n s,I n s->wpAny (model prog w) A (pyNext it) (λr Z=>match r with
   |none=>R (.ok .next) Z
   |some v=>wpAny (model prog w) A (letOwnedTupleGo tg it v) (λ_ N=>wpAny (model prog w) A (assign tg env v) (λ_ M=>wpAny (model prog w) A (eval iter2 env) (λx L=>
     wpAny (model prog w) A (pyIter x) (λj G=>codeAny (model prog w) (A.mark none) (.compStart (two elt tg iter tg2 iter2 scope pos) 1 j acc env) (λr J=>match r with|.ok _=>∃m,m<n/\I m J|.error _=>False) G) (λ_ _=>False) L) (λ_ _=>False) M) (λ_ _=>False) N) (λ_ _=>False) Z) (λ_ _=>False) s)(B:∀x,foldedSetIterable iter2 env x=pure x)(n:Nat)(h:I n s):codeAny (model prog w) A (.compLoop (two elt tg iter tg2 iter2 scope pos) 0 it acc env) R s:=by
 refine codeAny_loop Y I (λn s D=>wpAny_noted (m:=compTurn (two elt tg iter tg2 iter2 scope pos) 0 it acc env) ?_) n h;rw[Do];refine Zj<|vC<|Zj<|Zl (turn n s D) (λr Z T=>?_) λ_ _ z=>z.elim
 cases r with
 |none=>exact Zk T
 |some v=>
  refine Zj<|Zl T (λ_ N U=>Zj<|Zl U (λ_ M S=>Zj<|Zl S (λx L F=>Zj<|vC ?_) λ_ _ z=>z.elim) λ_ _ z=>z.elim) λ_ _ z=>z.elim;rw[B x];refine Zj<|Zk<|Zj<|wpAny_holding<|Zl F (λj G E=>Zj<|wpAny_runOwn<|jb E λr J O=>?_) λ_ _ z=>z.elim
  cases r with
  |error e=>exact O.elim
  |ok f=>exact Zk ⟨Y,O⟩
end
def In2(wi2:TI)(te:TE)(W:Nat->Nat->List V->Hp->Prop)(i m:Nat)(ys:kF):kI:=λU H=>wi2 U H λN B=>∃M:Nat->Nat->List V->Hp->Prop,(∃L,M 0 L ys B)/\∀j L G J,M j L G J->
 G.length<sizeLine/\((N.stop j J/\∃O,O<m/\W (i+1) O G J) \/
  (N.go j J/\∀y R,N.yld j J y R->te (U.set 1<|some y) R λv T=>∃Z,Z<L/\M (j+1) Z (G++[v]) T))
def ES(J:It)(wi2:TI)(te:TE)(s0:St)(Q:VK)(H1:Hp):Prop:=∃W:Nat->Nat->List V->Hp->Prop,(∃m,W 0 m [] H1)/\∀i m Z H,W i m Z H->
 Z.length<sizeLine/\((J.stop i H/\∀p,H p=none->Q (.ref p) (upd H p<|.lst Z)) \/
  (J.go i H/\∀x G,J.yld i H x G->In2 wi2 te W i m Z (s0.set 0<|some x) G))
def KY(ix:List Nat)(wi wi2:TI)(te:TE):TE:=λU H Q=>wi U H λJ Z=>ES J wi2 te (V0 2 ix U) Q Z
def Q1(h:Vp i x U H Q):Vp i x U H fun σ2 Z=>Q σ2 Z/\σ2=U.set i (some x):=⟨h,rfl⟩
section
def CB.loop2(B:CB X [x1,x2] ix scope a U (.Name x1 p1) E D C Z it tn J f s3)(hc:X.calm=true)(hg:∀E C Z s H,PG (VQ X (Vh X [x1,x2] ix) scope E C Z s H) (.Name x1 p1)<|Vp 0)(F9:∀E C Z s H,PI (VQ X (Vh X [x1,x2] ix) scope E C Z s H) (.Name x2 p2) iter2 wi2)(I1:∀E C Z s H,PG (VQ X (Vh X [x1,x2] ix) scope E C Z s H) (.Name x2 p2)<|Vp 1)(he:∀E C Z s H,PE (VQ X (Vh X [x1,x2] ix) scope E C Z s H) elt te)(F5:∀env x,foldedSetIterable iter2 env x=pure x)(cw:ES J wi2 te (V0 2 ix U) Q f)(fin:∀t c ys,Inv X a U (upd c D<|.lst ys) t->UL X a (upd c D<|.lst ys) C->(∃m,t.heap.Ns C m)->Q (.ref D) (upd c D<|.lst ys)->Rs (.ok .next) t)(I4:Inv (VQ X (Vh X [x1,x2] ix) scope E C (D::Z) s3 f) [] (V0 ([x1,x2]:kq).length ix U) f s5)(D0:tn 0 s5.heap)(lD:s5.heap.PlainList D (List.toArray [])):
  codeAny (model X.prog X.w) X.A (.compLoop (two elt (.Name x1 p1) iter (.Name x2 p2) iter2 scope pos) 0 (.ref it) (.ref D)<|compEnvC scope E C X.env) Rs s5:=by
 have I0:GK ([x1,x2]:kq).length (Vp 0):=VM (i:=0) (by simp);obtain⟨W,⟨m0,w0⟩,turn⟩:=cw;have T:=B.T;have A:=B.ok;have R8:=B.nfp
 let N:Cx:=VQ X (Vh X [x1,x2] ix) scope E C (D::Z) s3 f
 have M2:∀{R:Hp}{pl:kb},(∀p∈pl,p.1=D)->(∀b∈Z,R b=none)->∀b∈Z,UL N pl R b:=λ{R pl} M hn b G=>
  ⟨hn b G,(A.exf b<|ZK _ G).1,A.exfs b<|ZK _ G,.inl<|ZK _ G,(A.exf b<|ZK _ G).2,λp P z=>R8 b G (z ▸ M p (by
   have q:p∈([]:kb)++ pl:=P;simpa using q))⟩
 have dX:D≠N.env.locals:=(A.exf D ZY).1;have dF:D∉N.fs:=A.exfs D ZY;refine LU (λn s'=>∃i ys L R,Inv N [] (V0 ([x1,x2]:kq).length ix U) R s'/\tn i s'.heap/\(∀b∈Z,R b=none)/\R D=none/\s'.heap.PlainList D (List.toArray L)/\Vals ys L/\W i n ys R) ?_ (F5 _) m0
  ⟨0,[],[],f,I4,D0,λb G=>(B.f2 b G).1,B.fD.1,lD,.nil,w0⟩
 rintro n s5 ⟨i,ys,L,c,I5,R6,T5,d5,⟨nn,l5⟩,v5,w5⟩;obtain⟨hz,G3⟩:=turn i n ys c w5
 let oD:Obj:={cls:=.type "list",data:=.seq L.toArray nn}
 have F:∀p∈ [((D,oD):Addr×Obj)],p.1=D:=λp M=>by
  have e:p=(D,oD):=by simpa using M
  rw[e]
 have T8:Inv N [(D,oD)] (V0 ([x1,x2]:kq).length ix U) c s5:=I5.pins_of λp M=>by
  have e:p=(D,oD):=by simpa using M
  subst e;exact⟨l5,d5,dX,dF,λv z=>nomatch z⟩
 rcases G3 with⟨stop,qn⟩|⟨go,step⟩
 .refine thn (T.done N rfl rfl rfl hc i _ s5 _ c _ T8 (M2 F T5) R6 stop) λr t ⟨hr,I6⟩=>?_
  subst hr;obtain⟨z1,z2,z3,nD⟩:=B.stop I6 hz v5 rfl;exact fin t c ys z1 z2 z3<|qn D nD
 .refine thn (T.item N rfl rfl rfl hc i _ s5 _ c _ T8 (M2 F T5) R6 go) λr t ⟨u,hr,h6⟩=>?_
  subst hr;refine thn h6 λ_ O ⟨x,H7,I7,r7,y7,G1,fr7⟩=>?_;have I7':=I7.pinned (M2 F fr7)<|T.obj _ _ G1;refine thn (hg E C (D::Z) s3 f _ O _ H7 x u _ I7' r7<|I0 _ _ _ _<|Q1 (Q:=In2 wi2 te W i n ys)<|step x H7 y7) λ_ s8 ⟨σ8,H8,I8,q8,l8,k8⟩=>?_;have e8:σ8=(V0 ([x1,x2]:kq).length ix U).set 0 (some x):=by exact q8.2
  replace q8:=q8.1;refine thn (F9 E C (D::Z) s3 f _ s8 σ8 H8 _ I8 q8) λv9 s9 h9=>thn h9 λjv S S2=>?_;obtain⟨F3,I,Z9,J2,R4,ej,R3,T2,h,N2,W2,⟨F2,T9⟩,Z8⟩:=S2;subst ej;rw[Around.mark_none];obtain⟨gD0,F1,_⟩:=R3.pin (D,oD) (by simp);have T0:∀b∈I,b≠D:=λb G z=>(N2 b G).2.2.2.2.2 (D,oD) (by simp) z.symm
  have cut:∀{H9:Hp}{σ9:St}{s9:Shared}{more:kb},Inv N (([(D,oD)]++ VZ Z O.heap)++ more) σ9 H9 s9->Inv N (VZ Z O.heap) σ9 H9 s9:=λ{H9 σ9 s9 more} I9=>
   I9.pins_of λp M=>I9.pin p<|ZQ _<|vW _<|ZQ _ M
  have G2:∀p∈N.pn++ VZ Z O.heap,p.1≠D:=λp M=>by
   have q:p∈([]:kb)++ VZ Z O.heap:=M;exact R8 _ (Xz<|by simpa using q).1
  have L1:∀{H9:Hp}{o9:Obj},(∀b∈I,H9 b=none)->∀b∈I,UL N ([(D,o9)]++ VZ Z O.heap) H9 b:=λ{H9 o9} hn b G=>by
   obtain⟨_,k1,k2,k3,k4,k5⟩:=N2 b G;refine⟨hn b G,k1,k2,k3,k4,λp M=>?_⟩
   have P:p=(D,o9)\/p∈VZ Z O.heap:=by
    have q:p∈([]:kb)++ ([(D,o9)]++ VZ Z O.heap):=M;simpa using q
   rcases P with rfl|P
   .exact (T0 b G).symm
   .exact k5 p (by
     show p∈([]:kb)++ ([(D,oD)]++ VZ Z O.heap);simp[P])
  let R2:Result->Shared->Prop:=λr t=>match r with
   |.ok _=>∃m,m<n/\∃i ys L R,Inv N [] (V0 ([x1,x2]:kq).length ix U) R t/\tn i t.heap/\(∀b∈Z,R b=none)/\R D=none/\t.heap.PlainList D (List.toArray L)/\Vals ys L/\W i m ys R
   |.error _=>False
  have inner:∀(sA:Shared),(Inv N (VZ Z O.heap) σ8 R4 sA/\Z9 0 sA.heap/\sA.heap.PlainList D (List.toArray L))->codeAny (model X.prog X.w) X.A (.compLoop (two elt (.Name x1 p1) iter (.Name x2 p2) iter2 scope pos) 1 (.ref F3) (.ref D)<|compEnvC scope E C X.env) R2 sA:=λsA hA=>by
   refine L5 (λk s'=>∃j w y R,Inv N (VZ Z O.heap) σ8 R s'/\Z9 j s'.heap/\(∀b∈I,R b=none)/\R D=none/\s'.heap.PlainList D (List.toArray y)/\Vals w y/\W2 j k w R) ?_ F2
    ⟨0,ys,L,R4,hA.1,hA.2.1,λb G=>(N2 b G).1,F1,hA.2.2,v5,T9⟩
   rintro k sB ⟨j,w,y,HB,IB,R5,T4,dB,⟨nB,lB⟩,vB,wB⟩;obtain⟨F4,I2⟩:=Z8 j k w HB wB
   let oB:Obj:={cls:=.type "list",data:=.seq y.toArray nB}
   have T7:Inv N ([(D,oB)]++ VZ Z O.heap) σ8 HB sB:=IB.pins_of λp M=>by
    rcases ZV.mp M with here|there
    .have e:p=(D,oB):=by simpa using here
     subst e;exact⟨lB,dB,dX,dF,λv z=>nomatch z⟩
    .exact IB.pin p (ZQ _ there)
   rcases I2 with⟨J1,m',F7,wO⟩|⟨C2,J4⟩
   .refine thn (T2.done N rfl rfl rfl hc j _ sB _ HB _ T7 (L1 T4) R5 J1) λr sC ⟨hr,IC⟩=>?_
    subst hr
    obtain⟨gC,nC,_⟩:=IC.pin (D,oB) (by
     show(D,oB)∈([]:kb)++ ([(D,oB)]++ VZ Z O.heap);simp)
    have R1:Inv N (VZ Z O.heap) σ8 HB sC:=IC.pins_of λp M=>IC.pin p<|ZQ _<|ZQ _ M;refine⟨m',F7,i+1,w,y,HB,?_,?_,?_,nC,⟨nB,gC⟩,vB,wO⟩
    .refine Inv.weak (R1.pins_of (pins':=[]) λp M=>nomatch M) (by rw[l8]) λj v hj=>?_
     by_cases hlt:j<([x1,x2]:kq).length
     .unfold V0 at hj
      rw[yk (by simpa using hlt),vM,Zn hlt]at hj;cases hj
     .have e:σ8[j]?=(V0 ([x1,x2]:kq).length ix U)[j]?:=by
       have q:=congrArg (λl:List (kJ)=>l[j-([x1,x2]:kq).length]?) k8;simp only[jd]at q
       rwa [qb (jm hlt)]at q
      rw[e];exact hj
    .exact T.keep _ _ _ G1 λb G o e=>(R1.pin (b,o)<|ZQ _<|Vz G e).1
    .intro b G
     obtain⟨o,e,d⟩:=T.obj _ _ G1 b G;exact(R1.pin (b,o)<|ZQ _<|Vz G e).2.1
   .refine thn (T2.item N rfl rfl rfl hc j _ sB _ HB _ T7 (L1 T4) R5 C2) λr sC ⟨u2,hr,I3⟩=>?_
    subst hr;refine thn I3 λ_ sD ⟨y2,HD,ID,rD,yD,J5,frD⟩=>?_;have ID':=ID.pinned (L1 frD)<|T2.obj _ _ J5;refine thn (I1 E C (D::Z) s3 f _ sD _ HD y2 u2 _ ID' rD<|Q1 (Q:=λU H=>te U H λv H6=>∃g,g<k/\W2 (j+1) g (w++[v]) H6)<|J4 y2 HD yD) λ_ sE ⟨σE,HE,IE,qE⟩=>?_;have eE:σE=σ8.set 1 (some y2):=by exact qE.2
    replace qE:=qE.1;refine thn (he E C (D::Z) s3 f _ sE σE HE _ IE qE) λyv sF ⟨yy,HF,IF,rF,g,T1,wF⟩=>?_
    obtain⟨gD,nD,_⟩:=IF.pin (D,oB) (by
     show(D,oB)∈([]:kb)++ (([(D,oB)]++ VZ Z O.heap)++ VZ I sD.heap);simp)
    have T3:y.length=w.length:=vB.length.symm;refine j6 (l:=D) (items:=y.toArray) ⟨nB,gD⟩ (λh' F8 F6=>?_) (by rw[ZM,T3];exact Zf F4);have kp:∀b o,b≠D->sF.heap.get? b=some o->h'.get? b=some o:=λb o G q=>(F6.2 b G).trans q;have IF':Inv N (VZ Z O.heap) σE HF sF:=IF.pins_of λp M=>IF.pin p<|ZQ _<|vW _<|ZQ _ M;have IG:Inv N (VZ Z O.heap) σE HF {sF with heap:=h',toks:=sF.toks}:=IF'.turned (it:=D) kp nD dX (.inl ZY) (A.exf D ZY).2 G2
    have T6:∀b∈I,∀o,sD.heap.get? b=some o->sF.heap.get? b=some o/\HF b=none:=λb G o q=>by
     have z:=IF.pin (b,o)<|ZQ _<|ZQ _<|Vz G q;exact⟨z.1,z.2.1⟩
    refine⟨g,T1,j+1,w++[yy],y++[yv],HF,?_,?_,?_,nD,?_,vB.append<|.cons rF .nil,wF⟩
    .refine Inv.weak IG (by rw[eE,yz]) λq v hq=>?_
     rw[eE]
     have D3:q≠1:=λz=>by
      subst z;rw[e8]at hq;simp[V0,List.getElem?_append]at hq
     rw[vG (Zq D3)];exact hq
    .exact T2.keep _ _ _ J5 λb G o q=>kp b o (T0 b G) (T6 b G o q).1
    .intro b G
     obtain⟨o,q,_⟩:=T2.obj _ _ J5 b G;exact(T6 b G o q).2
    .have e:(y++[yv]).toArray=y.toArray.push yv:=by simp
     rw[e];exact F8
  have R7:Inv N (VZ Z O.heap) σ8 R4 S/\Z9 0 S.heap/\S.heap.PlainList D (List.toArray L):=⟨R3.pins_of λp M=>R3.pin p<|ZQ _<|ZQ _ M,h,⟨nn,gD0⟩⟩;exact BK (inner S R7)<|T2.self _ 0 _ _ _ h<|inner S R7
def VL(own:kq)(G:List Nat)(j:PI X tg iter wi)(R:GK own.length g)(y:∀M C L s H,PG (VQ X (Vh X own G) scope M C L s H) tg g)(z:∀M C L s H,PE (VQ X (Vh X own G) scope M C L s H) elt te)(t:X.calm=true:=by rfl)(Z:scope.kind=.function:=by rfl)(O:UZ scope X.env.scope.names X.N G=true:=by rfl)(P:∀x,foldedSetIterable iter X.env x=pure x:=by intro _;rfl):
  PE X (.ListComp elt [⟨tg,iter,[],0⟩] scope pos) (Qi own.length G wi g te):=by
 intro T s U H Q I h;rw[eval_ListComp];exact U5 own G j Z O P I h λM D C L v c J r u f B m k N S=>B.loop1 t R y z m (λd w p A F E q=>EC A F E q) k N S
def Ep(own:kq)(G:List Nat)(c:X.N.Nodup)(E:X.N[i0]?=some x0)(O:Loc X.env.scope x0)(z:PI X tg iter wi)(F:GK own.length g)(t:∀M C L s H,PG (VQ X (Vh X own G) scope M C L s H) tg g)(k:∀M C L s H,PE (VQ X (Vh X own G) scope M C L s H) elt te)(p:X.calm=true:=by rfl)(Z:scope.kind=.function:=by rfl)(T:UZ scope X.env.scope.names X.N G=true:=by rfl)(R:swapsWith (.ListComp elt [⟨tg,iter,[],0⟩] scope pos) (some<|.Name x0 py) spos.line X.env=pure true:=by rfl)(m:X.fn x0=true\/X.env.scope.names.lookup x0=some .local:=by first|exact .inl Y|exact .inr Y|assumption)(y:∀x,foldedSetIterable iter X.env x=pure x:=by intro _;rfl):
  PS X (.Assign [.Name x0 py] (.ListComp elt [⟨tg,iter,[],0⟩] scope pos) spos) (Bn (Qi own.length G wi g te)<|Vp i0):=by
 intro A s U H i I h;exact M4 R<|U5 own G z Z T y I h λM D C L b v J o l r B d f N j=>B.loop1 p F t k d (λw e u Q P S q=>EB c E O m Q P S q) f N j
def M8(own:kq)(G:List Nat)(y:PI X tg iter wi)(R:GK own.length g)(z:∀M C L s H,PG (VQ X (Vh X own G) scope M C L s H) tg g)(T:∀M C L s H,PT (VQ X (Vh X own G) scope M C L s H) ct tc)(t:∀M C L s H,PE (VQ X (Vh X own G) scope M C L s H) elt te)(m:X.calm=true:=by rfl)(Z:scope.kind=.function:=by rfl)(O:UZ scope X.env.scope.names X.N G=true:=by rfl)(j:∀x,foldedSetIterable iter X.env x=pure x:=by intro _;rfl):
  PE X (.ListComp elt [⟨tg,iter,[ct],0⟩] scope pos) (KW own.length G wi g tc te):=by
 intro E s U H Q I h;rw[eval_ListComp];exact U5 own G y Z O j I h λM D C L w d J l v u B k p N P=>B.loopI m R z T t k (λf r c S A F q=>EC S A F q) p N P
def G5(own:kq)(G:List Nat)(d:X.N.Nodup)(E:X.N[i0]?=some x0)(O:Loc X.env.scope x0)(t:PI X tg iter wi)(F:GK own.length g)(m:∀M C L s H,PG (VQ X (Vh X own G) scope M C L s H) tg g)(A:∀M C L s H,PT (VQ X (Vh X own G) scope M C L s H) ct tc)(p:∀M C L s H,PE (VQ X (Vh X own G) scope M C L s H) elt te)(c:X.calm=true:=by rfl)(Z:scope.kind=.function:=by rfl)(T:UZ scope X.env.scope.names X.N G=true:=by rfl)(R:swapsWith (.ListComp elt [⟨tg,iter,[ct],0⟩] scope pos) (some<|.Name x0 py) spos.line X.env=pure true:=by rfl)(k:X.fn x0=true\/X.env.scope.names.lookup x0=some .local:=by first|exact .inl Y|exact .inr Y|assumption)(z:∀x,foldedSetIterable iter X.env x=pure x:=by intro _;rfl):
  PS X (.Assign [.Name x0 py] (.ListComp elt [⟨tg,iter,[ct],0⟩] scope pos) spos) (Bn (KW own.length G wi g tc te)<|Vp i0):=by
 intro S s U H n I h;exact M4 R<|U5 own G t Z T z I h λM D C L e w J i b l B f u N y=>B.loopI c F m A p f (λr o v j Q P q=>EB d E O k j Q P q) u N y
def Pe(L:List Nat)(t:PI X (.Name x1 p1) iter wi)(m:∀G C Z s H,PG (VQ X (Vh X [x1,x2] L) scope G C Z s H) (.Name x1 p1)<|Vp 0)(T:∀G C Z s H,PI (VQ X (Vh X [x1,x2] L) scope G C Z s H) (.Name x2 p2) iter2 wi2)(E:∀G C Z s H,PG (VQ X (Vh X [x1,x2] L) scope G C Z s H) (.Name x2 p2)<|Vp 1)(g:∀G C Z s H,PE (VQ X (Vh X [x1,x2] L) scope G C Z s H) elt te)(k:X.calm=true:=by rfl)(M:scope.kind=.function:=by rfl)(R:UZ scope X.env.scope.names X.N L=true:=by rfl)(z:∀x,foldedSetIterable iter X.env x=pure x:=by intro _;rfl)(O:∀F x,foldedSetIterable iter2 F x=pure x:=by intro _ _;rfl):
  PE X (.ListComp elt [⟨.Name x1 p1,iter,[],0⟩,⟨.Name x2 p2,iter2,[],0⟩] scope pos) (KY L wi wi2 te):=by
 intro A s U H Q I h;rw[eval_ListComp];exact U5 [x1,x2] L t M R z I h λG D C Z r f J b w v B p c N y=>B.loop2 k m T E g O p (λu l d j P S q=>EC j P S q) c N y
def PX(L:List Nat)(f:X.N.Nodup)(A:X.N[i0]?=some x0)(O:Loc X.env.scope x0)(g:PI X (.Name x1 p1) iter wi)(k:∀G C Z s H,PG (VQ X (Vh X [x1,x2] L) scope G C Z s H) (.Name x1 p1)<|Vp 0)(F:∀G C Z s H,PI (VQ X (Vh X [x1,x2] L) scope G C Z s H) (.Name x2 p2) iter2 wi2)(S:∀G C Z s H,PG (VQ X (Vh X [x1,x2] L) scope G C Z s H) (.Name x2 p2)<|Vp 1)(c:∀G C Z s H,PE (VQ X (Vh X [x1,x2] L) scope G C Z s H) elt te)(d:X.calm=true:=by rfl)(M:scope.kind=.function:=by rfl)(E:UZ scope X.env.scope.names X.N L=true:=by rfl)(R:swapsWith (.ListComp elt [⟨.Name x1 p1,iter,[],0⟩,⟨.Name x2 p2,iter2,[],0⟩] scope pos) (some<|.Name x0 py) spos.line X.env=pure true:=by rfl)(p:X.fn x0=true\/X.env.scope.names.lookup x0=some .local:=by first|exact .inl Y|exact .inr Y|assumption)(m:∀x,foldedSetIterable iter X.env x=pure x:=by intro _;rfl)(T:∀P x,foldedSetIterable iter2 P x=pure x:=by intro _ _;rfl):
  PS X (.Assign [.Name x0 py] (.ListComp elt [⟨.Name x1 p1,iter,[],0⟩,⟨.Name x2 p2,iter2,[],0⟩] scope pos) spos) (Bn (KY L wi wi2 te)<|Vp i0):=by
 intro Q s U H a I h;exact M4 R<|U5 [x1,x2] L g M E m I h λG D C Z o r J n e b B u v N t=>B.loop2 d k F S c T u (λl i w z y j q=>EB f A O p z y j q) v N t
end
def Rf(n:Nat)(L:Nat->List V->Hp->Prop)(g:L 0 [] H)(T:∀i Z H,L i Z H->Z.length<sizeLine)(A:∀i Z H,i<n->L i Z H->J.go i H)(M:∀Z H,L n Z H->J.stop n H)(X:∀i Z H x F (R:List V->Hp->Prop),i<n->L i Z H->J.yld i H x F->(∀G D,L (i+1) G D->R G D)->wi2 (s0.set 0<|some x) F λS D=>∃I:Nat->Nat->List V->Hp->Prop,(∃E,I 0 E Z D)/\∀j E G B,I j E G B->
   G.length<sizeLine/\((S.stop j B/\R G B)\/(S.go j B/\∀y U,S.yld j B y U->te ((s0.set 0<|some x).set 1<|some y) U λv k=>∃O,O<E/\I (j+1) O (G++[v]) k)))(q:∀Z H p,L n Z H->H p=none->Q (.ref p) (upd H p<|.lst Z)):ES J wi2 te s0 Q H:=by
 refine⟨λi m Z H=>m=n-i/\i<=n/\L i Z H,⟨n,by simp,Za _,g⟩,λi m Z H z=>?_⟩;obtain⟨rfl,c,p⟩:=z;exists T i Z H p;rcases qw i n with N|P
 .exact .inr ⟨A i Z H N p,λx F y=>X i Z H x F _ N p y λG D C=>⟨n-(i+1),by omega,rfl,N,C⟩⟩
 .have e:i=n:=by omega
  subst e;exact .inl ⟨M Z H p,λb t=>q Z H b p t⟩
def BL{M:It}{S:TE}{U:St}{R:List V->Hp->Prop}(n:Nat)(J:Nat->List V->Hp->Prop)(g:J 0 ys H3)(O:∀j Z H,J j Z H->Z.length<sizeLine)(A:∀j Z H,j<n->J j Z H->M.go j H)(G:∀Z H,J n Z H->M.stop n H)(Q:∀j Z H y C (T:V->Hp->Prop),j<n->J j Z H->M.yld j H y C->(∀v B,J (j+1) (Z++[v]) B->T v B)->S (U.set 1<|some y) C T)(t:∀Z H,J n Z H->R Z H):
  ∃I:Nat->Nat->List V->Hp->Prop,(∃E,I 0 E ys H3)/\∀j E Z D,I j E Z D->
   Z.length<sizeLine/\((M.stop j D/\R Z D)\/(M.go j D/\∀y F,M.yld j D y F->S (U.set 1<|some y) F λv B=>∃N,N<E/\I (j+1) N (Z++[v]) B)):=by
 refine⟨λj m Z H=>m=n-j/\j<=n/\J j Z H,⟨n,by simp,Za _,g⟩,λj m Z H z=>?_⟩;obtain⟨rfl,k,p⟩:=z;exists O j Z H p;rcases qw j n with L|q
 .exact .inr ⟨A j Z H L p,λy F X=>Q j Z H y F _ L p X λv B P=>⟨n-(j+1),by omega,rfl,L,P⟩⟩
 .have e:j=n:=by omega
  subst e;exact .inl ⟨G Z H p,t Z H p⟩
end L2
namespace L2
open PySem PySem.Spec PyProof.Rows
section
def CT(K:W.Frag):List V->Hp->VK->Prop:=λZ H Q=>∃x T t b,Z=[x,.ty T]/\Xq K H x t/\W.kitOne K t (.type T)=some b/\Q (.bl b) H
def Od:UF X (.builtin "isinstance") (CT X.K):=by
 intro J s U H L N Q I r h;obtain⟨x,T,t,b,rfl,ty,e,q⟩:=h;obtain⟨u,M,rfl,G,Z⟩:=vals2 r;cases Z;exact IR I G ty e λO=>⟨.bl b,H,I.tok _,Y,q⟩
theorem Rn:∀{ys:kq}{Z:kj},Vals (ys.map V.str) Z->StrsAre Z ys
 |[],_,r=>by cases r;exact .nil
 |y::ys,_,r=>by
  cases r with
  |cons h t=>
   obtain⟨J,e⟩:=h;subst e;exact .cons _ _<|Rn t
def rJoin(K:W.Frag):V->List V->Hp->VK->Prop:=λx J H Q=>∃z p Z,x=.str z/\J=[.ref p]/\SqL K H p (Z.map V.str)/\(Z.map (·.length)).sum+Z.length*z.length<=16777216/\Q (.str<|Txt.join z Z) H
def QC:MtR X "str.join" (rJoin X.K):=by
 intro Z s U H x B v D Q I J G h;obtain⟨z,p,T,rfl,rfl,R,O,q⟩:=h;obtain⟨t,rfl⟩:=J;obtain⟨u,rfl,L⟩:=vals1 G;cases L;obtain⟨N,r,M,F⟩:=I.list R;exact join_list M.isList (by simpa using Rn r) O λE k=>⟨.str _,H,I.tok _,⟨_,Y⟩,q⟩
def yC:V->Option Int->Option Int->Hp->VK->Prop:=λx Z J H Q=>∃z,x=.str z/\z.length<=sizeLine/\Q (.str<|Txt.slice z Z J) H
def By:SlR X yC:=by
 intro J s U H x v g m E C sl Q I B S D T h;obtain⟨z,rfl,A,q⟩:=h;obtain⟨t,rfl⟩:=B;exists "str",_,F.slot_str_getitem.lookup,typeIs_str _ _ _
 have Z:∀(l u:Option (Int×Tok)),l.map (·.1)=E->u.map (·.1)=C->s.heap.IsSlice sl l u none->wpAny (model X.prog X.w) X.A (getItem (.str z t)<|.ref sl) (EP X J U Q) X.xe s:=λl u y P O=>by
  subst y;subst P;exact wpAny_getItem_str_slice O Y (post_val_or_str ⟨ZZ (Txt.slice_le z (l.map (·.1))<|u.map (·.1)) A,λp k=>⟨.str _,H,I.tok _,⟨_,rfl⟩,q⟩⟩)
 obtain⟨o,M,L,G⟩:=S
 cases D with
 |none=>
  cases T with
  |none=>exact Z none none Y Y ⟨o,M,L,G⟩
  |int j N=>exact Z none (some (j,N)) Y Y ⟨o,M,L,G⟩
 |int i R=>
  cases T with
  |none=>exact Z (some (i,R)) none Y Y ⟨o,M,L,G⟩
  |int j N=>exact Z (some (i,R)) (some (j,N)) Y Y ⟨o,M,L,G⟩
theorem GS:∀{Z:List Bool}{J:kj},Vals (Z.map V.bl) J->∀(i:Nat)(v:Value),J[i]?=some v->∃b,Z[i]?=some b/\v=.bool b
 |[],_,r,i,v,e=>by cases r;simp at e
 |b::Z,_,r,i,v,e=>by
  cases r with
  |cons h t=>
   cases i with
   |zero=>
    have G:some _=some v:=e;cases G;exact⟨b,Y,h⟩
   |succ j=>exact GS t j v e
def all_range:∀(Z:List Bool),((List.range Z.length).all λi=>(Z[i]?).getD true)=Z.all id:=λZ=>by
 have e:((List.range Z.length).map λi=>(Z[i]?).getD true)=Z:=List.ext_getElem (by simp) λi G J=>by simp[J]
 have z:=jE (l:=List.range Z.length) (f:=λi=>(Z[i]?).getD true) (p:=id);rw[e]at z;exact z.symm
def Wj(E:X.calm=true):UF X (.builtin "all") (λM H Q=>∃(p:Addr)(J:List Bool),M=[.ref p]/\SqL X.K H p (J.map V.bl)/\Q (.bl<|J.all id) H):=by
 intro O s U H M C Q I r h;obtain⟨p,J,rfl,T,q⟩:=h;obtain⟨u,rfl,R⟩:=vals1 r;cases R;obtain⟨Z,N,L,P⟩:=I.list T
 have B:p<s.heap.objs.size:=by
  obtain⟨o,n,e,_⟩:=L;exact ZN e
 have G:Z.length=J.length:=by
  have:=N.length;rw[ZA]at this;exact this.symm
 refine call_all_walk<|jo L.isList ?_;exists s.heap.objs.size,_,_,Z.toArray.size,_,_,λi=>(J[i]?).getD true,Y,Walks.list (A:=X.A.in1) (I.ok.hd E) _ p (Zc B) Z.toArray,?_,?_
 .exact ⟨⟨_,ZW _ rfl,rfl,rfl⟩,L.isList.push _⟩
 .intro i v s' Q' E' hP hQ
  obtain⟨b,e,rfl⟩:=GS N i v (by simpa using hP);have F:(J[i]?).getD true=b:=by rw[e];rfl
  exact yw<|F ▸ hQ
 .intro h' tk hk
  rw[ZM,G,all_range];refine⟨.bl<|J.all id,H,I.kept λb o e=>hk b o (λD=>?_)<|ZD _ e,rfl,q⟩;have S:b=s.heap.objs.size:=by simpa using D
  rw[S]at e;exact yx _<|ZN e
theorem GY:∀{Z:kF}{J:kj},Z.length=J.length->(∀(j:Nat)(x:V)(u:Value),Z[j]?=some x->J[j]?=some u->RelV x u)->Vals Z J
 |[],[],_,_=>.nil
 |[],_::_,h,_=>Zp h<|by simp
 |_::_,[],h,_=>Zp h<|by simp
 |x::Z,u::J,h,hr=>.cons (hr 0 x u rfl rfl)<|GY (by simpa using h) λj a b L G=>hr (j+1) a b L G
def Ua(e:X.calm=true):UF X (.type "list") (λE H Q=>∃a kvs,E=[.ref a]/\H a=some (.dK kvs)/\∀l,H l=none->Q (.ref l) (upd H l<|.lst<|kvs.map λZ=>kV Z.1)):=by
 intro S s U H E us Q I r h;obtain⟨a,kvs,rfl,n,q⟩:=h;obtain⟨u,rfl,m⟩:=vals1 r;cases m;obtain⟨C,g,F,A,b⟩:=Q3 I.hok n;obtain⟨ep,R⟩:=b.dictAt;have J:=A.length;refine W.kdl_call (W.kdl_dict (knd:=VT X.prog X.w) (kvs:=F) (ep:=ep) g) (I.ok.hd e) R (by rw[<-J];exact C) λh' tk D c w v L=>?_;refine⟨.ref s.heap.objs.size,_,I.laid (o:=.lst<|kvs.map λZ=>kV Z.1) w (ZF _) ⟨by rw[ZA];exact C,D.toList,c,?_,by rw[Array.toArray_toList];exact v⟩,rfl,q _<|I.hok.fresh<|ZF _⟩;obtain⟨f,d⟩:=L;refine GY (by simp[f,J]) λj x u M e2=>?_;obtain⟨k,y,p,O⟩:=d j u (by rw[<-Array.getElem?_toList];exact e2);rw[ZG]at M
 cases hkv:kvs[j]? with
 |none=>rw[hkv]at M;cases M
 |some Z=>
  rw[hkv]at M;cases M;have G:=A.keys;have P:(kvs.map (·.1))[j]?=(F.map (·.1))[j]?:=by rw[G]
  rw[ZG,ZG,hkv,p]at P;have e4:Z.1=k:=ZP P;have N:Ju Z.1 u=true:=by rw[e4];exact O
  rcases Vy N with⟨i,t,B,T⟩|⟨z,t,B,T⟩
  .show RelV (kV Z.1) u
   rw[B,T];exact⟨t,Y⟩
  .show RelV (kV Z.1) u
   rw[B,T];exact⟨t,Y⟩
end
section
structure Xr(H:Hp)(ea C:Addr)(dx:Option Addr):Prop where
 at_:H ea=some (U2 ea C dx)
 dict:∀d,dx=some d->∃o,H d=some o
def Inv.inst(I:Inv X G U H s)(c:Xr H ea C R):∃Z J,W.InstAt s.heap ea Z C J:=by
 obtain⟨⟨Z,O,N,M,L⟩,_⟩:=(show Va X.prog X.w H s.heap ea (U2 ea C R)from I.hok ea _ c.at_)
 cases hd:R with
 |none=>exact⟨Z,none,O,N,M,by rw[L,hd];trivial⟩
 |some d=>
  obtain⟨o,B⟩:=c.dict d hd;obtain⟨u,T⟩:=(I.hok d o B).ex;exact⟨Z,some u,O,N,M,by rw[L,hd];exact T⟩
theorem Ro:∀{J:kA}{Z:kj},Vals (J.map V.ref) Z->Z=J.map Value.ref
 |[],_,r=>by cases r;rfl
 |_::_,_,r=>by
  cases r with
  |cons h t=>
   have e:_=Value.ref _:=h;rw[e,Ro t];rfl
def RB(K:W.Frag):List V->Hp->VK->Prop:=λL H Q=>∃(J C:Addr)(M:kB)(c:V)(b:Bool),L=[.ref J,c]/\Xr H J C M/\W.ExcC K C/\
 ((∃(Z:Addr)(G:kA),c=.ref Z/\H Z=some (.tup<|G.map V.ref)/\W.kitAny K (.ref C) (G.map Value.ref)=some b)\/(∃N,c=.ref N/\W.kitOne K (.ref C) (.ref N)=some b)\/(∃T,c=.ty T/\W.kitOne K (.ref C) (.type T)=some b))/\Q (.bl b) H
def UN:UF X (.builtin "isinstance") (RB X.K):=by
 intro L s U H d v Q I r h;obtain⟨a,C,x,c,b,rfl,m,O,t,q⟩:=h;obtain⟨u,f,rfl,A,Z⟩:=vals2 r;cases A;obtain⟨M,J,R⟩:=I.inst m;have G:∀D,EP X L U Q (.bool b) {s with toks:=D}:=λD=>⟨.bl b,H,I.tok _,rfl,q⟩;rcases t with⟨B,p,rfl,y,e⟩|⟨N,rfl,e⟩|⟨T,rfl,e⟩
 .cases Z
  obtain⟨_,j,F,o,k,i,g,n,E⟩:=(show Va X.prog X.w H s.heap B (.tup<|p.map V.ref)from I.hok B _ y);rw[Ro F]at E;obtain⟨l,w,P,S⟩:=o;cases g;cases E;exact W.kia_tup (W.kitx_exc O) I.kIn ⟨M,J,R⟩ k e (λz=>nomatch z) G
 .cases Z
  exact vR (W.kitx_exc O) I.kIn ⟨M,J,R⟩ e (λz=>nomatch z) G
 .cases Z
  exact vR (W.kitx_exc O) I.kIn ⟨M,J,R⟩ e (λz=>nomatch z) G
end
section
variable{K:W.Frag}
def Fun.okX{M:Stmt}(F:Fun K x qual M f j)(S:Yn N D (Yc M))(O:∀G H Q E,B G H Q E->G.length=D.length)(L:∀(J:Value)(A:Around)(Z:List Env)(s:Shared)(H:Hp)(G:kF)(Q:VK)(E:XK),Vj k (A.deeper<|envOfC qual (Yc M) s.heap.objs.size f J)->B G H Q E->
   ∃t,PSs (Vi (CX1 P w) P w K U base N qual (Yc M) f J A Z s H E) (Ja M) t/\t {nx:=λ_ z=>Q .non z,rt:=Q} (start N G) H):Yh P w K U base (CX1 P w) (k+1) f j D B:=by
 obtain⟨g,m,kV,y,q,c,J,p,I,rfl,C,T⟩:=F.ex;exact Q2 C T S O λA Z s H G Q E X R=>L J A Z s H G Q E X R
end
end L2
namespace PySem.W
open PySem PySem.Spec PyProof.Rows
def xcIn(K:Frag)(C fI:Addr):Bool:=match K.lookup C with
 |some ⟨.type "type",_,.cls cd,sl⟩=>(match cd.mro,sl.toList with
  |.ref C2::tl,[_,_,_,_,some<|.builtin n,_]=>C2==C && (n=="ValueError.__new__" && (!cd.hasDel && (cd.hasDict && (tailIn K L2.vErr tl && (nsOkIn K cd.ns && nsIn K cd.ns "__init__"==some (some<|.ref fI))))))
  |_,_=>false)
 |_=>false
set_option tactic.hygienic true in
def Cv{K:Frag}{h:Heap}{N:Addr}{m:Str->Option Value}{n:Str}{v:Value}(X:K.In h)(G:h.Ns N m)(e:nsIn K N n=some (some v)):m n=some v:=by
 obtain⟨o,M,O,Z,L,_,J⟩:=G;unfold nsIn at e
 split at e
 case h_2=>cases e
 case h_1 c d es' n' sl q=>
  have z:=X _ _ q;rw[Z]at z;cases z;cases L
  split at e
  case h_1 en he=>
   cases e;rw[<-J];unfold nsFind findBy;rw[<-Array.find?_toList,he]
   rfl
  case h_2=>split at e <;> cases e
set_option tactic.hygienic true in
def cls_xc{K:Frag}{h:Heap}{C y:Addr}(X:K.In h)(q:xcIn K C y=true):
  ∃L N I F P E Z Q J U D B T R O j,h.get? C=some (excClassObj I F C N P L true E Z Q J U D B T R O "ValueError.__new__")/\h.Ns N j/\j "__init__"=some (.ref y)/\OwnTail h L2.vErr L:=by
 unfold xcIn at q
 split at q
 case h_2=>cases q
 case h_1 U cd sl ho=>
  split at q
  case h_2=>cases q
  case h_1 C2 L D B T R n O hm hs=>
   rw[ZX,ZX,ZX,ZX,ZX,ZX]at q;obtain⟨c,p,k,g,m,t,z⟩:=q;obtain rfl:C2=C:=beq_iff_eq.mp c;obtain rfl:n="ValueError.__new__":=beq_iff_eq.mp p
   cases cd with
   |mk I P S A F d E Z Q J M=>
    obtain rfl:S=.ref C2::L:=hm;obtain rfl:d=true:=g
    obtain rfl:M=false:=by cases M with
     |false=>rfl
     |true=>cases k
    obtain rfl:sl= #[D,B,T,R,some<|.builtin "ValueError.__new__",O]:=by
     cases sl with
     |mk l=>exact congrArg Array.mk hs
    have G:h.Ns A (h.nsMap A):=.of_isNs<|isNs_of_in X t;exact⟨L,A,I,F,P,E,Z,Q,J,U,D,B,T,R,O,_,X _ _ ho,G,Cv X G<|beq_iff_eq.mp z,tail_of_in X m⟩
end PySem.W
namespace PySem
open Sem (wp)
section
variable{prog:Program}{w:World}{A:Around}{E:Value->Shared->Prop}{h:Heap}{g:Array GenState}{d:Drawn}{t:Nat}{os:OsState}
variable{nm q:Str}{C N:Addr}{bs bm bmB:List Value}{hdct:Bool}{sn:List Str}{sub:List Value}{ab:Bool}{col:Option Bool}{dd:Option Addr}{k0 k1 k2 k3 k5:Option Value}{B newId initId:String}
def Bi(F:ExcBaseFacts B newId initId bmB)(T:OwnTail h bmB bm){j:Str->Option Value}{rest:List Value}{S:Addr}{P:Obj}{Q:Fin->Shared->Prop}(M:h.get? C=some (excClassObj nm q C N bs bm hdct sn sub ab col dd k0 k1 k2 k3 k5 newId))(p:h.Ns N j)(c:j "__init__"=some (.ref S))(D:h.get? S=some P)(R:P.cls=.type "function")(J:rest.length<=sizeLine)(k:∀y e,Heap.MadeExcOf h y e (.ref C) rest->h.objs.size<=e->
   wpAny (model prog w) A (call (.ref S) (.ref e::rest)) (λr U=>r=.none/\Q (.done<|.ret<|.ref e) U) E ⟨y,g,d,t,os⟩):
  wpAny (model prog w) A (Builtin.«type.__call__» ⟨.ref C::rest,[]⟩) Q E ⟨h,g,d,t,os⟩:=by
 repeat (first|with_reducible refine wpAny_madeBy_exc M ?_|with_reducible refine wpAny_loadPart_at M ?_|wp_step)
 refine codeAny_call_builtin_code (Code.quiet_builtin _ F.quiet)<|wpAny_check_new_subT F T M<|codeAny_exc_new_subT F T M ?_ J;show wpAny _ _ _ _ _ _
 let X:Obj:={cls:=.type "tuple",data:=.seq rest.toArray}
 let O:Obj:={cls:=.ref C,data:=.fields #[.ref h.objs.size,.none,.none,.none,.bool false,.none]}
 have G:∀b o,h.get? b=some o->((h.push X).push O).get? b=some o:=λb o z=>ZD _<|ZD _ z;have Z:((h.push X).push O).get? (h.objs.size+1)=some O:=by heap_get
 have I:(Value.ref C::bm).contains (.ref C)=true:=by simp
 have L:=G _ _ M;unfold isInstance
 repeat (first|with_reducible refine wpAny_loadPart_at Z ?_|(with_reducible refine wpAny_isSubtype_exc L ?_;rw[I])|wp_step)
 show wpAny _ _ (typeLookup (.ref C) _) _ _ _;refine wpAny_typeLookup_tail L (p.keeps G) (T.keeps G) F.mroIs F.init.lookup ?_;rw[c];refine wpAny_holding<|Zj ?_;unfold bindSpecial;refine Zj<|js (T:="function") ⟨_,G _ _ D,R⟩ ?_;rw[Zn (by decide)];refine Zk<|Zj<|Zl (k _ (h.objs.size+1) ⟨G,jG<|jr _,h.objs.size,Z,jG<|ZF _,ZD _<|Heap.get?_push_at rfl rfl⟩<|jr _) (λr U m=>?_) λ_ _ x=>x;obtain⟨rfl,f⟩:=m
 wp_walk
 exact f
def x_call(F:ExcBaseFacts B newId initId bmB)(T:OwnTail h bmB bm){D:Str->Option Value}{rest:List Value}{O:Addr}{R:Obj}{Q:Value->Shared->Prop}(J:h.get? C=some (excClassObj nm q C N bs bm hdct sn sub ab col dd k0 k1 k2 k3 k5 newId))(X:h.Ns N D)(j:D "__init__"=some (.ref O))(M:h.get? O=some R)(L:R.cls=.type "function")(Z:rest.length<=sizeLine)(U:∀G e,Heap.MadeExcOf h G e (.ref C) rest->h.objs.size<=e->
   wpAny (model prog w) (A.under<|.builtin "type.__call__" ⟨.ref C::rest,[]⟩) (call (.ref O) (.ref e::rest)) (λr I=>r=.none/\Q (.ref e) I) E ⟨G,g,d,t,os⟩):
  wpAny (model prog w) A (call (.ref C) rest) Q E ⟨h,g,d,t,os⟩:=by
 have m:=tc_lookup;have z:=tc_bind<|.ref C;have y:(⟨h,g,d,t,os⟩:Shared).TypeIs (.ref C) "type":=⟨_,J,rfl⟩;refine wpAny_call<|codeAny_of_tree ?_;show wpAny _ _ (callAny (.ref C) _) _ _ _
 repeat (any_goals (first|with_reducible refine wpAny_loadPart_at J ?_|assumption|wp_step))
 exact⟨Y,codeAny_call_builtin_at (Code.quiet_builtin _<|by decide +kernel) entry_typeCall<|wpAny_check_type_call_sub J<|Bi F T J X j M L Z λG e P S=>U G e P S⟩
end
end PySem
namespace PySem.W
open PySem PySem.Spec PyProof.Rows PySem.Builtin PySem.Builtin.ObjectAttr
section
variable{K:Frag}{h:Heap}{C fI x:Addr}{s:Shared}{prog:Program}{w:World}{A:Around}{name:Str}{v:Value}{tk:Tok}{R:Result->Shared->Prop}{ox:Obj}{od:Option Obj}
set_option tactic.hygienic true in
def Iy(X:K.In h)(q:xcIn K C fI=true):∃Z J,clsIn K C=some Z/\Z.mro=.ref C::J/\Z.hasDict=true/\OwnTail h L2.vErr J:=by
 unfold xcIn at q
 split at q
 case h_2=>cases q
 case h_1 dd Z sl ho=>
  split at q
  case h_2=>cases q
  case h_1 C2 J k0 k1 k2 k3 n k5 hm hs=>
   rw[ZX,ZX,ZX,ZX,ZX,ZX]at q;obtain⟨M,_,_,L,G,_,_⟩:=q;obtain rfl:C2=C:=beq_iff_eq.mp M;exact⟨Z,J,by unfold clsIn;rw[ho],hm,L,tail_of_in X G⟩
def Nz(T:OwnTail h L2.vErr tl):refuseLoop self "__setattr__" tl=pure ():=by
 induction T with
 |base=>exact PySem.F.store_ValueError.passes self
 |own _ _ _ _ ih=>rw[refuseLoop_ref];exact ih
def A9(X:K.In s.heap)(I:InstAt s.heap x ox C od)(q:xcIn K C fI=true)(N:mroIn K C (.type "object")=some true)(B:findIn K (.ref C) name=some none)(h:wpAny (model prog w) A.in1 (storeInOwnDict (.ref x) (.ref C) (.str name tk) name v false)
   (λL J=>match L with|.done f=>R (.ok f) J|.again M=>M.quiet=true/\codeAny (model prog w) A M R J) (λe J=>R (.error e) J) s):
  codeAny (model prog w) A (.call (.builtin "object.__setattr__") ⟨[.ref x,.str name tk,v],[]⟩) R s:=by
 have Z:=PySem.F.store_object;obtain⟨F,S,E,D,_,T⟩:=Iy X q;have G:Looks (model prog w) s.heap (isInstance (.ref x)<|.type "object") true:=I.type.andThen<|looks_mroIn X N;have O:Looks (model prog w) s.heap (mroOf<|.ref C) F.mro:=(looks_clsIn X E).andThen .now;refine qv Z.slot.plain Z.entry<|check_slot (i:="object.__setattr__") (owner:="object") (n:="__setattr__") Z.kind Z.split G (Z.args (.ref x) (.str name tk) v) ?_;rw[osa_eq,refuse_eq,];refine Zj<|Zj<|I.type.here<|Zj<|O.here ?_;rw[D,refuseLoop_ref,Nz T];exact Zk<|Zj<|I.type.here<|Zj<|(qj X B).here<|Zj<|Zk h
def x_store0{E:Value->Shared->Prop}{Q:Unit->Shared->Prop}{oc:Value}{L:Array Value}{sl:Array (Option Value)}(X:K.In s.heap)(q:xcIn K C fI=true)(D:mroIn K C (.type "object")=some true)(S:findIn K (.ref C) name=some none)(U:findIn K (.ref C) "__setattr__"=some (some<|.builtin "object.__setattr__"))(M:s.heap.get? x=some ⟨.ref C,none,.fields L,sl⟩)(h:∀G tk,G.Ns1 s.heap.objs.size (λy=>if y=name then some v else none)->G.get? x=some ⟨.ref C,some s.heap.objs.size,.fields L,sl⟩->(∀b o,b≠x->s.heap.get? b=some o->G.get? b=some o)->Q () {s with heap:=G,toks:=tk}):
  wpAny (model prog w) A (setAttr (.ref x) name v) Q E s:=by
 have I:InstAt s.heap x ⟨.ref C,none,.fields L,sl⟩ C none:=⟨M,rfl,rfl,trivial⟩;refine set_plain X I U<|A9 (s:={s with toks:=s.toks+1}) X I q D S ?_;obtain⟨u,g,z,p,j,_⟩:=Iy X q;have Z:(s.heap.push {cls:=.type "dict",data:=.dict #[]}).get? x=some ⟨.ref C,none,.fields L,sl⟩:=ZD _ M;have T:x≠s.heap.objs.size:=Zc<|ZN M;refine Zj<|Zk<|Zj<|Zj<|wpAny_loadPart M<|Zj<|Looks.here (s:={s with toks:=s.toks+1}) (looks_clsIn X z) ?_;rw[j];show wpAny _ _ (alloc {cls:=.type "dict",data:=.dict #[]} >>=λd=>update x (λo=>{cls:=o.cls,dict:=some d,data:=o.data,slots:=o.slots}) >>=λ_=>dictMade (.ref C) x d) _ _ _;refine Zj<|wpAny_alloc'<|Zj<|wpAny_update' Z<|Zk ?_
 have m:((s.heap.push {cls:=.type "dict",data:=.dict #[]}).update x λo=>{cls:=o.cls,dict:=some s.heap.objs.size,data:=o.data,slots:=o.slots}).get? s.heap.objs.size=some {cls:=.type "dict",data:=.dict #[]}:=
  (qD _ _ _ _ T.symm).trans (Heap.get?_push_at rfl rfl)
 have F:((s.heap.push {cls:=.type "dict",data:=.dict #[]}).update x λo=>{cls:=o.cls,dict:=some s.heap.objs.size,data:=o.data,slots:=o.slots}).Ns s.heap.objs.size (λ_=>none):=
  ⟨_,#[],_,m,rfl,λe P=>Zp P (by simp),λ_=>rfl⟩
 refine Zj<|Zk<|Zj<|wpAny_nsSet1 (Heap.Ns1.of_empty F) λG B J=>?_;obtain⟨k,c,f,N,hdD,O⟩:=B.count<|PySem.Within.cons name v PySem.Within.nil;refine Zj<|wpAny_lookBehind N (by rw[hdD];exact pastItsLine_dict<|ZZ O (by rw[Zd,List.length_nil,sizeLine_eq];omega))<|Zk<|h _ _ B ?_ λb o t e=>?_
 .refine (J.2 x T).trans ?_
  exact ve _ Z Y
 .refine (J.2 b<|Zc<|ZN e).trans ?_
  rw[qD _ _ _ _ t];exact ZD _ e
end
end PySem.W
namespace L2
open PySem PySem.Spec PyProof.Rows
def xdO(d:Addr)(fs:List (Str×V)):HO:=.ext λh=>∃Z,h.Ns1 d Z/\(∀f,Ud (fs.lookup f)<|Z f)/\PySem.Within Z (fs.map (·.1))
def exI(ea C:Addr)(dx:kB):HO:=.ext λh=>∃Z sl,h.get? ea=some ⟨.ref C,dx,.fields Z,sl⟩/\1<Z.size/\Z[1]?=some Value.none
structure XCl(K:W.Frag)(C fI:Addr):Prop where
 xc:W.xcIn K C fI=true
 ob:W.mroIn K C (.type "object")=some true
 sa:W.findIn K (.ref C) "__setattr__"=some (some (.builtin "object.__setattr__"))
def xdO.ok{P:Program}{w:World}{H:Hp}{h:Heap}(Z:h.Ns1 d mA)(r:∀f,Ud (fs.lookup f)<|mA f)(J:PySem.Within mA (fs.map (·.1))):Va P w H h d (xdO d fs):=
 ⟨⟨mA,Z,r,J⟩,let⟨o,_,_,e,_⟩:=Z;⟨o,e⟩,λL G ⟨m,q,r⟩ k=>⟨m,q.at k,r⟩⟩
def exI.ok{P:Program}{w:World}{H:Hp}{h:Heap}{Z:kC}{sl:Array (Option Value)}(e:h.get? ea=some ⟨.ref C,J,.fields Z,sl⟩)(z:1<Z.size)(n:Z[1]?=some Value.none):Va P w H h ea (exI ea C J):=
 ⟨⟨Z,sl,e,z,n⟩,⟨_,e⟩,λL G ⟨Z,sl,q,r⟩ k=>⟨Z,sl,k _ q,r⟩⟩
section
variable{X:Cx}{pins:kb}{U:St}{H:Hp}{s:Shared}{a C fI d:Addr}{f:Str}{y:V}{u:Value}{A:Around}{E:kh}{Q:Unit->Shared->Prop}{fs:List (Str×V)}
def CN(I:Inv X pins U H s)(e:H a=some (exI a C none))(c:XCl X.K C fI)(n:W.findIn X.K (.ref C) f=some none)(B:RelV y u)(h:∀d T,H d=none->d≠a->Inv X pins U (upd (upd H d<|xdO d [(f,y)]) a<|exI a C<|some d) T->Q () T):wpAny (model X.prog X.w) A (setAttr (.ref a) f u) Q E s:=by
 obtain⟨⟨G,sl,L,D,M⟩,_⟩:=(show Va X.prog X.w H s.heap a (exI a C none)from I.hok a _ e);refine W.x_store0 (oc:=.none) I.kIn c.xc c.ob n c.sa L λh' R F Z S=>?_;have O:s.heap.objs.size≠a:=λz=>yx _<|z ▸ ZN L;have P:H s.heap.objs.size=none:=I.hok.fresh<|ZF _;have j:(h'.update a λ_=>⟨.ref C,none,.fields G,sl⟩).get? a=some ⟨.ref C,none,.fields G,sl⟩:=ve _ Z rfl;have N:∀b,b≠a->(h'.update a λ_=>⟨.ref C,none,.fields G,sl⟩).get? b=h'.get? b:=λb J=>qD _ _ _ _ J
 have t:=I.laid (a:=s.heap.objs.size) (o:=xdO s.heap.objs.size [(f,y)]) (h':=h'.update a λ_=>⟨.ref C,none,.fields G,sl⟩) (t':=R) (λb o q=>by
  by_cases z:b=a
  .subst z;rw[L]at q;cases q;exact j
  .rw [N b z];exact S b o z q) (ZF _) (xdO.ok (F.at λo q=>by rw[N _ O];exact q) (λg=>by
  show Ud (List.lookup g [(f,y)]) (if g=f then some u else none)
  by_cases q:g=f
  .have J:(g==f)=true:=beq_iff_eq.mpr q
   simp only[List.lookup,J,Zn q];exact B
  .have J:(g==f)=false:=beq_eq_false_iff_ne.mpr q
   simp only[List.lookup,J,Zo q];trivial)<|PySem.Within.cons f u PySem.Within.nil)
 refine h _ _ P O ?_;refine t.write (x:=a) (e:=a) (h':=h') (t':=R) (by rw[Yd (Zq O),e];exact True.intro) (.inl Y) (λb o J q=>by rw[<-N b J];exact q) ⟨_,Z⟩<|exI.ok Z D M
def sX0(C:Addr)(ta tv:TE)(f:Str):TS:=λD U H=>tv U H λy J=>ta U J λx Z=>Jb x λa=>Z a=some (exI a C none)/\∀d,Z d=none->d≠a->D.nx U (upd (upd Z d<|xdO d [(f,y)]) a<|exI a C<|some d)
def CV{o value:Expr}{M L:TE}{pos Z:Pos}(c:XCl X.K C fI)(n:W.findIn X.K (.ref C) f=some none)(P:PE X o M)(B:PE X value L)(F:swapsWith value (some<|.Attribute o f Z) pos.line X.env=pure false:=by rfl):PS X (.Assign [.Attribute o f Z] value pos) (sX0 C M L f):=by
 intro pins s U H D I h;refine plainObj_wpAny_Assign_Attribute (thn (B pins s U H _ I h) λu N ⟨y,k,g,O,q⟩=>thn (P pins N U k _ g q) λT v ⟨x,w,m,R,J⟩=>?_) F;replace J:=Jb.old J;obtain⟨a,j,z,J⟩:=J;subst j;obtain rfl:T=Value.ref a:=R;exact CN m z c n O λd p S G t=>⟨U,_,t,J d S G⟩
def drop(H:Hp)(a:Addr):Hp:=λb=>if b=a then none else H b
def Ul(h:b≠a):drop H a b=H b:=Zo h
def GJ:drop H a a=none:=Zn rfl
def Inv.drop{φ:Heap->Prop}(I:Inv X pins U H s)(e:H a=some (.ext φ)):Inv X pins U (drop H a) s:=by
 have J:∀b o,H b=some o->(∀ψ,o≠.ext ψ)->b≠a:=λb o q n z=>by rw[z,e]at q;exact n _ (ZP q).symm
 have G:∀b,H b=none->L2.drop H a b=none:=λb q=>by
  by_cases z:b=a
  .rw [z];exact GJ
  .rw [Ul z];exact q
 obtain⟨P,S,bare,base,M,cell,free,Z,L,O,N⟩:=I;refine⟨P,S,bare,⟨base.keep,base.slot,λb o q n j=>G b<|base.free b o q n j,base.there,λb R q=>?_,λb o u q=>?_,λb T q=>?_⟩,M,cell,G _ free,λx c q=>G _<|Z x c q,λp t=>let⟨F,D,B⟩:=L p t;⟨F,G _ D,B⟩,λb o q=>?_,N⟩
 .have z:=base.tups b R q;rw[Ul (J b _ z λ_ y=>nomatch y)];exact z
 .have z:=base.frzs b o u q;rw[Ul (J b _ z λ_ y=>nomatch y)];exact z
 .obtain ⟨more,z⟩:=base.tbls b T q;exact⟨more,by rw[Ul (J b _ z λ_ y=>nomatch y)];exact z⟩
 .by_cases z:b=a
  .rw [z,GJ]at q;cases q
  .rw [Ul z]at q
   exact(O b o q).stay (λ_ _ _ y=>y) (λc y=>by rw[Ul (J c _ y λ_ y=>nomatch y)];exact y) λc R y=>by rw[Ul (J c _ y λ_ y=>nomatch y)];exact y
end
end L2
namespace PySem.W
open PySem PySem.Spec PyProof.Rows
def exc_get{K:Frag}{D x:Addr}{L:Obj}{J:Option Obj}{s:Shared}{Z:Program}{w:World}{A:Around}{name:Str}{v:Value}{G:Bool}{Q:Value->Shared->Prop}{E:Value->Shared->Prop}(C:ExcC K D)(X:K.In s.heap)(I:InstAt s.heap x L D J)(S:findObj K D J name=some (.value v))(B:handedIn v=true)(h:Q v {s with toks:=s.toks+1}):
  wpAny (model Z w) A (getAttr (.ref x) name G) Q E s:=by
 obtain⟨y,g,d,t,P⟩:=s;have T:=I.type (M:=model Z w);have R:=qj (M:=model Z w) X C.ga;have O:=qj (M:=model Z w) X C.gn;have j:=looks_find (M:=model Z w) X I S;have sl:=F.attr_ValueError.ga;have U:=sl.bind<|.ref x;simp only[getAttr,getAttrBy];refine Zj<|wpAny_mkText<|wpAny_holding<|Zj<|T.at ?_;refine Zj<|R.at ?_;simp only[OI,j5,jc,if_false,getAttrByItsOwn,hookBefore];refine Zj<|O.at<|Zj<|jg<|wpAny_holding ?_;have N:(G && onTheHeap (.builtin "BaseException.__getattribute__"))=false:=by cases G <;> rfl
 simp only[callGetattribute,boundAndCalled,N,jc,if_false];rw[U];refine Zj<|Zk<|wpAny_call<|qv sl.plain F.entry_bexc_ga<|MG C X I ?_;simp only[Builtin.«object.__getattribute__»]
 repeat lk
 show wpAny _ _ (handedOut v) _ _ _;rw[handedOut_of B];exact Zk h
end PySem.W
namespace PySem
section
variable{M:Model}{A:Around}{E:Value->Shared->Prop}{env:Env}
variable{nm q:Str}{C N:Addr}{bs bm:List Value}{hdct:Bool}{sn:List Str}{sub:List Value}{ab:Bool}{col:Option Bool}{dd:Option Addr}{k0 k1 k2 k3 k5:Option Value}{newId:String}
def NY{s:Shared}{x:Sem Value}{Q:Flow->Shared->Prop}(Z:bm.contains (.type "BaseException")=true)(B:A.handled=none)(h:wpAny M A x (λv J=>∃e R G sl,v=.ref e/\J.heap.get? C=some (excClassObj nm q C N bs bm hdct sn sub ab col dd k0 k1 k2 k3 k5 newId)/\J.heap.get? e=some ⟨.ref C,R,.fields G,sl⟩/\G[1]?=some Value.none/\E (.ref e) J) E s):
  wpAny M A (raiseStmt env (some x) none) Q E s:=by
 have L:(Value.ref C::bm).contains (.type "BaseException")=true:=by rw[List.contains_cons,Z,Bool.or_true]
 unfold raiseStmt;refine Zj<|Zl h (λv J ⟨e,R,G,sl,I,O,D,T,F⟩=>?_) λ_ _ z=>z;subst I;obtain⟨X,g,d,S,U⟩:=J
 repeat (first|with_reducible refine wpAny_loadPart_at D ?_|with_reducible refine wpAny_loadPart_at O ?_|(with_reducible refine wpAny_isSubtype_exc O ?_;rw[L])|wp_step)
 rw[T];exact Zk<|Zk<|wpAny_raiseNew_none B F
end
end PySem
namespace L2
open PySem PySem.Spec PyProof.Rows
section
variable{X:Cx}{pins:kb}{U:St}{H:Hp}{s:Shared}{C fI:Addr}{fd:FuncData}{k:Nat}{f g y z p:Str}{us:kj}{a b:V}{E:XK}{x:Str}
def Qe(K:W.Frag)(ta:TE)(f:Str):TE:=λU H Q=>ta U H λx Z=>Jb x λa=>∃C d J v,Z a=some (U2 a C<|some d)/\Z d=some (xdO d J)/\W.ExcC K C/\W.hasDictIn K C=true/\W.findIn K (.ref C) f=some none/\J.lookup f=some v/\Q v Z
def PZ{e:Expr}{L:TE}{pos:Pos}(A:PE X e L)(P:attributeBase e f X.env (eval e X.env)=eval e X.env):PE X (.Attribute e f pos) (Qe X.K L f):=by
 intro pins s U H Q I h;refine FO P<|thn (A pins s U H _ I h) λu M ⟨x,G,Z,R,q⟩=>?_;replace q:=Jb.old q;obtain⟨a,m,C,d,t,v,w,c,O,S,j,l,q⟩:=q;subst m;obtain rfl:u=Value.ref a:=R;obtain⟨⟨ox,e1,e2,n,i⟩,_⟩:=(show Va X.prog X.w G M.heap a (U2 a C<|some d)from Z.hok a _ w);obtain⟨⟨T,F,r,wi⟩,_⟩:=(show Va X.prog X.w G M.heap d (xdO d t)from Z.hok d _ c);obtain⟨od,D,J⟩:=Rz F;obtain⟨u,B,N⟩:=Ud.some_of (v:=v) (o:=T f) (by rw[<-l];exact r f);exact W.exc_get O Z.kIn ⟨e1,e2,n,by rw[i];exact D⟩ (W.findObj_own S j Y (by rw[J,B])) (MC N) ⟨v,G,Z.tok _,N,q⟩
end
def Nt(C:Addr)(f:Str):Sp:=λJ H Q _=>∃Z a,J=[.ref Z,a]/\H Z=some (exI Z C none)/\∀d,H d=none->d≠Z->Q .non (upd (upd H d<|xdO d [(f,a)]) Z<|exI Z C<|some d)
section
variable{X:Cx}{pins:kb}{U:St}{H:Hp}{s:Shared}{C fI:Addr}{fd:FuncData}{k:Nat}{f y p:Str}{us:kj}{a:V}{E:XK}{x:Str}
def Sv(c:XCl X.K C fI)(hf:W.isFn X.K (.ref fI)=true)(G:Yh X.prog X.w X.K X.mg X.base CX0 k fI fd [p,y] (Nt C f))(hr:Vj (k+1) X.A)(hb:Binds X.K fd [p,y] [])(I:Inv X pins U H s)(r:Vals [a] us)(l:X.ex=[]){Q:kh}(h:∀S d L,H d=none->H S=none->Inv X pins U (upd H d<|xdO d [(f,a)]) L->Fly X.s₀.heap (upd H d<|xdO d [(f,a)]) L.heap S C (some d)->
   (∃O sl,L.heap.get? S=some ⟨.ref C,some d,.fields O,sl⟩/\O[1]?=some Value.none)->Q (.ref S) L):
  wpAny (model X.prog X.w) X.A (call (.ref C) us) Q X.xe s:=by
 obtain⟨tl,N,nm,qn,bs,sn,Z8,ab,Z9,dd,k0,k1,k2,k3,k5,mN,b,hN,m,T⟩:=W.cls_xc I.kIn c.xc;have ft:W.typeIn X.K (.ref fI)=some (.type "function"):=beq_iff_eq.mp hf
 obtain⟨R,hl,w⟩:∃R,X.K.lookup fI=some R/\R.cls=.type "function":=by
  unfold W.typeIn at ft;obtain⟨R,e1,e2⟩:=Zh.mp ft;exact⟨R,e1,e2⟩
 obtain⟨D,rfl,ra⟩:=vals1 r;obtain⟨hp,gs,dr,tk,os⟩:=s;refine x_call F.excBase_ValueError T b hN m (I.kIn _ _ hl) w (by rw[<-r.length,sizeLine_eq];show 1<=_;omega) λh' e g n=>?_;obtain⟨t,ht,_,_⟩:=g.there;have P:=I.laid (a:=e) (o:=exI e C none) (h':=h') (t':=tk) g.keeps n<|exI.ok ht (by show 1<6;decide) rfl;have i:H e=none:=I.hok.fresh n
 have hq:Nt C f [.ref e,a] (upd H e<|exI e C none) (λv H2=>v=.non/\∃d,H d=none/\d≠e/\H2=upd (upd (upd H e<|exI e C none) d<|xdO d [(f,a)]) e (exI e C<|some d)) (λ_ _ _=>False):=
  ⟨e,a,rfl,Ya,λd A J=>⟨rfl,d,by rw[Yd J]at A;exact A,J,Y⟩⟩
 have r2:Vals [V.ref e,a] [Value.ref e,D]:=.cons rfl r;refine wpAny_call<|jb (G.run _ X.stack _ _ ⟨[Value.ref e,D],[]⟩ [Value.ref e,D] _ _ (λ_ _ _=>False) (hr.make C _ []) (P.env0.make C _ []) (hb _ [Value.ref e,D] P.kIn rfl) r2 hq) λr L Z=>?_
 cases r with
 |error e'=>exact VN pins U _ _ e' L P Z
 |ok fl=>
  cases fl with
  |next=>exact False.elim Z
  |brk=>exact False.elim Z
  |cont=>exact False.elim Z
  |ret u=>
   obtain⟨v,H',I3,rv,ev,d,A,J,rfl⟩:=P.after Z;subst ev;have M:upd (upd (upd H e<|exI e C none) d<|xdO d [(f,a)]) e (exI e C<|some d) e=some (exI e C<|some d):=Ya;obtain⟨⟨O,sl,hx,j,B⟩,_⟩:=(show Va X.prog X.w _ L.heap e (exI e C<|some d)from I3.hok e _ M);have I4:=I3.drop M
   have eH:L2.drop (upd (upd (upd H e<|exI e C none) d<|xdO d [(f,a)]) e<|exI e C<|some d) e=upd H d (xdO d [(f,a)]):=by
    funext x
    by_cases z:x=e
    .rw [z,GJ,Yd<|Zq J,i]
    .rw [Ul z,Yd z]
     by_cases z2:x=d
     .rw [z2,Ya,Ya]
     .rw [Yd z2,Yd z,Yd z2]
   rw[eH]at I4;refine⟨rv,h e d L A i I4 ⟨?_,by rw[Yd (Zq J)];exact i,_,O,hx,Y,Y,Y,j,.inl B⟩ ⟨O,sl,hx,B⟩⟩
   cases q:X.s₀.heap.get? e with
   |none=>rfl
   |some u=>
    obtain⟨v,hv⟩:=I.base.there e u q (by rw[l];simp);rw[g.new]at hv;cases hv
def KN(C:Addr)(f:Str)(E:XK)(t:TA):TS:=λ_ U H=>t U H λJ Z=>∃a,J=[a]/\∀d,Z d=none->E (.ref C) (some d) (upd Z d<|xdO d [(f,a)])
def UU{e:Expr}{J:kP}{t:TA}{m Z pos:Pos}(hl:Iv X E)(B:X.ex=[])(hc:X.calm=true)(hg:Gl X x)(n:X.mg x=some (.ref C))(c:XCl X.K C fI)(hk:W.keepIn X.K (.ref C)=true)(hf:W.isFn X.K (.ref fI)=true)(G:Yh X.prog X.w X.K X.mg X.base CX0 k fI fd [p,y] (Nt C f))(o:Vj (k+1) X.A)(hb:Binds X.K fd [p,y] [])(ha:PA X (e::J) t)(A:(x==("__debug__":Str))=false:=by decide)(he:starEach (e::J) X.env=(false,eval e X.env)::starEach J X.env:=by rfl)(R:(backTo Z<|starEach J X.env).any (·.1)=false:=by rfl):
  PS X (.Raise (some<|.Call (.Name x m) (e::J) [] Z) none pos) (KN C f E t):=by
 intro pins s U H D I h;obtain⟨Q,N,nm,j,bs,sn,sub,ab,col,dd,k0,k1,k2,k3,k5,mN,S,hN,i,T⟩:=W.cls_xc I.ok.mod.kin c.xc
 have P:wpAny (model X.prog X.w) X.A (eval (.Call (.Name x m) (e::J) [] Z) X.env) (λv O=>∃L dx M sl,v=.ref L/\O.heap.get? C=some (excClassObj nm j C N bs Q true sn sub ab col dd k0 k1 k2 k3 k5 "ValueError.__new__")/\O.heap.get? L=some ⟨.ref C,dx,.fields M,sl⟩/\M[1]?=some Value.none/\X.xe (.ref L) O) X.xe s:=by
  refine vI<|Uk I hg n ?_ A;refine jq (h₀:=X.base) I.ok.mod.kin hk (thn (ha Z pins s U H _ I h) λus O ⟨M,H1,u,r,a,ev,q⟩=>⟨u.kIn,?_⟩) he R;subst ev;exact Sv c hf G o hb u r B λL d w hd Z8 g F ⟨M,sl,l,b⟩=>⟨L,_,M,sl,Y,g.bk _ _ S,l,b,hl pins U _ w L C (some d) g F<|q d hd⟩
 rw[arm_exec_Raise];refine Zj<|vC<|NY (C:=C) (nm:=nm) (q:=j) (N:=N) (bs:=bs) (bm:=Q) (hdct:=true) (sn:=sn) (sub:=sub) (ab:=ab) (col:=col) (dd:=dd) (k0:=k0) (k1:=k1) (k2:=k2) (k3:=k3) (k5:=k5) (newId:="ValueError.__new__") (T.hasType F.excBase_ValueError.hasBase) (I.ok.hd hc)<|Zj<|Zl P (λv s3 h3=>Zj<|vC<|Zk h3) λ_ _ z=>z
end
section
variable{prog:Program}{w:World}{A:Around}{E:kh}{s:Shared}
def Rl{t sl:Addr}{items:kC}{T R:Value}{Z G:ky}{Q:kh}(J:IsTup s.heap t items)(D:s.heap.IsSliceOf sl T R .none)(S:IsPart T Z)(I:IsPart R G)(B:HT.sIx items.size 0 Z=0/\HT.sIx items.size items.size G=items.size)(h:Q (.ref t) s):wpAny (model prog w) A (getItem (.ref t)<|.ref sl) Q E s:=by
 obtain⟨U,M,N,C⟩:=id D;have O:s.TypeIs (.ref sl) "slice":=⟨U,M,N⟩;unfold getItem
 try with_reducible refine wpAny_holding ?_
 first|refine Zj (Zk ?_)|skip
 refine Zj<|wpAny_sequenceKey J.typeIs (by decide) ?_;refine Zj<|wpAny_callSpecial?_slot (name:=Str.ofString "__getitem__") J.typeIs vK<|vD vK J.typeIs entry_tuple_getitem ?_<|args_tuple_getitem _ _;show wpAny _ _ (Builtin.Tuple.tupleItemsOf (.ref t) >>=_) _ _ s;refine Zj<|tupleItemsOf_ J<|Zj<|js O ?_;rw[Zn (by decide)];refine Zj<|HT.sliceApplied_gen D S I ?_
 have L:(((HT.sIx items.size 0 Z:Nat):Int)==0 && (1:Int)==1 && (HT.sIx items.size items.size G-HT.sIx items.size 0 Z)==items.size)=true:=by
  rw[B.1,B.2];simp
 show wpAny _ _ (if(((HT.sIx items.size 0 Z:Nat):Int)==0 && (1:Int)==1 && (HT.sIx items.size items.size G-HT.sIx items.size 0 Z)==items.size)=true then _ else _) _ _ s;rw[Zn L];have F:s.TypeIs (.ref t) "tuple":=J.typeIs;unfold Builtin.Tuple.tupleIsExact
 first
 |exact Zj<|Zj<|js F<|Zk<|Zj<|jD<|Zk ⟨_,rfl,Zk h⟩
 |exact Zj<|Zj<|js F<|Zk<|Zj<|jD<|Zj<|Zk ⟨_,rfl,Zk h⟩
end
section
variable{X:Cx}
def PR:V->Option Int->Option Int->Hp->VK->Prop:=λx J G H Q=>∃a Z,x=.ref a/\H a=some (.tup Z)/\
 (HT.sIx Z.length 0 J=0/\HT.sIx Z.length Z.length G=Z.length->Q (.ref a) H)/\∀p,H p=none->Q (.ref p) (upd H p<|.tup<|XT Z J G)
def Gx:SlR X PR:=by
 intro J s U H x v A F R E sl Q I M D O N h;obtain⟨a,Z,rfl,T,C,S⟩:=h
 by_cases hw:HT.sIx Z.length 0 R=0/\HT.sIx Z.length Z.length E=Z.length
 .cases M
  obtain⟨L,r,B,P⟩:=I.tuple<|Z0 T;have G:L.toArray.size=Z.length:=by rw[ZM];exact r.length.symm
  exact⟨"tuple",_,PyProof.Rows.slot_tuple_getitem.lookup,B.typeIs,Rl B D O N (by rw[G];exact hw) ⟨.ref a,H,I,Y,C hw⟩⟩
 .exact Mh J s U H _ v A F R E sl Q I M D O N ⟨a,Z,rfl,Z0 T,hw,S⟩
end
def SI(tp:Bool)(h:Heap)(i l:Addr)(k:Nat)(xs:kC):Prop:=match tp with
 |false=>h.IsListIter i l k/\h.IsList l xs
 |true=>h.IsTupleIter i l k/\h.IsTuple l xs
def SI.to(z:SI J h i l k G)(Z:∀b o,(b=i\/b=l)->h.get? b=some o->L.get? b=some o):SI J L i l k G:=by
 cases J with
 |false=>exact⟨let⟨o,e,r⟩:=z.1;⟨o,Z _ _ (.inl Y) e,r⟩,let⟨o,e,r⟩:=z.2;⟨o,Z _ _ (.inr Y) e,r⟩⟩
 |true=>exact⟨let⟨o,e,r⟩:=z.1;⟨o,Z _ _ (.inl Y) e,r⟩,let⟨o,e,r⟩:=z.2;⟨o,Z _ _ (.inr Y) e,r⟩⟩
def SI.but(z:SI G h i l k J)(e:Heap.ExtBut b h L)(N:i≠b)(M:l≠b):SI G L i l k J:=
 z.to λc o Z q=>e c o (by rcases Z with Z|Z <;> rw[Z] <;> assumption) q
def ET{a b:Sem α}{Q:α->Shared->Prop}(Z:c=false)(h:wpAny M A b Q E s):wpAny M A (if c=true then a else b) Q E s:=by
 subst Z
 rwa [Zo (by decide)]
section
def Gy(z:SI R s.heap i l k O)(D:l≠i)(I:O[k]?=some x)(S:∀g,SI R g i l (k+1) O->Heap.SameBut i s.heap g->Q x {s with heap:=g}):wpAny (model prog w) A (Builtin.SmallTypes.nextOf<|.ref i) Q E s:=by
 cases R with
 |false=>exact wpAny_nextOf_list_item z.1 z.2 I λg a B=>S g ⟨a,z.2.extBut B.extBut D⟩ B
 |true=>
  obtain⟨G,N⟩:=z;obtain⟨X,J,M,Z⟩:=id G;obtain⟨C,L,_,P,U⟩:=id N;have T:=F.slot_tuple_iterator_next;simp only[Builtin.SmallTypes.nextOf];refine Zj<|wpAny_callSpecial?_slot (name:=Str.ofString "__next__") G.typeIs T<|vD T G.typeIs F.entry_tuple_iterator_next ?_<|F.args_tuple_iterator_next_1 _;refine Zj (m:=field (.ref i) 0)<|Zm J Z (x:=.ref l) rfl (ET (c:=Value.ref l==.none) rfl ?_);refine Zj (m:=field (.ref i) 1)<|Zm J Z (x:=.int k 0) rfl (Zj (m:=seqItems?<|.ref l)<|vJ L U ?_);simp only[I,je];refine Zj<|jt J Z (by simp)<|Zk ⟨x,rfl,Zk<|S _ ⟨?_,?_⟩<|Heap.SameBut.update ..⟩
  .refine ⟨_,ve _ J<|Obj.isFreed_of_fields<|Obj.data_mapFields Z _,(Obj.cls_mapFields ..).trans M,?_⟩
   rw[Obj.data_mapFields Z];simp[rawInt]
  .exact N.extBut (Heap.SameBut.update ..).extBut D
def Bz(O:A.handled=none)(z:SI D s.heap i l k B)(N:B[k]?=none)(R:∀g e,Heap.ExtBut i s.heap g->(∃o,g.get? e=some o/\o.cls=.type "StopIteration")->E (.ref e) {s with heap:=g}):wpAny (model prog w) A (Builtin.SmallTypes.nextOf<|.ref i) Q E s:=by
 cases D with
 |false=>exact wpAny_nextOf_list_end O z.1 z.2 N R
 |true=>
  obtain⟨G,T⟩:=z;obtain⟨X,Z,U,J⟩:=id G;obtain⟨C,L,_,P,S⟩:=id T;have M:=F.slot_tuple_iterator_next;simp only[Builtin.SmallTypes.nextOf];refine Zj<|wpAny_callSpecial?_slot (name:=Str.ofString "__next__") G.typeIs M<|vD M G.typeIs F.entry_tuple_iterator_next ?_<|F.args_tuple_iterator_next_1 _;refine Zj (m:=field (.ref i) 0)<|Zm Z J (x:=.ref l) rfl (ET (c:=Value.ref l==.none) rfl ?_);refine Zj (m:=field (.ref i) 1)<|Zm Z J (x:=.int k 0) rfl (Zj (m:=seqItems?<|.ref l)<|vJ L S ?_);simp only[N,je];refine Zj (jD<|Zj<|jt Z J (by simp) ?_);refine Zj (m:=newExc (.type "StopIteration") []) ?_;simp only[newExc,newTuple];refine Zj (vq (Zj (m:=firstArgMember _ _)<|wpAny_of_eq (a:=.none) (by simp only[firstArgMember];rfl)<|vq ?_<|by size_fits)<|by size_fits);have I:A.in1.handled=none:=O;simp only[raiseNew];refine Zj<|wpAny_handled<|?_;rw[I];exact Zj<|Zk<|wpAny_throw<|R _ _ (((Heap.SameBut.update ..).extBut.push _).push _) ⟨_,ZW _ rfl,rfl⟩
structure ZS(h:Heap)(z TI TO:Addr)(f0:Value)(t1:Bool)(i1 l1:Addr)(xs:Array Value)(t2:Bool)(i2 l2:Addr)(ys:Array Value)(k:Nat):Prop where
 zip:IsZip h z TI TO f0
 its:IsPair h TI (.ref i1) (.ref i2)
 out:∃a b,IsPair h TO a b
 one:SI t1 h i1 l1 k xs
 two:SI t2 h i2 l2 k ys
def Os{z TI TO G J t C:Addr}(D:ZipApart z TI TO G J t C)(S:ZS s.heap z TI TO .none t1 G t u t2 J C ys k)(hx:u[k]?=some x)(hy:ys[k]?=some y)(hQ:∀g,ZS g z TI TO (rawInt s.heap.objs.size) t1 G t u t2 J C ys (k+1)->IsPair g s.heap.objs.size x y->g.objs.size=s.heap.objs.size+1->
   (∀c o,c≠z->c≠TO->c≠G->c≠J->s.heap.get? c=some o->g.get? c=some o)->Q (some<|.ref s.heap.objs.size) {s with heap:=g}):wpAny (model prog w) A (pyNext<|.ref z) Q E s:=by
 have hT:s.TypeIs (.ref z) "zip":=⟨_,S.zip,rfl⟩;obtain⟨a,b,So⟩:=S.out;simp only[pyNext];refine Zj<|jg<|wpAny_callSpecial?_slot (name:=Str.ofString "__next__") hT qh<|vD qh hT F.entry_zip_next ?_<|F.args_zip_next_1 _;refine Zj (m:=field (.ref z) 2)<|Zm S.zip rfl (x:=.bool false) rfl (Zj (m:=field (.ref z) 3)<|Zm S.zip rfl (x:=.ref TI) rfl (Zj<|vJ S.its rfl ?_));refine Zj (m:=Builtin.SmallTypes.ownedTupleIsFree<|.ref z)<|Zj (m:=field (.ref z) 0)<|Zm S.zip rfl (x:=.none) rfl (Zk ?_);simp only[if_true];refine Zj (jD<|Zj<|Zm S.zip rfl (x:=.ref TO) rfl (Zj<|yu S.zip (by simp) λg1 f U=>Zj ?_));replace f:IsZip g1 z TI TO .ellipsis:=f;simp only[jz,List.forIn_nil,List.zipIdx_cons,List.zipIdx_nil];refine Zj<|Zj<|wpAny_onRaise (?_:wpAny _ _ (Builtin.SmallTypes.nextOf (.ref G) >>=_) _ _ _);refine Zj<|Gy (S.one.but U.extBut D.i1z D.l1z) D.l1i1 hx λg2 a2 I=>Zk ?_;have o2:IsPair g2 TO a b:=I.extBut _ _ D.TOi1<|U.extBut _ _ D.TOz So;refine Zj<|vJ o2 rfl ?_;refine Zj<|qy o2 λg3 l B=>?_;replace l:IsPair g3 TO x b:=l;refine Zj<|wpAny_letGo<|Zk<|Zj<|Zj<|wpAny_onRaise (?_:wpAny _ _ (Builtin.SmallTypes.nextOf (.ref J) >>=_) _ _ _);have b3:SI t2 g3 J C k ys:=((S.two.but U.extBut D.i2z D.l2z).but I.extBut D.i12.symm D.l2i1).but B.extBut D.TOi2.symm D.l2TO;refine Zj<|Gy b3 D.l2i2 hy λg4 b4 T=>Zk ?_;have o4:IsPair g4 TO x b:=T.extBut _ _ D.TOi2 l;refine Zj<|vJ o4 rfl ?_;refine Zj<|qy o4 λZ j R=>?_;replace j:IsPair Z TO x y:=j;refine Zj<|wpAny_letGo<|Zk<|Zk<|Zj<|vJ j rfl (Zj<|wpAny_newTuple ?_);have sz:Z.objs.size=s.heap.objs.size:=by rw[R.1,T.1,B.1,I.1,U.1]
 have z5:IsZip Z z TI TO .ellipsis:=R.extBut _ _ D.TOz.symm<|T.extBut _ _ D.i2z.symm<|B.extBut _ _ D.TOz.symm<|I.extBut _ _ D.i1z.symm f
 have k5:∀c o,c≠z->c≠TO->c≠G->c≠J->s.heap.get? c=some o->Z.get? c=some o:=λc o L p n h e=>
  R.extBut _ _ p (T.extBut _ _ h<|B.extBut _ _ p<|I.extBut _ _ n<|U.extBut _ _ L e)
 have a5:SI t1 Z G t (k+1) u:=((a2.but B.extBut D.TOi1.symm D.l1TO).but T.extBut D.i12 D.l1i2).but R.extBut D.TOi1.symm D.l1TO;have b5:SI t2 Z J C (k+1) ys:=b4.but R.extBut D.TOi2.symm D.l2TO;have M:z<Z.objs.size:=ZN z5;show wpAny _ _ (Builtin.SmallTypes.ownedTupleHandOut (.ref z) (.ref Z.objs.size) >>=_) _ _ _;refine Zj ?_;simp only[Builtin.SmallTypes.ownedTupleHandOut];have z6:IsZip (Z.push {cls:=.type "tuple",data:=.seq #[x,y]}) z TI TO .ellipsis:=ZD _ z5;refine Zj<|yu z6 (by simp) λg7 d r=>?_;replace d:IsZip g7 z TI TO (rawInt Z.objs.size):=d;refine yu d (by simp) λX P v=>?_;replace P:IsZip X z TI TO (rawInt Z.objs.size):=P;have N:∀c o,c≠z->Z.get? c=some o->X.get? c=some o:=λc o L e=>v.extBut _ _ L<|r.extBut _ _ L<|ZD _ e;have t8:IsPair X Z.objs.size x y:=v.extBut _ _ (vH M)<|r.extBut _ _ (vH M)<|ZW _ rfl;have O:X.objs.size=Z.objs.size+1:=by rw[v.1,r.1,vi]
 rw[sz]at P t8 O;refine Zk ⟨_,Y,Zk ?_⟩;show Q (some<|.ref Z.objs.size) _;rw[sz];refine hQ X ⟨P,N _ _ D.TIz<|k5 _ _ D.TIz D.TITO D.TIi1 D.TIi2 S.its,⟨_,_,N _ _ D.TOz j⟩,?_,?_⟩ t8 O λc o L p n h e=>N c o L<|k5 c o L p n h e
 .exact a5.to λc o i e=>N c o (i.elim (λq=>q ▸ D.i1z) λq=>q ▸ D.l1z) e
 .exact b5.to λc o i e=>N c o (i.elim (λq=>q ▸ D.i2z) λq=>q ▸ D.l2z) e
def Q9{z TI TO O N r X:Addr}(l:A.handled=none)(D:ZipApart z TI TO O N r X)(S:ZS s.heap z TI TO .none t1 O r f t2 N X ys k)(R:f[k]?=none\/ys[k]?=none)(hQ:∀g,(∀c o,c≠z->c≠TO->c≠O->c≠N->s.heap.get? c=some o->g.get? c=some o)->Q none {s with heap:=g}):wpAny (model prog w) A (pyNext<|.ref z) Q E s:=by
 have i:s.TypeIs (.ref z) "zip":=⟨_,S.zip,rfl⟩;obtain⟨a,b,So⟩:=S.out;have stop:∀(g:Heap)(e:Addr),(∀c o,c≠z->c≠TO->c≠O->c≠N->s.heap.get? c=some o->g.get? c=some o)->(∃o,g.get? e=some o/\o.cls=.type "StopIteration")->
   wpAny (model prog w) A (do if(<-isInstance (.ref e) (.type "StopIteration"))then pure none else throw (.ref e):Sem (Option Value)) Q E {s with heap:=g}:=λg e kp ⟨o,ho,hc⟩=>
  Zj (wpAny_isInstance (T:="StopIteration") (b:=true) ⟨o,ho,hc⟩ isSubtype_stop<|Zk<|hQ g kp)
 simp only[pyNext];refine Zj<|jg<|wpAny_callSpecial?_slot (name:=Str.ofString "__next__") i qh<|vD qh i F.entry_zip_next ?_<|F.args_zip_next_1 _;refine Zj (m:=field (.ref z) 2)<|Zm S.zip rfl (x:=.bool false) rfl (Zj (m:=field (.ref z) 3)<|Zm S.zip rfl (x:=.ref TI) rfl (Zj<|vJ S.its rfl ?_));refine Zj (m:=Builtin.SmallTypes.ownedTupleIsFree<|.ref z)<|Zj (m:=field (.ref z) 0)<|Zm S.zip rfl (x:=.none) rfl (Zk ?_);simp only[if_true];refine Zj (jD<|Zj<|Zm S.zip rfl (x:=.ref TO) rfl (Zj<|yu S.zip (by simp) λg1 I M=>Zj ?_));replace I:IsZip g1 z TI TO .ellipsis:=I;simp only[jz,List.forIn_nil,List.zipIdx_cons,List.zipIdx_nil];refine Zj<|Zj<|wpAny_onRaise (?_:wpAny _ _ (Builtin.SmallTypes.nextOf (.ref O) >>=_) _ _ _)
 cases hx:f[k]? with
 |none=>
  refine Zj<|Bz l (S.one.but M.extBut D.i1z D.l1z) hx λy e n P=>?_;obtain⟨C,Z,J⟩:=P;have d:IsZip y z TI TO .ellipsis:=n _ _ D.i1z.symm I;have G:e≠z:=λq=>by subst q;rw[d]at Z;cases Z;simp at J
  refine yu d (by simp) λj _ L=>?_;exact stop j e (λc o B _ t _ q=>L.extBut _ _ B<|n _ _ t<|M.extBut _ _ B q) ⟨C,L.extBut _ _ G Z,J⟩
 |some x=>
  have hy:ys[k]?=none:=by rcases R with q|q;rw[hx]at q;cases q;exact q
  refine Zj<|Gy (S.one.but M.extBut D.i1z D.l1z) D.l1i1 hx λy a2 U=>Zk ?_;have v:IsPair y TO a b:=U.extBut _ _ D.TOi1<|M.extBut _ _ D.TOz So;refine Zj<|vJ v rfl ?_;refine Zj<|qy v λj o3 L=>?_;refine Zj<|wpAny_letGo<|Zk<|Zj<|Zj<|wpAny_onRaise (?_:wpAny _ _ (Builtin.SmallTypes.nextOf (.ref N) >>=_) _ _ _);have b3:SI t2 j N X k ys:=((S.two.but M.extBut D.i2z D.l2z).but U.extBut D.i12.symm D.l2i1).but L.extBut D.TOi2.symm D.l2TO;refine Zj<|Bz l b3 hy λg4 e h P=>?_;obtain⟨C,Z,J⟩:=P;have p:IsZip g4 z TI TO .ellipsis:=h _ _ D.i2z.symm<|L.extBut _ _ D.TOz.symm<|U.extBut _ _ D.i1z.symm I;have G:e≠z:=λq=>by subst q;rw[p]at Z;cases Z;simp at J
  refine yu p (by simp) λg5 _ u=>?_;exact stop g5 e (λc o B c2 t c4 q=>u.extBut _ _ B<|h _ _ c4<|L.extBut _ _ c2<|U.extBut _ _ t<|M.extBut _ _ B q) ⟨C,u.extBut _ _ G Z,J⟩
def Wk(tp:Bool)(h:Heap)(l:Addr)(xs:kC):Prop:=match tp with
 |false=>h.IsList l xs
 |true=>h.IsTuple l xs
def Jq(tp:Bool)(l:Addr):Obj:={cls:=.type<|if tp then "tuple_iterator" else "list_iterator",data:=.fields #[.ref l,.int 0 0]}
def Gs(h:Wk Z s.heap l J)(q:Q (.ref s.heap.objs.size) {s with heap:=s.heap.push (Jq Z l)}):wpAny (model prog w) A (pyIter<|.ref l) Q E s:=by
 cases Z with
 |false=>exact jo h q
 |true=>exact wpAny_pyIter_tuple h q
def Wk.push(z:Wk Z h l J)(o:Obj):Wk Z (h.push o) l J:=by
 cases Z with
 |false=>exact Heap.IsList.push z o
 |true=>exact Heap.IsTuple.push z o
end
abbrev zg1(h:Heap)(t1:Bool)(l1:Addr):Heap:=h.push (Jq t1 l1)
abbrev zg2(h:Heap)(t1:Bool)(l1:Addr)(t2:Bool)(l2:Addr):Heap:=(zg1 h t1 l1).push (Jq t2 l2)
abbrev zg3(h:Heap)(t1:Bool)(l1:Addr)(t2:Bool)(l2:Addr):Heap:=(zg2 h t1 l1 t2 l2).push {cls:=.type "tuple",data:=.seq #[.ref h.objs.size,.ref (zg1 h t1 l1).objs.size]}
abbrev zg4(h:Heap)(t1:Bool)(l1:Addr)(t2:Bool)(l2:Addr):Heap:=(zg3 h t1 l1 t2 l2).push {cls:=.type "tuple",data:=.seq #[.none,.none]}
abbrev zg5(h:Heap)(t1:Bool)(l1:Addr)(t2:Bool)(l2:Addr):Heap:=(zg4 h t1 l1 t2 l2).push {cls:=.type "zip",data:=.fields #[.none,.bool false,.bool false,.ref (zg2 h t1 l1 t2 l2).objs.size,.ref (zg3 h t1 l1 t2 l2).objs.size]}
def Bh(J L:Bool)(Z G:Addr)(M ys:kC):
  Meets (Builtin.«zip.__new__» ⟨[.type "zip",.ref Z,.ref G],[]⟩) (λ_ R s=>Wk J s.heap Z M/\Wk L s.heap G ys/\
   R (.ok<|.ret<|.ref (zg4 s.heap J Z L G).objs.size) {s with heap:=zg5 s.heap J Z L G}):=
 .of_wp λO w A R s h=>by
  obtain⟨D,g,d,N,T⟩:=s;obtain⟨S,I,h⟩:=h;have B:=sub_zip;have F:Wk J (Shared.heap ⟨D,g,d,N,T⟩) Z M:=S;have E:Wk L (Shared.heap ⟨D.push<|Jq J Z,g,d,N,T⟩) G ys:=Wk.push I _
  wp_walk using Gs F,Gs E
  exact⟨_,Y,h⟩
def SJ(tp:Bool)(h:Heap)(i l:Addr)(k:Nat):Prop:=match tp with
 |false=>h.IsListIter i l k
 |true=>h.IsTupleIter i l k
def SJ.si(z:SJ Z h i l k)(c:Wk Z h l J):SI Z h i l k J:=by
 cases Z <;> exact⟨z,c⟩
def SI.sj(z:SI Z h i l k J):SJ Z h i l k:=by
 cases Z <;> exact z.1
def SJ.to(z:SJ Z h i l k)(J:∀o,h.get? i=some o->G.get? i=some o):SJ Z G i l k:=by
 cases Z with
 |false=>exact let⟨o,e,r⟩:=z;⟨o,J _ e,r⟩
 |true=>exact let⟨o,e,r⟩:=z;⟨o,J _ e,r⟩
def SJ.obj(z:SJ Z h i l k):∃o,h.get? i=some o/\∀v,o.data≠.cell v:=by
 cases Z with
 |false=>obtain⟨o,e,_,d⟩:=z;exact⟨o,e,λv q=>by rw[d]at q;cases q⟩
 |true=>obtain⟨o,e,_,d⟩:=z;exact⟨o,e,λv q=>by rw[d]at q;cases q⟩
def SJ.new(Z:Bool)(h:Heap)(l:Addr):SJ Z (h.push<|Jq Z l) h.objs.size l 0:=by
 cases Z <;> exact⟨_,ZW _ Y,Y,Y⟩
structure ZR(h:Heap)(z TI TO:Addr)(t1:Bool)(i1 l1:Addr)(t2:Bool)(i2 l2:Addr)(k:Nat):Prop where
 zip:IsZip h z TI TO .none
 its:IsPair h TI (.ref i1) (.ref i2)
 out:∃a b,IsPair h TO a b
 one:SJ t1 h i1 l1 k
 two:SJ t2 h i2 l2 k
section
def Oc(S:Wk t1 s.heap l1 B)(I:Wk t2 s.heap l2 ys)(h:∀g,ZR g (s.heap.objs.size+4) (s.heap.objs.size+2) (s.heap.objs.size+3) t1 s.heap.objs.size l1 t2 (s.heap.objs.size+1) l2 0->
   (∀c o,s.heap.get? c=some o->g.get? c=some o)->Q (.ref<|s.heap.objs.size+4) {s with heap:=g}):wpAny (model prog w) A (call (.type "zip") [.ref l1,.ref l2]) Q E s:=by
 refine callType_new F.called_zip (by decide) (F.typeCall_zip_2 _ _) (F.newCall_zip_2 _ _) (λJ=>F.args_object_init_3 J _ _) F.entry_zip_new (Bh t1 t2 l1 l2 B ys) ⟨S,I,?_⟩;have M:(zg1 s.heap t1 l1).objs.size=s.heap.objs.size+1:=vi ..;have L:(zg2 s.heap t1 l1 t2 l2).objs.size=s.heap.objs.size+2:=by rw[vi,M]
 have G:(zg3 s.heap t1 l1 t2 l2).objs.size=s.heap.objs.size+3:=by rw[vi,L]
 have T:(zg4 s.heap t1 l1 t2 l2).objs.size=s.heap.objs.size+4:=by rw[vi,G]
 have Z:(zg5 s.heap t1 l1 t2 l2).get? (zg4 s.heap t1 l1 t2 l2).objs.size=some _:=ZW _ rfl;have N:(zg5 s.heap t1 l1 t2 l2).get? (zg3 s.heap t1 l1 t2 l2).objs.size=some _:=ZD _<|ZW _ rfl;have O:(zg5 s.heap t1 l1 t2 l2).get? (zg2 s.heap t1 l1 t2 l2).objs.size=some _:=ZD _<|ZD _<|ZW _ rfl;have R:SJ t2 (zg5 s.heap t1 l1 t2 l2) (zg1 s.heap t1 l1).objs.size l2 0:=(SJ.new t2 (zg1 s.heap t1 l1) l2).to λo q=>ZD _<|ZD _<|ZD _ q;have D:SJ t1 (zg5 s.heap t1 l1 t2 l2) s.heap.objs.size l1 0:=(SJ.new t1 s.heap l1).to λo q=>ZD _<|ZD _<|ZD _<|ZD _ q;show _/\_;rw[L,G,T]at Z;rw[M,L]at O;rw[G]at N;rw[M]at R;rw[T]
 exact⟨⟨_,Z,Y⟩,h _ ⟨Z,O,⟨_,_,N⟩,D,R⟩ λc o q=>
  ZD _ (ZD _<|ZD _<|ZD _<|ZD _ q)⟩
end
def Sq(K:W.Frag)(tp:Bool)(H:Hp)(l:Addr)(xs:kF):Prop:=match tp with
 |false=>SqL K H l xs
 |true=>SqT K H l xs
def Inv.sq(I:Inv X G U H s)(h:Sq X.K J H l L):∃Z:kj,Vals L Z/\Wk J s.heap l Z.toArray:=by
 cases J with
 |false=>
  obtain⟨Z,r,p,_⟩:=I.list h;exact⟨Z,r,p.isList⟩
 |true=>
  obtain⟨Z,r,p,_⟩:=I.tuple h;exact⟨Z,r,p⟩
def Inv.sq_inj(I:Inv X J U H s)(h:Sq X.K Z H l L)(G:Sq X.K Z H l ys):L=ys:=by
 cases Z with
 |false=>exact I.list_inj h G
 |true=>exact I.tuple_inj h G
def Wk.lt(z:Wk Z h l J):l<h.objs.size:=by
 cases Z with
 |false=>obtain⟨_,e,_⟩:=z;exact ZN e
 |true=>obtain⟨_,e,_⟩:=z;exact ZN e
def Itz(K:W.Frag)(t1:Bool)(l1:Addr)(t2:Bool)(l2:Addr):It:=
  ⟨λi H=>∃J Z x y,Sq K t1 H l1 J/\Sq K t2 H l2 Z/\J[i]?=some x/\Z[i]?=some y,
   λi H v G=>∃p x y,v=.ref p/\H p=none/\G=upd H p (.tup [x,y])/\(∀J,Sq K t1 H l1 J->J[i]?=some x)/\∀Z,Sq K t2 H l2 Z->Z[i]?=some y,
   λi H=>∃J Z,Sq K t1 H l1 J/\Sq K t2 H l2 Z/\(J.length<=i\/Z.length<=i)⟩
def Il:bootBuiltins "zip"=some (.type "zip"):=by decide +kernel
def Inv.turnedL{ch:kA}(I:Inv X Z U H s)(k:∀b o,b∉ch->s.heap.get? b=some o->O.get? b=some o)(f:∀b∈ch,UL X Z H b):
  Inv X Z U H {s with heap:=O,toks:=t'}:=by
 have L:∀b u,H b=some u->b∉ch:=λb u e z=>by rw[(f b z).1]at e;cases e
 have M:X.env.locals∉ch:=λz=>(f _ z).2.1 rfl;refine I.step (g':=s.gens) (d':=s.drawn) (ch:=ch) (λb G=>⟨(f b G).2.2.2.1,(f b G).2.1,(f b G).2.2.2.2.1,(f b G).2.2.2.2.2⟩) (λb o _ _ J e _=>k b o J e) (λb o _ _ J e _=>⟨o.slots,k b o J e⟩) (λ_ _ _ _ n=>n)
  (λb o J e=>⟨o,k b o J e⟩) (λ_ _ e=>e) (λ_ _ _ e=>e) (λb R e=>⟨#[],by rw[e];simp⟩) (λm N=>?_) (λb u e=>?_) I.bare
 .obtain ⟨o,es,ep,ho,r⟩:=N
  exact⟨o,es,ep,k _ o M ho,r⟩
 .refine (I.hok b u e).stay (λc v J q=>k c v ?_ q) (λ_ q=>q) λ_ _ q=>q
  rcases J with z|z
  .rw [z];exact L b u e
  .exact L c _ z
def C7{a b c d x:Addr}(h:x∈ [a,b,c,d]):x=a\/x=b\/x=c\/x=d:=by simpa using h
def KJ{P:Program}{w:World}{K:W.Frag}{F:kP}{x1}{pos:Pos}{z TI TO M L l1 l2:Addr}{t1 t2:Bool}(D:ZipApart z TI TO M L l1 l2):
  Turn P w K (.Tuple F x1 pos) (Itz K t1 l1 t2 l2) [z,TO,M,L,TI] z (λi h=>ZR h z TI TO t1 M l1 t2 L l2 i) where
 mem:=by simp
 obj:=λi h Z b J=>by
  have q:b=z\/b=TO\/b=M\/b=L\/b=TI:=by simpa using J
  rcases q with q|q|q|q|q <;> rw[q]
  .exact ⟨_,Z.zip,λv e=>nomatch e⟩
  .obtain ⟨a,b,e⟩:=Z.out
   exact⟨_,e,λv e=>nomatch e⟩
  .exact Z.one.obj
  .exact Z.two.obj
  .exact ⟨_,Z.its,λv e=>nomatch e⟩
 keep:=λi h h' Z k=>⟨k z (by simp) _ Z.zip,k TI (by simp) _ Z.its,let⟨a,b,e⟩:=Z.out;⟨a,b,k TO (by simp) _ e⟩,Z.one.to λo e=>k M (by simp) o e,Z.two.to λo e=>k L (by simp) o e⟩
 item:=by
  intro X hP hw hK hc i G s U H E I Q Z hg;subst hP hw hK;obtain⟨xs,ys,x,y,C,S,hx,hy⟩:=hg;obtain⟨T,r,t⟩:=I.sq C;obtain⟨R,u,j⟩:=I.sq S;obtain⟨p,J1,d⟩:=r.get hx;obtain⟨m,Z9,c⟩:=u.get hy;refine Os D ⟨Z.zip,Z.its,Z.out,Z.one.si t,Z.two.si j⟩ (x:=p) (y:=m) (by simpa using J1) (by simpa using Z9) λg A hp sz kp=>?_
  have f:∀b∈ [z,TO,M,L],UL X G H b:=λb J=>Q b (by
   rcases C7 J with q|q|q|q <;> rw[q] <;> simp)
  have Z8:∀b o,b ∉ [z,TO,M,L]->s.heap.get? b=some o->g.get? b=some o:=λb o J e=>kp b o (λq=>J<|by simp[q]) (λq=>J<|by simp[q]) (λq=>J<|by simp[q]) (λq=>J<|by simp[q]) e;have I1:Inv X G U H {s with heap:=g}:=I.turnedL (t':=s.toks) Z8 f;have hn:H s.heap.objs.size=none:=I.hok.fresh<|ZF _;have O:z<s.heap.objs.size:=ZN Z.zip;exists _,Y;refine wpAny_letOwnedTupleGo_zip (s:={s with heap:=g}) A.zip λg2 z2 N=>?_
  have I2:Inv X G U H {s with heap:=g2}:=I1.turnedL (s:={s with heap:=g}) (t':=s.toks) (ch:=[z]) (λb o J e=>N.extBut b o (λq=>J<|by simp[q]) e) λb J=>by
   have q:b=z:=by simpa using J
   rw[q];exact f z<|by simp
  have l:IsPair g2 s.heap.objs.size p m:=N.extBut _ _ (vH O) hp;have I3:Inv X G U (upd H s.heap.objs.size<|.tup [x,y]) {s with heap:=g2}:=I2.retrack hn (I.fpOk (ZF _) hn) ⟨sl 2,[p,m],.cons d<|.cons c .nil,⟨_,l,rfl,rfl,_,rfl⟩⟩
  have n:∀b∈ [z,TO,M,L,TI],b<s.heap.objs.size:=λb J=>by
   have q:b=z\/b=TO\/b=M\/b=L\/b=TI:=by simpa using J
   rcases q with q|q|q|q|q <;> rw[q]
   .exact O
   .obtain ⟨a,b,e⟩:=Z.out
    exact ZN e
   .obtain ⟨o,e,_⟩:=Z.one.obj
    exact ZN e
   .obtain ⟨o,e,_⟩:=Z.two.obj
    exact ZN e
   .exact ZN Z.its
  refine⟨.ref s.heap.objs.size,_,I3,Y,⟨_,x,y,Y,hn,Y,λzs h=>by rw[I.sq_inj h C];exact hx,λzs h=>by rw[I.sq_inj h S];exact hy⟩,?_,λb J=>?_⟩
  .refine ⟨z2,N.extBut _ _ D.TIz A.its,let⟨a,b,e⟩:=A.out;⟨a,b,N.extBut _ _ D.TOz e⟩,A.one.sj.to λo e=>N.extBut _ _ D.i1z e,A.two.sj.to λo e=>N.extBut _ _ D.i2z e⟩
  .rw [Yd (Zc<|n b J)]
   exact(Q b J).1
 done:=by
  intro X hP hw hK hc i G s U H E I Q Z hg;subst hP hw hK;obtain⟨xs,ys,C,S,B⟩:=hg;obtain⟨T,r,t⟩:=I.sq C;obtain⟨R,u,j⟩:=I.sq S;have e1:=r.length;have e2:=u.length;refine Q9 (I.ok.hd hc) D ⟨Z.zip,Z.its,Z.out,Z.one.si t,Z.two.si j⟩ ?_ λg kp=>⟨Y,?_⟩
  .rcases B with q|q
   .exact .inl (by simp;omega)
   .exact .inr (by simp;omega)
  .refine I.turnedL (t':=s.toks) (ch:=[z,TO,M,L]) (λb o J e=>kp b o (λq=>J<|by simp[q]) (λq=>J<|by simp[q]) (λq=>J<|by simp[q]) (λq=>J<|by simp[q]) e) λb J=>Q b (by
    rcases C7 J with q|q|q|q <;> rw[q] <;> simp)
 self:=λ_ _ _ _ _ Z h=>wpAny_pyIter_zip Z.zip h
def zap(n J Z:Nat)(M:J<n)(L:Z<n):ZipApart (n+4) (n+2) (n+3) n (n+1) J Z:=by
 constructor <;> (intro q;have G:(_:Nat)=_:=q;omega)
def yN(K:W.Frag)(ta:TA):TI:=λU H R=>ta U H λN Z=>∃a b G J M L,N=[.ref a,.ref b]/\Sq K G Z a M/\Sq K J Z b L/\R (Itz K G a J b) Z
def Sz(f:Gl X "zip")(d:X.mg "zip"=none)(w:PA X [a,b] ta)(c:starEach [a,b] X.env=[(false,eval a X.env),(false,eval b X.env)]:=by rfl)(G:starEach [b] X.env=[(false,eval b X.env)]:=by rfl):PI X (.Tuple elts x1 tpos) (.Call (.Name "zip" p) [a,b] [] pos) (yN X.K ta):=by
 intro J s U H R I h;refine Call_ (W5 I f d Il<|vS (thn (w pos J s U H _ I h) λx Z ⟨n,A,M,j,O⟩=>?_) (by rw[c,G]) (by rw[G];rfl));obtain⟨l1,l2,t1,t2,o,l,e,O,y,q⟩:=O;subst e;obtain⟨u,i,rfl,C,N⟩:=vals2 j;cases C;cases N;obtain⟨F,Q,B⟩:=M.sq O;obtain⟨E,P,T⟩:=M.sq y;have m:=B.lt;have t:=T.lt;refine Oc B T λg S k=>?_;refine wpAny_pyIter_zip (s:={Z with heap:=g}) S.zip ?_;have D:=zap _ _ _ m t;have r:Inv X J U A {Z with heap:=g}:=M.kept (t':=Z.toks) k;refine⟨_,[Z.heap.objs.size+4,Z.heap.objs.size+3,Z.heap.objs.size,Z.heap.objs.size+1,Z.heap.objs.size+2],_,_,A,Y,r,KJ D,S,λb v=>?_,q⟩
 have L:Z.heap.objs.size<=b:=by
  have z:b=Z.heap.objs.size+4\/b=Z.heap.objs.size+3\/b=Z.heap.objs.size\/b=Z.heap.objs.size+1\/b=Z.heap.objs.size+2:=by simpa using v
  rcases z with z|z|z|z|z <;> rw[z] <;> first|exact ZF _|exact jU _ _
 exact M.fpOk L<|M.hok.fresh L
inductive Dat where
 |non|bl (b:Bool)|int (i:Int)|str (x:Str)|tup (ds:List Dat)|lst (ds:List Dat)
abbrev kK:=List Dat
mutual
def Has(H:Hp):V->Dat->Prop
 |v,.non=>v=.non
 |v,.bl b=>v=.bl b
 |v,.int i=>v=.int i
 |v,.str x=>v=.str x
 |v,.tup ds=>∃a xs,v=.ref a/\H a=some (.tup xs)/\HasL H xs ds
 |v,.lst ds=>∃a xs,v=.ref a/\H a=some (.lst xs)/\HasL H xs ds
def HasL(H:Hp):List V->List Dat->Prop
 |[],[]=>True
 |x::xs,d::ds=>Has H x d/\HasL H xs ds
 |_::_,[]=>False
 |[],_::_=>False
end
mutual
theorem Has.mono{H M:Hp}(e:Same H M):∀(d:Dat){v:V},Has H v d->Has M v d
 |.non,_,h=>by unfold Has at h |-;exact h
 |.bl _,_,h=>by unfold Has at h |-;exact h
 |.int _,_,h=>by unfold Has at h |-;exact h
 |.str _,_,h=>by unfold Has at h |-;exact h
 |.tup ds,_,h=>by
  unfold Has at h |-;obtain⟨a,Z,L,G,J⟩:=h;exact⟨a,Z,L,e _ _ G,HasL.mono e ds J⟩
 |.lst ds,_,h=>by
  unfold Has at h |-;obtain⟨a,Z,L,G,J⟩:=h;exact⟨a,Z,L,e _ _ G,HasL.mono e ds J⟩
theorem HasL.mono{H G:Hp}(e:Same H G):∀(Z:kK){J:kF},HasL H J Z->HasL G J Z
 |[],[],h=>by unfold HasL;trivial
 |[],_::_,h=>by unfold HasL at h;exact h.elim
 |_::_,[],h=>by unfold HasL at h;exact h.elim
 |d::Z,x::J,h=>by
  unfold HasL at h |-;exact⟨Has.mono e d h.1,HasL.mono e Z h.2⟩
end
theorem HasL.length:∀{J:kK}{Z:kF},HasL H Z J->Z.length=J.length
 |[],[],h=>rfl
 |[],_::_,h=>by unfold HasL at h;exact h.elim
 |_::_,[],h=>by unfold HasL at h;exact h.elim
 |d::J,x::Z,h=>by
  unfold HasL at h;rw[Zd,Zd,HasL.length h.2]
theorem HasL.get:∀{J:kK}{Z:kF}{i:Nat}{x:V},HasL H Z J->Z[i]?=some x->∃d,J[i]?=some d/\Has H x d
 |[],[],i,x,h,e=>by simp at e
 |[],_::_,_,_,h,_=>by unfold HasL at h;exact h.elim
 |_::_,[],_,_,h,_=>by unfold HasL at h;exact h.elim
 |d::J,y::Z,0,x,h,e=>by
  unfold HasL at h;have G:some y=some x:=e;cases G;exact⟨d,Y,h.1⟩
 |d::J,y::Z,i+1,x,h,e=>by
  unfold HasL at h;exact HasL.get (i:=i) h.2 e
theorem HasL.append:∀{G J:kK}{Z ys:kF},HasL H Z G->HasL H ys J->HasL H (Z++ ys) (G++ J)
 |[],_,[],_,_,h=>h
 |[],_,_::_,_,h,_=>by unfold HasL at h;exact h.elim
 |_::_,_,[],_,h,_=>by unfold HasL at h;exact h.elim
 |d::G,J,x::Z,ys,h,h'=>by
  unfold HasL at h;show HasL H (x::(Z++ ys)) (d::(G++ J));unfold HasL;exact⟨h.1,HasL.append h.2 h'⟩
abbrev Z5:=@HasL.append
def HasL.one(h:Has H x d):HasL H [x] [d]:=by
 unfold HasL;exact⟨h,by unfold HasL;trivial⟩
abbrev Z3:=@HasL.one
def HasL.nil:HasL H [] []:=by unfold HasL;trivial
abbrev Z4:=@HasL.nil
def HasL.cons(h:Has H x d)(t:HasL H Z J):HasL H (x::Z) (d::J):=by
 unfold HasL;exact⟨h,t⟩
abbrev Z2:=@HasL.cons
mutual
theorem Has.inj{H:Hp}:∀(d Z:Dat){v:V},Has H v d->Has H v Z->d=Z
 |.non,Z,_,h,h'=>by
  unfold Has at h;subst h;cases Z <;> unfold Has at h' <;> first|(obtain⟨_,_,q,_⟩:=h';cases q;done)|rfl|(cases h';done)
 |.bl _,Z,_,h,h'=>by
  unfold Has at h;subst h;cases Z <;> unfold Has at h' <;> first|(obtain⟨_,_,q,_⟩:=h';cases q;done)|(cases h';done)|(cases h';rfl)
 |.int _,Z,_,h,h'=>by
  unfold Has at h;subst h;cases Z <;> unfold Has at h' <;> first|(obtain⟨_,_,q,_⟩:=h';cases q;done)|(cases h';done)|(cases h';rfl)
 |.str _,Z,_,h,h'=>by
  unfold Has at h;subst h;cases Z <;> unfold Has at h' <;> first|(obtain⟨_,_,q,_⟩:=h';cases q;done)|(cases h';done)|(cases h';rfl)
 |.tup ds,Z,_,h,h'=>by
  unfold Has at h;obtain⟨a,B,T,L,R⟩:=h;subst T
  cases Z with
  |tup M=>
   unfold Has at h';obtain⟨b,O,G,J,N⟩:=h';cases G;rw[L]at J;cases J;rw[HasL.inj ds M R N]
  |lst M=>
   unfold Has at h';obtain⟨b,O,G,J,N⟩:=h';cases G;rw[L]at J;cases J
  |_=>unfold Has at h';cases h'
 |.lst ds,Z,_,h,h'=>by
  unfold Has at h;obtain⟨a,B,T,L,R⟩:=h;subst T
  cases Z with
  |lst M=>
   unfold Has at h';obtain⟨b,O,G,J,N⟩:=h';cases G;rw[L]at J;cases J;rw[HasL.inj ds M R N]
  |tup M=>
   unfold Has at h';obtain⟨b,O,G,J,N⟩:=h';cases G;rw[L]at J;cases J
  |_=>unfold Has at h';cases h'
theorem HasL.inj{H:Hp}:∀(G J:kK){Z:kF},HasL H Z G->HasL H Z J->G=J
 |[],[],_,_,_=>rfl
 |[],_::_,Z,h,h'=>by
  cases Z <;> unfold HasL at h h'
  .exact h'.elim
  .exact h.elim
 |_::_,[],Z,h,h'=>by
  cases Z <;> unfold HasL at h h'
  .exact h.elim
  .exact h'.elim
 |d::G,e::J,Z,h,h'=>by
  cases Z with
  |nil=>unfold HasL at h;exact h.elim
  |cons x Z=>
   unfold HasL at h h';rw[Has.inj d e h.1 h'.1,HasL.inj G J h.2 h'.2]
end
theorem OC{K:W.Frag}:∀{d:Dat},Has H v d->Xq K H v (.type<|match d with|.non=>"NoneType"|.bl _=>"bool"|.int _=>"int"|.str _=>"str"|.tup _=>"tuple"|.lst _=>"list")
 |.non,h=>by unfold Has at h;subst h;exact .non
 |.bl _,h=>by unfold Has at h;subst h;exact .bl _
 |.int _,h=>by unfold Has at h;subst h;exact .int _
 |.str _,h=>by unfold Has at h;subst h;exact .str _
 |.tup _,h=>by unfold Has at h;obtain⟨a,Z,rfl,e,_⟩:=h;exact .tup e
 |.lst _,h=>by unfold Has at h;obtain⟨a,Z,rfl,e,_⟩:=h;exact .lst e
end L2
namespace L2
open PySem
def UK{K:PySem.W.Frag}{a:Addr}{xs:kF}{g:TG}{L:TS}{D:Ends}{U:St}{H:Hp}(Z:kH)(S:Z 0 U H)(A:∀i U H,i<=xs.length->Z i U H->SqL K H a xs)(F:∀(B:kI)(R:VK) i x U H,xs[i]?=some x->Z i U H->g x U H fun σ2 G=>L {nx:=Z<|i+1,rt:=R,bk:=B,ct:=Z (i+1)} σ2 G)(I:∀U H,Z xs.length U H->D.nx U H):
  ∃W:Nat->Nat->St->Hp->Prop,(∃m,W 0 m U H)/\∀i m U H,W i m U H->
   ((Itl K a).stop i H/\D.nx U H)\/((Itl K a).go i H/\∃N:kI,(∀O J,N O J->∃M,M<m/\W (i+1) M O J)/\∀x J,(Itl K a).yld i H x J->g x U J fun σ2 G=>L {D with nx:=N,ct:=N,bk:=D.nx} σ2 G):=
 OL Z S A (λi x U H E p=>F _ _ i x U H E p) I
def RX{K:PySem.W.Frag}{a:Addr}{xs:kF}{g:TG}{L:TS}{D:Ends}{U:St}{H:Hp}(Z:kH)(S:Z 0 U H)(A:∀i U H,i<=xs.length->Z i U H->SqT K H a xs)(F:∀(B:kI)(R:VK) i x U H,xs[i]?=some x->Z i U H->g x U H fun σ2 G=>L {nx:=Z<|i+1,rt:=R,bk:=B,ct:=Z (i+1)} σ2 G)(I:∀U H,Z xs.length U H->D.nx U H):
  ∃W:Nat->Nat->St->Hp->Prop,(∃m,W 0 m U H)/\∀i m U H,W i m U H->
   ((Itt K a).stop i H/\D.nx U H)\/((Itt K a).go i H/\∃N:kI,(∀O J,N O J->∃M,M<m/\W (i+1) M O J)/\∀x J,(Itt K a).yld i H x J->g x U J fun σ2 G=>L {D with nx:=N,ct:=N,bk:=D.nx} σ2 G):=
 FA Z S A (λi x U H E p=>F _ _ i x U H E p) I
def ON{G:Int}{n:Nat}{g:TG}{M:TS}{D:Ends}{U:St}{H:Hp}(Z:kH)(S:Z 0 U H)(F:∀(B:kI)(R:VK) i U H,i<n->Z i U H->g (.int<|G+i) U H fun σ2 L=>M {nx:=Z<|i+1,rt:=R,bk:=B,ct:=Z (i+1)} σ2 L)(I:∀U H,Z n U H->D.nx U H):
  ∃W:Nat->Nat->St->Hp->Prop,(∃m,W 0 m U H)/\∀i m U H,W i m U H->
   ((Itr G n).stop i H/\D.nx U H)\/((Itr G n).go i H/\∃N:kI,(∀T J,N T J->∃O,O<m/\W (i+1) O T J)/\∀x J,(Itr G n).yld i H x J->g x U J fun σ2 L=>M {D with nx:=N,ct:=N,bk:=D.nx} σ2 L):=
 ME Z S (λi U H A p=>F _ _ i U H A p) I
def Yh.none{P:Program}{w:World}{K:W.Frag}{M:Str->Option Value}{base:Heap}{O:CXT}{k:Nat}{f:Addr}{N:FuncData}{L:kq}{G:Sp}(h:∀Z H Q E,G Z H Q E->False):Yh P w K M base O k f N L G:=
 ⟨λZ H Q E q=>(h _ _ _ _ q).elim,λA J s H args R Z Q E _ _ _ _ q=>(h _ _ _ _ q).elim⟩
def Y7{N P:kq}{Z:Scope}(h:Z.kind=.function/\Z.isCoroutine=false/\Z.isGenerator=false/\N.Nodup/\N.take P.length=P/\(∀x∈P,Z.names.lookup x=some .local\/Z.names.lookup x=some .cell)/\∀y∈Z.names,y.2≠.free:=by decide +kernel):Yn N P Z:=
 ⟨h.1,h.2.1,h.2.2.1,h.2.2.2.1,h.2.2.2.2.1,h.2.2.2.2.2.1,h.2.2.2.2.2.2⟩
end L2
namespace K4
open PySem L2
def top(i:Nat):Stmt:=PySem.Challenge.pw_wantway_k65_no_rows.main.body.getD i<|.Pass ⟨0,0,0,0⟩
abbrev B7:Stmt:=top 2
abbrev sKP:Stmt:=top 6
abbrev K8:Stmt:=top 7
abbrev DM:Stmt:=top 8
abbrev DJ:Stmt:=top 9
abbrev K9:Stmt:=top 10
abbrev Ms:Stmt:=top 11
abbrev DI:Stmt:=top 12
abbrev Tv:Stmt:=top 13
abbrev LB:Stmt:=top 14
abbrev LA:Stmt:=top 15
abbrev Mu:Stmt:=top 35
abbrev DQ:Stmt:=top 36
abbrev B4:Stmt:=top 37
abbrev XW:Stmt:=top 43
abbrev LC:Stmt:=inClass XW 0
abbrev DE:Stmt:=inClass XW 1
abbrev K6:Stmt:=inClass XW 2
abbrev B8:Stmt:=inClass XW 3
abbrev B9:Stmt:=inClass XW 4
abbrev Wx:Stmt:=inClass XW 5
abbrev Tq:Stmt:=inClass XW 7
abbrev Mt:Stmt:=inClass XW 9
abbrev Tu:Stmt:=inClass XW 10
abbrev Wl:Stmt:=top 50
abbrev Dc:Stmt:=inClass Wl 0
abbrev DV:Stmt:=inClass Wl 1
abbrev De:Stmt:=inClass Wl 2
abbrev Mx:Stmt:=inClass Wl 3
abbrev Mw:Stmt:=inClass Wl 4
abbrev Mv:Stmt:=inClass Wl 5
abbrev DZ:Stmt:=inClass Wl 6
abbrev Da:Stmt:=inClass Wl 7
abbrev DU:Stmt:=inClass Wl 10
abbrev Dg:Stmt:=top 52
abbrev Wz:Stmt:=top 53
abbrev Wy:Stmt:=top 54
abbrev G4:Stmt:=top 3
abbrev Ts:Stmt:=top 4
abbrev Mq:Stmt:=top 44
abbrev Mj:Stmt:=top 51
abbrev Tt:Stmt:=top 59
abbrev My:Stmt:=top 60
abbrev Gk:Stmt:=top 58
abbrev Mn:Stmt:=inClass Gk 0
abbrev B5:Stmt:=inClass Gk 1
abbrev B6:Stmt:=inClass Gk 2
abbrev Mo:Stmt:=inClass Gk 3
abbrev Mp:Stmt:=inClass Gk 4
abbrev Tr:Stmt:=inClass Gk 5
abbrev Ml:Stmt:=inClass Gk 6
abbrev Mm:Stmt:=inClass Gk 7
abbrev Mr:Stmt:=inClass (top 29) 0
abbrev Lx:Stmt:=top 62
abbrev Lu:Stmt:=top 63
abbrev D1:Stmt:=top 64
abbrev NF:Stmt:=top 65
abbrev D5:Stmt:=top 66
abbrev Lw:Stmt:=top 67
abbrev NE:Stmt:=top 68
abbrev D6:Stmt:=top 69
abbrev E1:Stmt:=top 70
abbrev Ly:Stmt:=top 71
abbrev Ls:Stmt:=top 72
abbrev E2:Stmt:=top 73
abbrev Lr:Stmt:=top 74
abbrev Lv:Stmt:=top 75
abbrev NG:Stmt:=top 76
abbrev RT:Stmt:=top 77
abbrev RU:Stmt:=top 78
abbrev RS:Stmt:=top 79
abbrev RQ:Stmt:=top 80
abbrev W6:Stmt:=top 81
abbrev D2:Stmt:=top 82
abbrev D7:Stmt:=top 83
abbrev WD:Stmt:=top 84
abbrev Xk:Stmt:=top 85
abbrev WE:Stmt:=top 86
abbrev D4:Stmt:=top 87
end K4
namespace L2
open PySem PySem.Spec PyProof.Rows
def Wb(K:W.Frag)(T:String):W.kitOne K (.type T) (.type T)=some true:=by
 unfold W.kitOne;rw[Zn (by simp)]
def Ab{K:W.Frag}:∀{a b:String},(a,b)∈ [("NoneType","bool"),("NoneType","str"),("NoneType","int"),("NoneType","tuple"),("NoneType","list"),("int","bool"),("int","str"),("int","tuple"),("int","list"),("str","bool"),("str","int"),("str","tuple"),("str","list"),("bool","str"),("bool","tuple"),("bool","list"),("tuple","bool"),("tuple","str"),("tuple","int"),("tuple","list"),("list","bool"),("list","str"),("list","int"),("list","tuple")]->W.kitOne K (.type a) (.type b)=some false:=by
 intro a b h;simp only[Zb,Prod.mk.injEq,vP,or_false]at h;rcases h with⟨rfl,rfl⟩|⟨rfl,rfl⟩|⟨rfl,rfl⟩|⟨rfl,rfl⟩|⟨rfl,rfl⟩|⟨rfl,rfl⟩|⟨rfl,rfl⟩|⟨rfl,rfl⟩|⟨rfl,rfl⟩|⟨rfl,rfl⟩|⟨rfl,rfl⟩|⟨rfl,rfl⟩|⟨rfl,rfl⟩|⟨rfl,rfl⟩|⟨rfl,rfl⟩|⟨rfl,rfl⟩|⟨rfl,rfl⟩|⟨rfl,rfl⟩|⟨rfl,rfl⟩|⟨rfl,rfl⟩|⟨rfl,rfl⟩|⟨rfl,rfl⟩|⟨rfl,rfl⟩|⟨rfl,rfl⟩ <;> kernel_rfl
def VY:bootBuiltins "tuple"=some (.type "tuple"):=by decide +kernel
def Vm:bootBuiltins "list"=some (.type "list"):=by decide +kernel
def MI:bootBuiltins "str"=some (.type "str"):=by decide +kernel
def Ip:bootBuiltins "int"=some (.type "int"):=by decide +kernel
def EK:bootBuiltins "bool"=some (.type "bool"):=by decide +kernel
def WI:bootBuiltins "dict"=some (.type "dict"):=by decide +kernel
def J0:bootBuiltins "isinstance"=some (.builtin "isinstance"):=by decide +kernel
def X5:bootBuiltins "all"=some (.builtin "all"):=by decide +kernel
def GQ:bootBuiltins "max"=some (.builtin "max"):=by decide +kernel
def RG(R:Gl X "isinstance")(O:X.mg "isinstance"=none)(J:Gl X x)(Z:X.mg x=none)(M:bootBuiltins x=some (.type T))(he:PE X e te)(N:x≠"__name__":=by decide)(G:(x==("__debug__":Str))=false:=by decide)(L:starEach [e,.Name x p'] X.env=(false,eval e X.env)::starEach [.Name x p'] X.env:=by rfl):
  PE X (.Call (.Name "isinstance" p) [e,.Name x p'] [] pos) (tCB (CT X.K)<|V6 te<|V6 (tC<|.ty T) Gn):=
 Yr Od R O J0 (pa2 he (Es J Z M rfl N G) L) (he:=L)
def tyD:Dat->String
 |.non=>"NoneType"|.bl _=>"bool"|.int _=>"int"|.str _=>"str"|.tup _=>"tuple"|.lst _=>"list"
def Ak{K:W.Frag}(h:Has H v d):Xq K H v (.type<|tyD d):=by
 have q:=OC (K:=K) h;cases d <;> exact q
end L2
namespace L2
open PySem
mutual
def Dat.dep:Dat->Nat
 |.tup ds=>1+Dat.deps ds
 |.lst ds=>1+Dat.deps ds
 |_=>0
def Dat.deps:List Dat->Nat
 |[]=>0
 |d::ds=>max d.dep<|Dat.deps ds
end
theorem Dat.deps_get:∀{ds:kK}{i:Nat}{d:Dat},ds[i]?=some d->d.dep<=Dat.deps ds
 |[],i,d,e=>by simp at e
 |a::ds,0,d,e=>by
  have Z:some a=some d:=e;cases Z;unfold Dat.deps;exact vF _ _
 |a::ds,i+1,d,e=>by
  have q:=Dat.deps_get (ds:=ds) (i:=i) e;unfold Dat.deps;exact ZZ q<|vw _ _
mutual
def Dat.wid:Dat->Nat
 |.tup ds=>max ds.length<|Dat.wids ds
 |.lst ds=>max ds.length<|Dat.wids ds
 |_=>0
def Dat.wids:List Dat->Nat
 |[]=>0
 |d::ds=>max d.wid<|Dat.wids ds
end
def Vf{c A B:Prop}[Decidable c](Z:c)(h:A):if c then A else B:=by
 rw[Zn Z];exact h
def Y6{c A B:Prop}[Decidable c](Z:¬c)(h:B):if c then A else B:=by
 rw[Zo Z];exact h
def JN(n:Nat)(U:n<sizeLine)(G:Nat->List V->Hp->Prop)(I:G 0 [] H)(M:∀i Z H,G i Z H->Z.length=i)(O:∀i Z H,i<n->G i Z H->J.go i H)(L:∀Z H,G n Z H->J.stop n H)(E:∀i Z H x N (R:V->Hp->Prop),i<n->G i Z H->J.yld i H x N->(∀v T,G (i+1) (Z++[v]) T->R v T)->g x s0 N λB S=>te B S R)(F:∀Z H p,G n Z H->H p=none->Q (.ref p) (upd H p<|.lst Z)):
  Rh J g te s0 Q H:=by
 refine⟨λi m Z H=>m=n-i/\i<=n/\G i Z H,⟨n,by simp,Za _,I⟩,?_⟩;rintro i m Z H ⟨rfl,X,p⟩;have C:=M i Z H p;exists by omega
 by_cases hlt:i<n
 .exact .inr ⟨O i Z H hlt p,λx N y=>E i Z H x N _ hlt p y λv T D=>⟨n-(i+1),by omega,rfl,hlt,D⟩⟩
 .have e:i=n:=by omega
  subst e;exact .inl ⟨L Z H p,λa A=>F Z H a p A⟩
def Ye(h:H p=none)(o:HO):Same H (upd H p o):=λb u q=>by rw[Yd (Yj q h)];exact q
@[elab_as_elim] theorem up_in {motive:Hp->Prop}(h:H l=none) (o:HO) (k:∀H',Same H H'->H' l=some o->motive H'):motive (upd H l o):=k _ (Ye h o) Ya
structure Blt(mg:Str->Option Value):Prop where
 len:mg "len"=none
 isi:mg "isinstance"=none
 bool:mg "bool"=none
 str:mg "str"=none
 int:mg "int"=none
 tuple:mg "tuple"=none
 list:mg "list"=none
 dict:mg "dict"=none
 all:mg "all"=none
 zip:mg "zip"=none
 max:mg "max"=none
 range:mg "range"=none
 sorted:mg "sorted"=none
end L2
namespace K4
open PySem L2
section
def UE:GK 2 (QO K 2<|XZ (Vp 0)<|XZ (Vp 1) BP):=
 Ar (E9 (VM (i:=0)<|by decide) (E9 (VM (i:=1)<|by decide) As (λ_ _ _ _ _ h z=>h _ _ z) (λx _ _ _ _ h z=>by
  match x,z with
  |[],z=>exact h _ _ z)) (λ_ _ _ _ _ h z=>h _ _ z) (λx _ _ _ _ h z=>by
  match x,z with
  |[v],z=>exact h _ _ z))
end
end K4
namespace L2
open PySem
inductive W where
 |non|tag (x:Str)|pair (a b:W)
def W.dat:W->Dat
 |.non=>.non
 |.tag x=>.str x
 |.pair a b=>.tup [a.dat,b.dat]
def OD(h:Has H v (W.pair a b).dat):∃p x y,v=.ref p/\H p=some (.tup [x,y])/\Has H x a.dat/\Has H y b.dat:=by
 unfold W.dat Has at h;obtain⟨p,L,rfl,M,Z⟩:=h
 match L,Z with
 |[x,y],Z=>
  unfold HasL at Z;obtain⟨N,J⟩:=Z;unfold HasL at J;exact⟨p,x,y,Y,M,N,J.1⟩
 |[],Z=>unfold HasL at Z;exact Z.elim
 |[x],Z=>unfold HasL at Z;obtain⟨_,J⟩:=Z;unfold HasL at J;exact J.elim
 |_::_::_::_,Z=>
  unfold HasL at Z;obtain⟨_,J⟩:=Z;unfold HasL at J;obtain⟨_,G⟩:=J;unfold HasL at G;exact G.elim
def E6:Has H .non W.non.dat:=by unfold W.dat Has;rfl
def Id{Z:kz}(h:(Z.map V.int)[i]?=some x):∃n r,x=.int n/\Z.drop i=n::r/\Z.drop (i+1)=r/\n∈Z:=by
 rw[ZG]at h
 cases e:Z[i]? with
 |none=>rw[e]at h;cases h
 |some n=>
  rw[e]at h;cases h;obtain⟨J,q⟩:=ZE.mp e;exact⟨n,Z.drop<|i+1,rfl,by rw[List.drop_eq_getElem_cons J,q],rfl,ZH e⟩
def TY(ws:kz):Dat:=.tup<|ws.map Dat.int
def W.dep:W->Nat
 |.non=>0
 |.tag _=>0
 |.pair a b=>1+max a.dep b.dep
theorem BN:∀{J:kz}{Z:kF},HasL H Z (J.map Dat.int)->Z=J.map V.int
 |[],[],_=>rfl
 |[],_::_,h=>by unfold HasL at h;exact h.elim
 |_::_,[],h=>by rw[ZT]at h;unfold HasL at h;exact h.elim
 |n::J,x::Z,h=>by
  rw[ZT]at h;unfold HasL at h;obtain⟨G,L⟩:=h;unfold Has at G;rw[G,BN L];rfl
theorem BJ:∀(Z:kz),HasL H (Z.map V.int)<|Z.map Dat.int
 |[]=>Z4
 |n::Z=>Z2 (by unfold Has;rfl)<|BJ Z
def NL(h:Has H v (TY J)):∃a,v=.ref a/\H a=some (.tup<|J.map V.int):=by
 unfold TY Has at h;obtain⟨a,L,rfl,Z,G⟩:=h;rw[BN G]at Z;exact⟨a,Y,Z⟩
def MU(h:H a=some (.tup<|ws.map V.int)):Has H (.ref a) (TY ws):=by
 unfold TY Has;exact⟨a,_,Y,h,BJ ws⟩
def VR(h:Has H v (.lst J)):∃a Z,v=.ref a/\H a=some (.lst Z)/\HasL H Z J:=by unfold Has at h;exact h
def VD(h:H a=some (.lst Z))(t:HasL H Z J):Has H (.ref a) (.lst J):=by unfold Has;exact⟨a,Z,Y,h,t⟩
def But(p:Addr)(H H':Hp):Prop:=∀b,b≠p->H' b=H b
def But.refl(p:Addr)(H:Hp):But p H H:=λ_ _=>rfl
def But.trans(a:But p H J)(b:But p J Z):But p H Z:=λc h=>(b c h).trans<|a c h
def But.upd{p:Addr}{H:Hp}(o:HO):But p H (upd H p o):=λ_ h=>Yd h
end L2
namespace K4
open PySem L2
end K4
namespace L2
open PySem
def alpha(o:Nat):Str:=⟨((List.range 26).map (o + ·)).toArray⟩
def one(c:Nat):Str:=⟨#[c]⟩
def txt(cs:List Nat):Str:=⟨cs.toArray⟩
def MO(o:Nat):(alpha o).length=26:=by show((List.range 26).map (o + ·)).toArray.size=26;simp
def Oj(o:Nat)(j:Int)(J:0<=j)(Z:j<26):atI (alpha o).cps.toList j=some (o+j.toNat):=by
 obtain⟨n,rfl⟩:∃n:Nat,j=n:=⟨j.toNat,by omega⟩;refine Yw ?_;show(((List.range 26).map (o + ·)).toArray.toList)[n]?=_;rw[List.toList_toArray,ZG,qc (by omega)]
 rfl
def EV(a b:List Nat):txt a++ txt b=txt (a++ b):=by
 show(⟨a.toArray++ b.toArray⟩:Str)=⟨(a++ b).toArray⟩;simp
def Ow(h:txt a=txt b):a=b:=by
 have q:a.toArray=b.toArray:=congrArg Str.cps h;simpa using q
def Xs(a:List Nat):(txt a).length=a.length:=by show a.toArray.size=a.length;simp
structure Wds(o:Nat)(ys:List Str):Prop where
 nd:ys.Nodup
 len:∀y∈ys,1<=y.length/\y.length<=8
 abc:∀y∈ys,∀c∈y.cps.toList,o<=c/\c<o+26
def SameB(p:Addr)(H H':Hp):Prop:=∀b o,b≠p->H b=some o->H' b=some o
def SameB.refl(p:Addr)(H:Hp):SameB p H H:=λ_ _ _ h=>h
def SameB.trans(a:SameB p H J)(b:SameB p J Z):SameB p H Z:=λc o n h=>b c o n<|a c o n h
def But.sb(a:But p H Z):SameB p H Z:=λb o n h=>(a b n).trans h
def Same.sb(a:Same H Z):SameB p H Z:=λb o _ h=>a b o h
def SameB.free(a:SameB p H Z)(n:r≠p)(h:Z r=none):H r=none:=by
 cases e:H r with
 |none=>rfl
 |some o=>rw[a r o n e]at h;cases h
def SameB.put(a:SameB p H Z)(h:H r=none):SameB p H (upd Z r o):=λb u n e=>by
 rw[Yd (Yj e h)];exact a b u n e
def Ug(a b:Str):(a++ b).length=a.length+b.length:=by
 show(a.cps++ b.cps).size=a.cps.size+b.cps.size;simp
end L2
namespace K4
open PySem L2
end K4
namespace L2
open PySem PySem.Spec PyProof.Rows SeqAt
mutual
def Dat.pq:Dat->Dat->Bool
 |.non,.non=>true
 |.bl a,.bl b=>a==b
 |.bl a,.int b=>(if a then 1 else 0)==b
 |.int a,.bl b=>a==(if b then 1 else 0)
 |.int a,.int b=>a==b
 |.str a,.str b=>a==b
 |.tup a,.tup b=>Dat.pqs a b
 |.lst a,.lst b=>Dat.pqs a b
 |_,_=>false
def Dat.pqs:List Dat->List Dat->Bool
 |[],[]=>true
 |a::as,b::bs=>Dat.pq a b && Dat.pqs as bs
 |_,_=>false
end
mutual
theorem Dat.pq_self:∀a:Dat,a.pq a=true
 |.non=>by unfold Dat.pq;rfl
 |.bl b=>by unfold Dat.pq;exact beq_self_eq_true b
 |.int i=>by unfold Dat.pq;exact beq_self_eq_true i
 |.str x=>by unfold Dat.pq;exact beq_self_eq_true x
 |.tup ds=>by unfold Dat.pq;exact Dat.pqs_self ds
 |.lst ds=>by unfold Dat.pq;exact Dat.pqs_self ds
theorem Dat.pqs_self:∀a:kK,Dat.pqs a a=true
 |[]=>by unfold Dat.pqs;rfl
 |a::as=>by unfold Dat.pqs;rw[Dat.pq_self a,Dat.pqs_self as];rfl
end
theorem G7:∀(J Z:kK),((List.range<|min J.length Z.length).all (λi=>((J[i]?).getD .non).pq<|(Z[i]?).getD .non) && J.length==Z.length)=Dat.pqs J Z
 |[],[]=>by unfold Dat.pqs;rfl
 |[],_::_=>by unfold Dat.pqs;simp
 |_::_,[]=>by unfold Dat.pqs;simp
 |a::J,b::Z=>by
  have ih:=G7 J Z;have e:min (a::J).length (b::Z).length=min J.length Z.length+1:=by simp only[Zd];omega
  rw[e,List.range_succ_eq_map,qg,jE];unfold Dat.pqs;rw[<-ih];have G:((a::J).length==(b::Z).length)=(J.length==Z.length):=by simp
  rw[G,Bool.and_assoc]
  rfl
def PY(h:Z.length=J.length):(List.range Z.length).all (λi=>((Z[i]?).getD .non).pq<|(J[i]?).getD .non)=Dat.pqs Z J:=by
 rw[<-G7 Z J,h];simp
def Sy(h:J.length≠Z.length):Dat.pqs J Z=false:=by
 rw[<-G7 J Z];simp[h]
def U8{s:Shared}(G:HOk P w H s.heap)(h:H a=some (.tup J)):∃Z:kj,Vals J Z/\s.heap.IsTuple a Z.toArray:=by
 obtain⟨_,Z,r,p⟩:=(show Va P w H s.heap a (.tup J)from G a _ h);exact⟨Z,r,p.is⟩
def XM{s:Shared}(G:HOk P w H s.heap)(h:H a=some (.lst J)):∃Z:kj,Vals J Z/\s.heap.IsList a Z.toArray:=by
 obtain⟨_,Z,n,r,p⟩:=(show Va P w H s.heap a (.lst J)from G a _ h);exact⟨Z,r,_,p,Y,n,Y⟩
structure Cmp(A:Around)(s:Shared)(u v:Value)(b:Bool):Prop where
 eq:EqAt A s u v b
 rc:RcAt A s u v b
 ne:RcNeAt A s u v (!b)
def FK{A:Around}{E Q:kK}{G ys:kF}{J Z:kj}(ih:∀(F q:Dat){x y:V}{u v:Value},F.dep<=m->Has H x F->Has H y q->RelV x u->RelV y v->EqAt A s u v (F.pq q))(b:Dat.deps E<=m)(O:HasL H G E)(N:HasL H ys Q)(r:Vals G J)(I:Vals ys Z):∀j (P:j<J.toArray.size) (X:j<Z.toArray.size),EqAt A s J.toArray[j] Z.toArray[j] ((λi=>((E[i]?).getD .non).pq<|(Q[i]?).getD .non) j):=by
 intro j P X;have l:=r.length;have w:=I.length;rw[ZM]at P X;have U:j<G.length:=by omega
 have S:j<ys.length:=by omega
 obtain⟨d,C,c⟩:=O.get<|ZC U;obtain⟨f,D,B⟩:=N.get<|ZC S;obtain⟨g,T,M⟩:=r.get<|ZC U;obtain⟨t,R,L⟩:=I.get<|ZC S;have p:J.toArray[j]=g:=by have z:=(ZE.mp T).2;simpa using z
 have k:Z.toArray[j]=t:=by have z:=(ZE.mp R).2;simpa using z
 dsimp only;rw[p,k,C,D];have e:=Dat.deps_get C;exact ih d f (by omega) c B M L
def Be(U:HOk P w H s.heap)(n:Nat)(ih:∀m,n=m+1->∀(C S:Dat)(A:Around){x y:V}{u v:Value},C.dep<=m->Has H x C->Has H y S->RelV x u->RelV y v->Vj (m+1) A->Cmp A s u v (C.pq S))(C S:Dat)(A:Around){x y:V}{u v:Value}(hn:C.dep<=n)(B:Has H x C)(Z:Has H y S)(j:RelV x u)(L:RelV y v)(i:Vj (n+1) A):Cmp A s u v (C.pq S):=by
 have G:=i.units0
 cases C with
 |non=>
  unfold Has at B;subst B;cases j
  cases S with
  |non=>unfold Has at Z;subst Z;cases L;unfold Dat.pq;exact⟨.same _,.none_none,.none_none⟩
  |bl b=>unfold Has at Z;subst Z;cases L;unfold Dat.pq;exact⟨.none_bool _,.none_bool _,.none_bool _⟩
  |int b=>unfold Has at Z;subst Z;obtain⟨Q,rfl⟩:=L;unfold Dat.pq;exact⟨.none_int _ _,.none_int _ _,.none_int _ _⟩
  |str b=>unfold Has at Z;subst Z;obtain⟨Q,rfl⟩:=L;unfold Dat.pq;exact⟨.none_str _ _,.none_str _ _,.none_str _ _⟩
  |tup O=>unfold Has at Z;obtain⟨p,X,rfl,R,_⟩:=Z;cases L;obtain⟨N,r,J⟩:=U8 U R;unfold Dat.pq;exact⟨.none_tuple J G,.none_tuple J G,.none_tuple J G⟩
  |lst O=>unfold Has at Z;obtain⟨p,X,rfl,R,_⟩:=Z;cases L;obtain⟨N,r,J⟩:=XM U R;unfold Dat.pq;exact⟨.none_list J G,.none_list J G,.none_list J G⟩
 |bl a=>
  unfold Has at B;subst B;cases j
  cases S with
  |non=>unfold Has at Z;subst Z;cases L;unfold Dat.pq;exact⟨.bool_none _,.bool_none _,.bool_none _⟩
  |bl b=>unfold Has at Z;subst Z;cases L;unfold Dat.pq;exact⟨.bool_bool _ _,.bool_bool _ _,.bool_bool _ _⟩
  |int b=>unfold Has at Z;subst Z;obtain⟨Q,rfl⟩:=L;unfold Dat.pq;exact⟨.bool_int _ _ _,.bool_int _ _ _,.bool_int _ _ _⟩
  |str b=>unfold Has at Z;subst Z;obtain⟨Q,rfl⟩:=L;unfold Dat.pq;exact⟨.bool_str _ _ _,.bool_str _ _ _,.bool_str _ _ _⟩
  |tup O=>unfold Has at Z;obtain⟨p,X,rfl,R,_⟩:=Z;cases L;obtain⟨N,r,J⟩:=U8 U R;unfold Dat.pq;exact⟨.bool_tuple _ J G,.bool_tuple _ J G,.bool_tuple _ J G⟩
  |lst O=>unfold Has at Z;obtain⟨p,X,rfl,R,_⟩:=Z;cases L;obtain⟨N,r,J⟩:=XM U R;unfold Dat.pq;exact⟨.bool_list _ J G,.bool_list _ J G,.bool_list _ J G⟩
 |int a=>
  unfold Has at B;subst B;obtain⟨t,rfl⟩:=j
  cases S with
  |non=>unfold Has at Z;subst Z;cases L;unfold Dat.pq;exact⟨.int_none _ _,.int_none _ _,.int_none _ _⟩
  |bl b=>unfold Has at Z;subst Z;cases L;unfold Dat.pq;exact⟨.int_bool _ _ _,.int_bool _ _ _,.int_bool _ _ _⟩
  |int b=>unfold Has at Z;subst Z;obtain⟨Q,rfl⟩:=L;unfold Dat.pq;exact⟨.int_int _ _ _ _,.int_int _ _ _ _,.int_int _ _ _ _⟩
  |str b=>unfold Has at Z;subst Z;obtain⟨Q,rfl⟩:=L;unfold Dat.pq;exact⟨.int_str _ _ _ _,.int_str _ _ _ _,.int_str _ _ _ _⟩
  |tup O=>unfold Has at Z;obtain⟨p,X,rfl,R,_⟩:=Z;cases L;obtain⟨N,r,J⟩:=U8 U R;unfold Dat.pq;exact⟨.int_tuple _ _ J G,.int_tuple _ _ J G,.int_tuple _ _ J G⟩
  |lst O=>unfold Has at Z;obtain⟨p,X,rfl,R,_⟩:=Z;cases L;obtain⟨N,r,J⟩:=XM U R;unfold Dat.pq;exact⟨.int_list _ _ J G,.int_list _ _ J G,.int_list _ _ J G⟩
 |str a=>
  unfold Has at B;subst B;obtain⟨t,rfl⟩:=j
  cases S with
  |non=>unfold Has at Z;subst Z;cases L;unfold Dat.pq;exact⟨.str_none _ _,.str_none _ _,.str_none _ _⟩
  |bl b=>unfold Has at Z;subst Z;cases L;unfold Dat.pq;exact⟨.str_bool _ _ _,.str_bool _ _ _,.str_bool _ _ _⟩
  |int b=>unfold Has at Z;subst Z;obtain⟨Q,rfl⟩:=L;unfold Dat.pq;exact⟨.str_int _ _ _ _,.str_int _ _ _ _,.str_int _ _ _ _⟩
  |str b=>unfold Has at Z;subst Z;obtain⟨Q,rfl⟩:=L;unfold Dat.pq;exact⟨.str_str _ _ _ _,.str_str _ _ _ _,.str_str _ _ _ _⟩
  |tup O=>unfold Has at Z;obtain⟨p,X,rfl,R,_⟩:=Z;cases L;obtain⟨N,r,J⟩:=U8 U R;unfold Dat.pq;exact⟨.str_tuple _ _ J G,.str_tuple _ _ J G,.str_tuple _ _ J G⟩
  |lst O=>unfold Has at Z;obtain⟨p,X,rfl,R,_⟩:=Z;cases L;obtain⟨N,r,J⟩:=XM U R;unfold Dat.pq;exact⟨.str_list _ _ J G,.str_list _ _ J G,.str_list _ _ J G⟩
 |tup D=>
  unfold Has at B;obtain⟨p,xs,rfl,R,F⟩:=B;cases j;obtain⟨N,r,J⟩:=U8 U R
  cases S with
  |non=>unfold Has at Z;subst Z;cases L;unfold Dat.pq;exact⟨.tuple_none J G,.tuple_none J G,.tuple_none J G⟩
  |bl b=>unfold Has at Z;subst Z;cases L;unfold Dat.pq;exact⟨.tuple_bool _ J G,.tuple_bool _ J G,.tuple_bool _ J G⟩
  |int b=>unfold Has at Z;subst Z;obtain⟨Q,rfl⟩:=L;unfold Dat.pq;exact⟨.tuple_int _ _ J G,.tuple_int _ _ J G,.tuple_int _ _ J G⟩
  |str b=>unfold Has at Z;subst Z;obtain⟨Q,rfl⟩:=L;unfold Dat.pq;exact⟨.tuple_str _ _ J G,.tuple_str _ _ J G,.tuple_str _ _ J G⟩
  |lst O=>unfold Has at Z;obtain⟨q,X,rfl,h,_⟩:=Z;cases L;obtain⟨T,g,M⟩:=XM U h;unfold Dat.pq;exact⟨.tuple_list J M G,.tuple_list J M G,.tuple_list J M G⟩
  |tup O=>
   unfold Has at Z;obtain⟨c,X,rfl,I,E⟩:=Z;cases L;obtain⟨T,g,M⟩:=U8 U I;have l1:=F.length;have l2:=E.length;have l3:=r.length;have l4:=g.length;have dd:Dat.deps D+1<=n:=by unfold Dat.dep at hn;omega
   obtain⟨m,rfl⟩:∃m,n=m+1:=⟨n-1,by omega⟩;have d:=FK (A:=A.in1) (λC S {x y u v} z B Z j L=>(ih m rfl C S A.in1 z B Z j L i.in1).eq) (show Dat.deps D<=m by omega) F E r g;have f:N.toArray.size=D.length:=by rw[ZM];omega
   have o:T.toArray.size=O.length:=by rw[ZM];omega
   have q:=RcAt.tuples (A:=A) J M G d;have k:=RcNeAt.tuples (A:=A) J M G d;rw[f,o,G7]at q k;have e0:(Dat.tup D).pq (Dat.tup O)=Dat.pqs D O:=by conv=>lhs;unfold Dat.pq
   rw[e0];refine⟨?_,q,k⟩
   by_cases e:p=c
   .subst e
    rw[R]at I;cases I;rw[HasL.inj D O F E,Dat.pqs_self];exact EqAt.same _
   .exact EqAt.of_refs e q
 |lst D=>
  unfold Has at B;obtain⟨p,xs,rfl,R,F⟩:=B;cases j;obtain⟨N,r,J⟩:=XM U R
  cases S with
  |non=>unfold Has at Z;subst Z;cases L;unfold Dat.pq;exact⟨.list_none J G,.list_none J G,.list_none J G⟩
  |bl b=>unfold Has at Z;subst Z;cases L;unfold Dat.pq;exact⟨.list_bool _ J G,.list_bool _ J G,.list_bool _ J G⟩
  |int b=>unfold Has at Z;subst Z;obtain⟨Q,rfl⟩:=L;unfold Dat.pq;exact⟨.list_int _ _ J G,.list_int _ _ J G,.list_int _ _ J G⟩
  |str b=>unfold Has at Z;subst Z;obtain⟨Q,rfl⟩:=L;unfold Dat.pq;exact⟨.list_str _ _ J G,.list_str _ _ J G,.list_str _ _ J G⟩
  |tup O=>unfold Has at Z;obtain⟨q,X,rfl,h,_⟩:=Z;cases L;obtain⟨T,g,M⟩:=U8 U h;unfold Dat.pq;exact⟨.list_tuple J M G,.list_tuple J M G,.list_tuple J M G⟩
  |lst O=>
   unfold Has at Z;obtain⟨c,X,rfl,I,E⟩:=Z;cases L;obtain⟨T,g,M⟩:=XM U I;have l1:=F.length;have l2:=E.length;have l3:=r.length;have l4:=g.length;have dd:Dat.deps D+1<=n:=by unfold Dat.dep at hn;omega
   obtain⟨m,rfl⟩:∃m,n=m+1:=⟨n-1,by omega⟩;have d:=FK (A:=A.in1) (λC S {x y u v} z B Z j L=>(ih m rfl C S A.in1 z B Z j L i.in1).eq) (show Dat.deps D<=m by omega) F E r g;have f:N.toArray.size=D.length:=by rw[ZM];omega
   have o:T.toArray.size=O.length:=by rw[ZM];omega
   have e0:(Dat.lst D).pq (Dat.lst O)=Dat.pqs D O:=by conv=>lhs;unfold Dat.pq
   rw[e0]
   have l:RcAt A s (.ref p) (.ref c) (Dat.pqs D O)/\RcNeAt A s (.ref p) (.ref c) (!Dat.pqs D O):=by
    by_cases e:D.length=O.length
    .have q:=RcAt.lists (A:=A) J M (by omega) G d
     have k:=RcNeAt.lists (A:=A) J M (by omega) G d;rw[f,PY e]at q k;exact⟨q,k⟩
    .have z:(N.toArray.size !=T.toArray.size)=true:=by rw[f,o];simp[e]
     rw[Sy e];exact⟨RcAt.lists_lengths (A:=A) J M z G,RcNeAt.lists_lengths (A:=A) J M z G⟩
   refine⟨?_,l.1,l.2⟩
   by_cases e:p=c
   .subst e
    rw[R]at I;cases I;rw[HasL.inj D O F E,Dat.pqs_self];exact EqAt.same _
   .exact EqAt.of_refs e l.1
theorem NR(G:HOk P w H s.heap):∀(n:Nat)(Z J:Dat)(A:Around){x y:V}{u v:Value},Z.dep<=n->Has H x Z->Has H y J->RelV x u->RelV y v->Vj (n+1) A->Cmp A s u v (Z.pq J)
 |0,Z,J,A,_,_,_,_,hn,hx,hy,ru,rv,hr=>Be G 0 (λ_ e=>nomatch e) Z J A hn hx hy ru rv hr
 |n+1,Z,J,A,_,_,_,_,hn,hx,hy,ru,rv,hr=>Be G (n+1) (λ_ e Z J A {_ _ _ _}=>by cases e;exact NR G n Z J A) Z J A hn hx hy ru rv hr
section
def yH(k:Nat):R2:=λx y H Q=>∃d e,Has H x d/\Has H y e/\d.dep<=k/\Q (.bl<|d.pq e) H
def yG(k:Nat):R2:=λx y H Q=>∃d e,Has H x d/\Has H y e/\d.dep<=k/\Q (.bl<|!d.pq e) H
def Dq(L:Vj (k+1) X.A):OpR X (compareOp .Eq) (yH k):=by
 intro Z s U H x y v u Q I G J h;obtain⟨d,e,O,N,M,q⟩:=h;exact(NR I.hok k d e X.A M O N G J L).rc _ _ _ _ ⟨.bl _,H,I,rfl,q⟩
def Xg(L:Vj (k+1) X.A):OpR X (compareOp .NotEq) (yG k):=by
 intro Z s U H x y v u Q I G J h;obtain⟨d,e,O,N,M,q⟩:=h;exact(NR I.hok k d e X.A M O N G J L).ne _ _ _ _ ⟨.bl _,H,I,rfl,q⟩
end
end L2
namespace L2
open PySem PySem.Spec PyProof.Rows
mutual
def Dat.st:Dat->Bool
 |.str _=>true
 |.tup ds=>Dat.sts ds
 |_=>false
def Dat.sts:List Dat->Bool
 |[]=>true
 |d::ds=>d.st && Dat.sts ds
end
end L2
namespace L2
open PySem
inductive Shp where
 |tags (ts:List Str)
 |pair (a b:Str)
abbrev kL:=List (Str×Shp)
def Shp.dat:Shp->Dat
 |.tags ts=>.tup [.str "tags",.tup (ts.map Dat.str)]
 |.pair a b=>.tup [.str "pair",.str a,.str b]
theorem Tb:∀Z:kq,Dat.sts (Z.map Dat.str)=true
 |[]=>by unfold Dat.sts;rfl
 |t::Z=>by rw[ZT];unfold Dat.sts;rw[Tb Z];unfold Dat.st;rfl
theorem Wp:∀Z:kq,Dat.deps (Z.map Dat.str)=0
 |[]=>by unfold Dat.deps;rfl
 |t::Z=>by rw[ZT];unfold Dat.deps;rw[Wp Z];unfold Dat.dep;rfl
theorem Shp.st:∀s:Shp,s.dat.st=true
 |.tags ts=>by simp[Shp.dat,Dat.st,Dat.sts,Tb]
 |.pair a b=>by simp[Shp.dat,Dat.st,Dat.sts]
end L2
namespace K4
open PySem L2
def Wt:(Str.ofString "abcdefghijklmnopqrstuvwxyz")=alpha 97:=by decide +kernel
def MD:(Str.ofString "ABCDEFGHIJKLMNOPQRSTUVWXYZ")=alpha 65:=by decide +kernel
end K4
namespace L2
open PySem
def TK(H H':Hp):Prop:=∀b Z,H b=some (.tup Z)->H' b=some (.tup Z)
def Jv(h:H a=some u)(J:∀Z,u≠.tup Z):TK H (upd H a o):=λb Z e=>by
 rw[Yd (JQ e h λz=>J Z z.symm)];exact e
mutual
theorem UD{H Z:Hp}(b:TK H Z):∀(d:Dat){v:V},d.st=true->Has H v d->Has Z v d
 |.str _,_,_,h=>by unfold Has at h |-;exact h
 |.tup ds,_,t,h=>by
  unfold Has at h |-;obtain⟨a,J,M,L,G⟩:=h;unfold Dat.st at t;exact⟨a,J,M,b _ _ L,VU b ds t G⟩
 |.non,_,t,_=>by unfold Dat.st at t;cases t
 |.bl _,_,t,_=>by unfold Dat.st at t;cases t
 |.int _,_,t,_=>by unfold Dat.st at t;cases t
 |.lst _,_,t,_=>by unfold Dat.st at t;cases t
theorem VU{H H':Hp}(b:TK H H'):∀(Z:kK){J:kF},Dat.sts Z=true->HasL H J Z->HasL H' J Z
 |[],[],_,h=>Z4
 |[],_::_,_,h=>by unfold HasL at h;exact h.elim
 |_::_,[],_,h=>by unfold HasL at h;exact h.elim
 |d::Z,x::J,t,h=>by
  unfold HasL at h;unfold Dat.sts at t;have G:=ju.mp t;exact Z2 (UD b d G.1 h.1)<|VU b Z G.2 h.2
end
def Vx(k:Str×Shp):Dat:=.tup [.str k.1,k.2.dat]
def KK1(top:Nat)(c d:kM)(ahead:kq)(y:Str):Shp->Prop
 |.tags ts=>1<=ts.length/\ts.length<=4/\c y=1+ts.length/\d y=0/\ts.Nodup
 |.pair a b=>a∈ahead/\b∈ahead/\c y=1+c a*c b/\c y<=top/\d y=1+max (d a) (d b)/\d y<=2
def KK(top:Nat)(c d:kM)(ks:kL):Prop:=∀(i:Nat)(y:Str)(s:Shp),ks[i]?=some (y,s)->KK1 top c d ((ks.take i).map (·.1)) y s
def KK1.of(h:KK1 top c d ahead y s)(L:∀z,z∈ahead\/z=y->T z=c z)(G:∀z,z∈ahead\/z=y->d' z=d z):KK1 top T d' ahead y s:=by
 cases s with
 |tags B=>
  obtain⟨J,Z,O,N,M⟩:=h;exact⟨J,Z,(L y<|.inr rfl).trans O,(G y<|.inr rfl).trans N,M⟩
 |pair a b=>
  obtain⟨J,Z,O,N,M,R⟩:=h;exists J,Z,?_,?_,?_
  .rw [L y (.inr rfl),L a<|.inl J,L b (.inl Z)];exact O
  .rw [L y (.inr rfl)];exact N
  .rw [G y (.inr rfl),G a<|.inl J,G b (.inl Z)];exact M
  .rw [G y (.inr rfl)];exact R
def KK.snoc(h:KK top c d J)(O:(J.map (·.1)++[y]).Nodup)(T:KK1 top (λz=>if z=y then n else c z) (λz=>if z=y then m else d z) (J.map (·.1)) y s):KK top (λz=>if z=y then n else c z) (λz=>if z=y then m else d z) (J++[(y,s)]):=by
 have N:∀z∈J.map (·.1),z≠y:=λz Z e=>by
  have q:=jh.mp O;exact q.2.2 z Z y (by simp) e
 intro i G M e
 by_cases hi:i<J.length
 .rw [yk hi]at e
  rw[List.take_append_of_le_length (Zf hi)];have R:G∈J.map (·.1):=ZU.mpr ⟨(G,M),ZH e,rfl⟩
  have L:∀z,z∈(J.take i).map (·.1)\/z=G->z≠y:=λz Z=>by
   rcases Z with Z|Z
   .obtain ⟨k,hk,rfl⟩:=ZU.mp Z
    exact N _<|ZU.mpr ⟨k,Zi hk,rfl⟩
   .rw [Z];exact N _ R
  exact(h i G M e).of (λz Z=>Zo<|L z Z) λz Z=>Zo<|L z Z
 .have hl:i=J.length:=by
   have:=(ZE.mp e).1;rw[ZJ,yn]at this;omega
  subst hl;rw[yp (ZF _),Nat.sub_self]at e;have B:some (y,s)=some (G,M):=e;cases B;rw[List.take_left];exact T
structure KG(ks:List (Str×Shp)):Prop where
 nm:Wds 97 (ks.map (·.1))
 tw:∀(y:Str)(ts:List Str),(y,Shp.tags ts)∈ks->Wds 65 ts
 ap:∀(i j:Nat)(y z:Str)(ts us:List Str)(x:Str),ks[i]?=some (y,.tags ts)->ks[j]?=some (z,.tags us)->x∈ts->x∈us->i=j
 pr:∀(i1 i2:Nat)(y1 y2 a b:Str),ks[i1]?=some (y1,.pair a b)->ks[i2]?=some (y2,.pair a b)->i1=i2
def KG.tags(g:KG J)(h:(y,Shp.tags Z)∈J):Wds 65 Z:=g.tw y Z h
def take_snoc{α:Type}{l:List α}{a:α}(h:l[i]?=some a):l.take (i+1)=l.take i++[a]:=by
 have Z:=(ZE.mp h).1;rw[List.take_succ_eq_append_getElem Z,(ZE.mp h).2]
def X7(h:u D (U.set k<|some v) H):Yg (Bn (tC v)<|Vp k) u D U H:=h
def Wh(Z:kF)(k:Nat)(h:k<=Z.length):XT Z none (some (k:Int))=Z.take k:=by
 unfold XT;rw[HT.sIx_none,HT.sIx_nat,j7,Nat.sub_zero,vh h]
def UA(h:Has H x (Vx (y,s))):∃a v,x=.ref a/\H a=some (.tup [.str y,v])/\Has H v s.dat:=by
 unfold Vx Has at h;obtain⟨a,M,rfl,N,Z⟩:=h
 match M,Z with
 |[u,v],Z=>
  unfold HasL at Z;obtain⟨L,J⟩:=Z;unfold HasL at J;unfold Has at L;subst L;exact⟨a,v,Y,N,J.1⟩
 |[],Z=>unfold HasL at Z;exact Z.elim
 |[x],Z=>unfold HasL at Z;obtain⟨_,J⟩:=Z;unfold HasL at J;exact J.elim
 |_::_::_::_,Z=>unfold HasL at Z;obtain⟨_,J⟩:=Z;unfold HasL at J;obtain⟨_,G⟩:=J;unfold HasL at G;exact G.elim
def Vl(Z:kI)(L:∀J G,Z J G->u D J G)(main:∀N:kI,(∀J G,Z J G->N J G)->t {D with nx:=N} U H):Yg t u D U H:=main _ L
end L2
namespace K4
open PySem L2
end K4
namespace L2
open PySem
def VS(ks:kL)(y:Str):Option Shp:=(ks.find? λk=>decide<|k.1=y).map (·.2)
def VG(ks:kL):Nat->Str->List W
 |0,_=>[]
 |n+1,y=>match VS ks y with
  |none=>[]
  |some (.tags ts)=>.non::ts.map W.tag
  |some (.pair a b)=>.non::(VG ks n a).flatMap λu=>(VG ks n b).map λv=>.pair u v
def JU(h:VS Z y=some s):(y,s)∈Z:=by
 unfold VS at h
 cases e:Z.find? λk=>decide (k.1=y)with
 |none=>rw[e]at h;cases h
 |some k=>
  rw[e]at h;have J:k.2=s:=ZP h;have q:=List.find?_some e;have m:=vb e;have z:k.1=y:=Zr q;rw[<-J,<-z];exact m
def JC(h:y∈Z.map (·.1)):∃s,VS Z y=some s:=by
 obtain⟨k,J,rfl⟩:=ZU.mp h;unfold VS
 cases e:Z.find? λz=>decide (z.1=k.1)with
 |none=>
  have q:=ql.mp e k J;simp at q
 |some z=>exact⟨z.2,Y⟩
def KK.at(h:KK top c d J)(e:VS J y=some s):KK1 top c d (J.map (·.1)) y s:=by
 obtain⟨i,M,N⟩:=jw.mp<|JU e;have q:=h i y s<|by rw[ZC M,N]
 have Z:∀z,z∈(J.take i).map (·.1)->z∈J.map (·.1):=λz G=>by
  obtain⟨k,L,rfl⟩:=ZU.mp G;exact ZU.mpr ⟨k,Zi L,Y⟩
 cases s with
 |tags O=>exact q
 |pair a b=>exact⟨Z a q.1,Z b q.2.1,q.2.2⟩
theorem BR{α:Type}(f:α->List W)(k:Nat):∀(l:List α),(∀a∈l,(f a).length=k)->(l.flatMap f).length=l.length*k
 |[],_=>by simp
 |a::l,h=>by
  rw[qz,ZJ,h a (by simp),BR f k l λb Z=>h b (by simp[Z]),Zd,v0,Nat.add_comm]
theorem Ut(h:KK top c d J):∀(n:Nat)(y:Str),y∈J.map (·.1)->d y<n->(VG J n y).length=c y/\0<c y/\∀u∈VG J n y,u.dep<=d y
 |0,y,_,hd=>Zp hd<|Zu _
 |n+1,y,hy,hd=>by
  obtain⟨s,N⟩:=JC hy;have M:=h.at N;unfold VG;rw[N]
  cases s with
  |tags L=>
   obtain⟨R,O,U,S,_⟩:=M;refine⟨?_,by omega,λu G=>?_⟩
   .show (W.non::L.map W.tag).length=c y
    rw[Zd,ZA];omega
   .have Z:u=.non\/u∈L.map W.tag:=Zb.mp G
    rcases Z with rfl|Z
    .exact Za _
    .obtain ⟨x,_,rfl⟩:=ZU.mp Z
     exact Za _
  |pair a b=>
   obtain⟨R,O,U,S,q,j⟩:=M;have E:=vF (d a)<|d b;have D:=vw (d a)<|d b;obtain⟨A,Q,X⟩:=Ut h n a R (by omega);obtain⟨F,P,C⟩:=Ut h n b O (by omega);refine⟨?_,by omega,λu G=>?_⟩
   .show (W.non::(VG J n a).flatMap λu=>(VG J n b).map λv=>.pair u v).length=c y
    rw[Zd,BR _ (c b) _ (λa _=>by rw[ZA,F]),A];omega
   .have Z:u=.non\/u∈(VG J n a).flatMap λu=>(VG J n b).map λv=>.pair u v:=Zb.mp G
    rcases Z with rfl|Z
    .exact Za _
    .obtain ⟨x,hx,hu2⟩:=List.mem_flatMap.mp Z
     obtain⟨z,I,rfl⟩:=ZU.mp hu2;have B:=X x hx;have T:=C z I;show 1+max x.dep z.dep<=d y;have:=qm.mpr ⟨ZZ B E,ZZ T D⟩;omega
theorem Ue(h:KK top c d Z):∀(n m:Nat)(y:Str),y∈Z.map (·.1)->d y<n->d y<m->VG Z n y=VG Z m y
 |0,_,_,_,h1,_=>Zp h1<|Zu _
 |_+1,0,_,_,_,h2=>Zp h2<|Zu _
 |n+1,m+1,y,hy,h1,h2=>by
  obtain⟨s,J⟩:=JC hy;have M:=h.at J;unfold VG;rw[J]
  cases s with
  |tags N=>rfl
  |pair a b=>
   obtain⟨L,G,B,T,R,O⟩:=M;have E:=vF (d a)<|d b;have D:=vw (d a)<|d b;show(W.non::_)=(W.non::_);rw[Ue h n m a L (by omega) (by omega),Ue h n m b G (by omega) (by omega)]
theorem Rt:∀{J:kq}{Z:kF},HasL H Z (J.map Dat.str)->Z=J.map V.str
 |[],[],_=>rfl
 |[],_::_,h=>by rw[v7]at h;unfold HasL at h;exact h.elim
 |_::_,[],h=>by rw[ZT]at h;unfold HasL at h;exact h.elim
 |t::J,z::Z,h=>by
  rw[ZT]at h;unfold HasL at h;obtain⟨G,L⟩:=h;unfold Has at G;rw[G,Rt L];rfl
def wOf(ks:kL)(n:Nat):Shp->List W
 |.tags ts=>.non::ts.map W.tag
 |.pair a b=>.non::(VG ks n a).flatMap λu=>(VG ks n b).map λv=>.pair u v
def Wn(h:VS Z y=some s):VG Z (n+1) y=wOf Z n s:=by
 conv=>lhs;unfold VG
 rw[h];cases s <;> rfl
def IX{α:Type}(f:α->List W){l:List α}{a:α}(h:l[i]?=some a):(l.take<|i+1).flatMap f=(l.take i).flatMap f++ f a:=by
 rw[take_snoc h,List.flatMap_append];simp
def Xn(h:Has H v (Shp.tags M).dat):∃p l,v=.ref p/\H p=some (.tup [.str "tags",.ref l])/\H l=some (.tup<|M.map V.str):=by
 unfold Shp.dat Has at h;obtain⟨p,T,rfl,B,Z⟩:=h
 match T,Z with
 |[u,v],Z=>
  unfold HasL at Z;obtain⟨O,J⟩:=Z;unfold HasL at J;unfold Has at O;subst O;have G:=J.1;unfold Has at G;obtain⟨l,R,rfl,N,L⟩:=G;have e:R=M.map V.str:=Rt L;rw[e]at N;exact⟨p,l,Y,B,N⟩
 |[],Z=>unfold HasL at Z;exact Z.elim
 |[x],Z=>unfold HasL at Z;obtain⟨_,J⟩:=Z;unfold HasL at J;exact J.elim
 |_::_::_::_,Z=>unfold HasL at Z;obtain⟨_,J⟩:=Z;unfold HasL at J;obtain⟨_,G⟩:=J;unfold HasL at G;exact G.elim
def WG(h:Has H v (Shp.pair a b).dat):∃p,v=.ref p/\H p=some (.tup [.str "pair",.str a,.str b]):=by
 unfold Shp.dat Has at h;obtain⟨p,N,rfl,O,Z⟩:=h
 match N,Z with
 |[u,v,w],Z=>
  unfold HasL at Z;obtain⟨M,J⟩:=Z;unfold HasL at J;obtain⟨J,G⟩:=J;unfold HasL at G;have G:=G.1;unfold Has at M J G;subst M J G;exact⟨p,Y,O⟩
 |[],Z=>unfold HasL at Z;exact Z.elim
 |[x],Z=>unfold HasL at Z;obtain⟨_,J⟩:=Z;unfold HasL at J;exact J.elim
 |[x,y],Z=>unfold HasL at Z;obtain⟨_,J⟩:=Z;unfold HasL at J;obtain⟨_,G⟩:=J;unfold HasL at G;exact G.elim
 |_::_::_::_::_,Z=>unfold HasL at Z;obtain⟨_,J⟩:=Z;unfold HasL at J;obtain⟨_,G⟩:=J;unfold HasL at G;obtain⟨_,L⟩:=G;unfold HasL at L;exact L.elim
theorem Np:∀Z:kq,HasL H (Z.map V.str)<|(Z.map W.tag).map W.dat
 |[]=>Z4
 |t::Z=>Z2 (by show Has H (.str t) (W.dat<|.tag t);unfold W.dat Has;rfl)<|Np Z
end L2
namespace L2
open PySem PySem.Spec PyProof.Rows
section
def Ry(K:W.Frag):R2:=λx y H Q=>∃a b Z,x=.ref a/\y=.ref b/\SqT K H a []/\SqT K H b Z/\Q (.ref b) H
def Pl:OpR X (binaryOp .Add) (Ry X.K):=by
 intro O s U H x y v u Q I E D h;obtain⟨a,b,m,rfl,rfl,z,j,q⟩:=h;cases E;cases D;obtain⟨P,F,S,_⟩:=I.tuple z;obtain⟨Z,g,A,_⟩:=I.tuple j;cases F;obtain⟨⟨p,t,data,sl⟩,R,B,n,T⟩:=id S;obtain⟨⟨k,N,data2,M⟩,J,L,C,G⟩:=id A;simp only at B T L G;subst B T L G;exact concat_meets ⟨_,R,Y⟩ ⟨_,J,Y⟩ noFill_tuple_add seq_tuple_add jW jR (jP _ _)
  (tuple_addW0 a b _ Z.toArray n C t N sl M rfl) ⟨R,J,.ref b,H,I,rfl,q⟩
def Xy:OpR X (binaryOp .Add) (λx y H Q=>Ry X.K x y H Q\/WX X.K x y H Q):=Pl.or Wa
end
def Wg:plainId "dict.update.loop"=true:=by decide +kernel
def BX:entryFor table "dict.update.loop"=some Builtin.«dict.update.loop»:=entryFor_of_fast<|by kernel_rfl
def ye{prog:Program}{w:World}(h₀:Heap)(vs:List (Key×Value))(i:Nat)(v:Value):Prop:=
 ∃a k J Z,v=.ref a/\vs[i]?=some (k,Z)/\h₀.IsTuple a #[J,Z]/\(VT prog w).is k J=true
def Ie(Z:List (Key×Value))(T:(Z.map (·.1)).Nodup)(e:Z[i]?=some (k,u)):stored (Z.take i) k u=Z.take (i+1):=by
 obtain⟨A,F⟩:=ZE.mp e
 have L:(Z.take i).any (λG=>decide<|G.1=k)=false:=by
  rw[Bool.eq_false_iff];intro J;obtain⟨G,B,D⟩:=jT.mp J;have M:G.1=k:=Zr D;obtain⟨j,E,R⟩:=jw.mp B;rw[ZL]at E;rw[List.getElem_take]at R;have N:j<(Z.map (·.1)).length:=by rw[ZA];omega
  have O:i<(Z.map (·.1)).length:=by rw[ZA];omega
  have q:(Z.map (·.1))[j]=(Z.map (·.1))[i]:=by
   rw[jV,jV,R,F,M]
  exact jL.mp T j i N O (by omega) q
 unfold stored;rw[L,qA,e]
 rfl
section
variable{St:Nat->Heap->Prop}
def QS(W:Walks prog w A.in1 I fp wr n P St)(E:vs.length=n)(hsz:vs.length<=sizeLine)(hn:(vs.map (·.1)).Nodup)(hP:∀i v,P i v->ye (prog:=prog) (w:=w) h₀ vs i v)(d:Addr)(U:d∉fp)(hw:∀b o,h₀.get? b=some o->b∉wr/\b≠d)(O:Value):
  ∀(k i:Nat)(s:Shared)(j:Int)(t:Tok),n-i=k->i<=n->St i s.heap->s.heap.DictOf (VT prog w) d (vs.take i)->(∀b o,h₀.get? b=some o->s.heap.get? b=some o)->
  (∀J N,J.DictOf (VT prog w) d vs->(∀b o,b∉wr->b≠d->s.heap.get? b=some o->J.get? b=some o)->R (.ok<|.ret O) {s with heap:=J,toks:=N})->
  codeAny (model prog w) A (.builtin "dict.update.loop" ⟨[.ref d,.ref I,.int j t,O],[]⟩) R s:=by
 have S:d∉wr:=λh=>U<|W.sub _ h;intro k
 induction k with
 |zero=>
  intro i s j t hk hi G y h0 l;have f:i=n:=by omega
  subst f;refine codeAny_builtin BX ?_;rw[Around.under_plainId Wg _];refine Zj (m:=pyNext<|.ref I)<|W.done s _ _ G λJ N Z=>Zj<|Zk<|Zk ?_;refine l J N ?_ λb o M _ e=>Z b o M e;rw[<-E,vj]at y;obtain⟨o,es,ep,p,rest⟩:=y;exact⟨o,es,ep,Z d o S p,rest⟩
 |succ k ih=>
  intro i s j t hk hi G y h0 l;have D:i<n:=by omega
  refine codeAny_builtin BX ?_;rw[Around.under_plainId Wg _];refine Zj (m:=pyNext<|.ref I)<|W.item i s _ _ D G λv J N x T Z=>?_;obtain⟨a,Z8,ku,vu,rfl,ev,ht,F⟩:=hP i v x;have Q:∀b o,h₀.get? b=some o->J.get? b=some o:=λb o e=>Z b o (hw b o e).1<|h0 b o e;obtain⟨o,p,hc,m,hdat⟩:=ht;have B:=Q a o p;have hT:({s with heap:=J,toks:=N}:Shared).TypeIs (.ref a) "tuple":=⟨o,B,hc⟩;refine Zj<|wpAny_holding<|Zj<|wpAny_tryCatch ?_;simp only[Builtin.Dict.pairItems];refine Zj (m:=typeOf<|.ref a)<|js hT ?_;rw[Zn (by decide)];refine Zj<|vJ B hdat<|Zk ?_;show wpAny _ A.in1 (holding [ku,vu]<|dictSet d ku vu) _ _ _
  have r:Heap.DictOf (VT prog w) J d (vs.take i):=by
   obtain⟨o1,es,ep,g,rest⟩:=y;exact⟨o1,es,ep,Z d o1 S g,rest⟩
  refine wpAny_holding<|wpAny_dictSet_pairs (hsz:=by rw[ZL];omega) F r λh2 C L=>?_;rw[Ie vs hn ev]at C;refine Zk ⟨plainId_quiet Wg _,ih (i+1) _ (j+1) 0 (by omega) D (W.frame _ _ _ T λb M o e=>?_) C (λb o e=>?_) λh3 q u c=>?_⟩
  .exact (L.2 b λz=>U<|z ▸ M).trans e
  .exact (L.2 b (hw b o e).2).trans (Q b o e)
  .refine l h3 q u λb o M X e=>c b o M X<|(L.2 b X).trans<|Z b o M e
end
section
def FX(K:W.Frag)(H:Hp)(ts:kA)(kvs:kE):Prop:=ts.length=kvs.length/\∀(i:Nat)(a:Addr)(k:Key)(y:V),ts[i]?=some a->kvs[i]?=some (k,y)->SqT K H a [kV k,y]
theorem N1(h:Heap):∀(L:kA)(Z:kE),L.length=Z.length->(∀(i:Nat)(a:Addr)(k:Key)(y:V),L[i]?=some a->Z[i]?=some (k,y)->∃G J,h.IsTuple a #[G,J]/\RelV (kV k) G/\RelV y J)->
  ∃M,KV Z M/\∀(i:Nat)(a:Addr),L[i]?=some a->∃k G J,M[i]?=some (k,J)/\h.IsTuple a #[G,J]/\RelV (kV k) G
 |[],[],_,_=>⟨[],.nil,λi a e=>by simp at e⟩
 |[],_::_,e,_=>by simp at e
 |_::_,[],e,_=>by simp at e
 |t::L,kv::Z,e,hp=>by
  obtain⟨G,J,D,B,T⟩:=hp 0 t kv.1 kv.2 rfl rfl;obtain⟨M,r,R⟩:=N1 h L Z (by simpa using e) λi a k y F E=>hp (i+1) a k y F E;refine⟨(kv.1,J)::M,.cons ⟨Y,T⟩ r,λi a O=>?_⟩
  cases i with
  |zero=>
   have N:some t=some a:=O;cases N;exact⟨kv.1,G,J,Y,D,B⟩
  |succ i=>exact R i a O
end
end L2
namespace L2
open PySem
def KK.small(h:KK 30 c d G)(L:y∈G.map (·.1)):d y<=2/\c y<=30:=by
 obtain⟨s,M⟩:=JC L;have Z:=h.at M
 cases s with
 |tags B=>obtain⟨T,R,O,J⟩:=Z;omega
 |pair a b=>obtain⟨T,R,O,J,D,N⟩:=Z;exact⟨N,J⟩
end L2
namespace L2
open PySem PySem.Spec PyProof.Rows
section
def QR{i:Nat}{Q:kh}(t:IsEnum s.heap e it i old)(z:SI tp s.heap it l i xs)(nl:l≠it)(hx:xs[i]?=some x)(J:e≠it)(hQ:∀g,IsEnumOut g e it ((i:Int)+1) x s.heap.objs.size->SJ tp g it l (i+1)->g.get? s.heap.objs.size=some {cls:=.type "tuple",data:=.seq #[.int i s.toks,x]}->g.objs.size=s.heap.objs.size+1->
   (∀b o,b≠e->b≠it->s.heap.get? b=some o->g.get? b=some o)->Q (.ref s.heap.objs.size) {s with heap:=g,toks:=s.toks+1}):
  wpAny (model prog w) A (Builtin.«enumerate.__next__» ⟨[.ref e],[]⟩) (λf s'=>∃v,f=.done (.ret v)/\Q v s') E s:=by
 obtain⟨Z,g,d,R,os⟩:=s;refine Zj (m:=field (.ref e) 2)<|Zm t rfl (x:=.ref it) rfl ?_;refine Zj<|Gy z nl hx λU a N=>?_;replace N:Heap.SameBut it Z U:=N;have j:IsEnum U e it i old:=(N.2 e J).trans t;refine Zj (m:=field (.ref e) 3)<|Zm j rfl (x:=rawInt i) rfl ?_;refine Zj (m:=field (.ref e) 4)<|Zm j rfl (x:=.none) rfl ?_;refine Zj (m:=mkInt i)<|wpAny_mkInt ?_;refine Zj (m:=setField (.ref e) 3<|rawInt<|(i:Int)+1)<|yu j (by simp) λS P M=>?_;replace M:Heap.SameBut e U S:=M;replace P:IsEnum S e it ((i:Int)+1) old:=P;refine Zj (m:=setField (.ref e) 4 .none)<|yu P (by simp) λO X L=>?_;replace L:Heap.SameBut e S O:=L;replace X:IsEnum O e it ((i:Int)+1) old:=X;refine Zj (m:=newTuple [.int i R,x])<|wpAny_newTuple ?_;have C:IsEnum (O.push {cls:=.type "tuple",data:=.seq #[.int i R,x]}) e it ((i:Int)+1) old:=ZD _ X;generalize q4:O.push {cls:=.type "tuple",data:=.seq #[.int i R,x]}=g4 at C;have T:O.objs.size=Z.objs.size:=by rw[L.1,M.1,N.1]
 have el:e<Z.objs.size:=ZN t;have t4:g4.get? Z.objs.size=some {cls:=.type "tuple",data:=.seq #[.int i R,x]}:=by rw[<-q4,<-T];exact ZW _ Y
 have z4:g4.objs.size=Z.objs.size+1:=by rw[<-q4,vi,T]
 have k4:∀b o,b≠e->b≠it->Z.get? b=some o->g4.get? b=some o:=λb o G n k=>by
  rw[<-q4];exact ZD _<|L.extBut b o G<|M.extBut b o G<|N.extBut b o n k
 have j4:SJ tp g4 it l (i+1):=by
  rw[<-q4];exact a.sj.to λo ho=>ZD _<|L.extBut _ o (Zq J)<|M.extBut _ o (Zq J) ho
 show wpAny _ _ (Builtin.SmallTypes.ownedTupleIsFree (.ref e) >>=_) _ _ ⟨g4,g,d,R+1,os⟩;rw[T];clear q4 X L P M j N a T O S U;refine Zj (m:=Builtin.SmallTypes.ownedTupleIsFree<|.ref e)<|Zj (m:=field (.ref e) 0)<|Zm C rfl (x:=.none) rfl (Zk ?_);simp only[if_true];refine Zj (jD<|Zj<|Zm C rfl (x:=old) rfl (Zj<|yu C (by simp) λc h F=>?_));replace F:Heap.SameBut e g4 c:=F;replace h:IsEnum c e it ((i:Int)+1) x:=h;refine Zj (m:=Builtin.SmallTypes.ownedTupleHandOut (.ref e)<|.ref Z.objs.size) ?_;simp only[Builtin.SmallTypes.ownedTupleHandOut];refine Zj<|yu h (by simp) λp r D=>?_;replace D:Heap.SameBut e c p:=D;replace r:IsEnumOut p e it ((i:Int)+1) x Z.objs.size:=r;refine yu r (by simp) λI u B=>?_;replace B:Heap.SameBut e p I:=B;replace u:IsEnumOut I e it ((i:Int)+1) x Z.objs.size:=u;have y:∀b o,b≠e->g4.get? b=some o->I.get? b=some o:=λb o G q=>B.extBut b o G<|D.extBut b o G<|F.extBut b o G q;refine Zj<|wpAny_letGo<|Zk ⟨_,rfl,hQ I u (j4.to λo q=>y _ o (Zq J) q) (y _ _ (vH el) t4) (by rw[B.1,D.1,F.1,z4]) λb o G n k=>y b o G<|k4 b o G n k⟩
def P9{i:Nat}(J:IsEnum s.heap e it i old)(z:SI M s.heap it l i L)(N:l≠it)(O:L[i]?=some x)(Z:e≠it)(R:∀g,IsEnumOut g e it ((i:Int)+1) x s.heap.objs.size->SJ M g it l (i+1)->g.get? s.heap.objs.size=some {cls:=.type "tuple",data:=.seq #[.int i s.toks,x]}->g.objs.size=s.heap.objs.size+1->
   (∀b o,b≠e->b≠it->s.heap.get? b=some o->g.get? b=some o)->Q (some<|.ref s.heap.objs.size) {s with heap:=g,toks:=s.toks+1}):wpAny (model prog w) A (pyNext<|.ref e) Q E s:=by
 have G:s.TypeIs (.ref e) "enumerate":=⟨_,J,rfl⟩;simp only[pyNext];exact Zj (jg (wpAny_callSpecial?_slot (name:=Str.ofString "__next__") G jC (vD jC G F.entry_enumerate_next
   (QR J z N O Z λg a b c d k=>Zk<|R g a b c d k) (F.args_enumerate_next_1 _))))
def Az{i:Nat}(N:A.handled=none)(Z:IsEnum s.heap e it i old)(z:SI D s.heap it l i G)(L:G[i]?=none)(R:∀g,Heap.ExtBut it s.heap g->Q none {s with heap:=g}):wpAny (model prog w) A (pyNext<|.ref e) Q E s:=by
 have J:s.TypeIs (.ref e) "enumerate":=⟨_,Z,rfl⟩;simp only[pyNext];refine Zj<|jg<|wpAny_callSpecial?_slot (name:=Str.ofString "__next__") J jC<|vD jC J F.entry_enumerate_next ?_<|F.args_enumerate_next_1 _;refine Zj (m:=field (.ref e) 2)<|Zm Z rfl (x:=.ref it) rfl (Zj<|Bz N z L λg y B ⟨o,M,O⟩=>?_);exact Zj<|wpAny_isInstance (T:="StopIteration") (b:=true) ⟨o,M,O⟩ isSubtype_stop<|Zk<|R _ B
set_option tactic.hygienic true in
def Ic(J:Bool)(l:Addr)(N:kC):Meets (Builtin.«enumerate.__new__» ⟨[.type "enumerate",.ref l],[]⟩) (λ_ R s=>Wk J s.heap l N/\
   R (.ok<|.ret<|.ref (s.heap.push<|Jq J l).objs.size) {s with heap:=(s.heap.push<|Jq J l).push {cls:=.type "enumerate",data:=.fields #[.none,.bool false,.ref s.heap.objs.size,rawInt 0,.none,.none]}}):=
 .of_wp λO w A R s h=>by
  obtain⟨D,g,d,F,I⟩:=s;obtain⟨L,h⟩:=h;have B:=sub_enumerate;have T:Wk J (Shared.heap ⟨D,g,d,F,I⟩) l N:=L
  obtain⟨G,Z,S⟩:∃G,D.get? l=some G/\(∃E n,G.data=.seq E n):=by
   cases J with
   |false=>obtain⟨o,e,_,n,M⟩:=L;exact⟨o,e,_,n,M⟩
   |true=>obtain⟨o,e,_,n,M⟩:=L;exact⟨o,e,_,n,M⟩
  wp_walk using AutoSeq1.wpAny_loadPart' Z
  refine wpAny_stack_any λU=>Zk ?_
  split
  .rename_i c _ _ _ _ _
   cases(c==Value.type "enumerate") <;> (wp_walk using AutoSeq1.wpAny_loadPart' Z,Gs T;exact⟨_,Y,h⟩)
  .wp_walk using AutoSeq1.wpAny_loadPart' Z,Gs T
   exact⟨_,Y,h⟩
def QY(N:Wk Z s.heap l L)(h:∀g,IsEnum g (s.heap.objs.size+1) s.heap.objs.size 0 .none->SJ Z g s.heap.objs.size l 0->(∀c o,s.heap.get? c=some o->g.get? c=some o)->Q (.ref<|s.heap.objs.size+1) {s with heap:=g}):
  wpAny (model prog w) A (call (.type "enumerate") [.ref l]) Q E s:=by
 refine callType_new F.called_enumerate (by decide) (F.typeCall_enumerate_1 _) (F.newCall_enumerate_1 _) (λG=>F.args_object_init_2 G _) F.entry_enumerate_new (Ic Z l L) ⟨N,?_⟩;have O:(s.heap.push<|Jq Z l).objs.size=s.heap.objs.size+1:=vi ..;have J:((s.heap.push<|Jq Z l).push {cls:=.type "enumerate",data:=.fields #[.none,.bool false,.ref s.heap.objs.size,rawInt 0,.none,.none]}).get? (s.heap.push<|Jq Z l).objs.size=some _:=ZW _ rfl;have M:SJ Z ((s.heap.push<|Jq Z l).push {cls:=.type "enumerate",data:=.fields #[.none,.bool false,.ref s.heap.objs.size,rawInt 0,.none,.none]}) s.heap.objs.size l 0:=(SJ.new Z s.heap l).to λo q=>ZD _ q;show _/\_;rw[O]at J |-;exact⟨⟨_,J,Y⟩,h _ J M λc o q=>ZD _<|ZD _ q⟩
end
structure ER(h:Heap)(e it:Addr)(tp:Bool)(l:Addr)(k:Nat):Prop where
 enu:∃old,IsEnum h e it k old
 one:SJ tp h it l k
def Ite(K:W.Frag)(tp:Bool)(l:Addr):It:=
 ⟨λi H=>∃Z x,Sq K tp H l Z/\Z[i]?=some x,λi H v J=>∃r x,v=.ref r/\H r=none/\J=upd H r (.tup [.int (i:Nat),x])/\∀Z,Sq K tp H l Z->Z[i]?=some x,λi H=>∃Z,Sq K tp H l Z/\Z.length<=i⟩
def Ox{P:Program}{w:World}{K:W.Frag}{O:kP}{x1}{pos:Pos}{e it l:Addr}{a:Bool}(n1:e≠it)(n2:l≠it):Turn P w K (.Tuple O x1 pos) (Ite K a l) [e,it] e (λi h=>ER h e it a l i) where
 mem:=by simp
 obj:=λi h J b Z=>by
  have q:b=e\/b=it:=by simpa using Z
  rcases q with q|q <;> rw[q]
  .obtain ⟨L,N⟩:=J.enu
   exact⟨_,N,λv e=>nomatch e⟩
  .exact J.one.obj
 keep:=λi h h' J k=>⟨let⟨L,N⟩:=J.enu;⟨L,k e (by simp) _ N⟩,J.one.to λo q=>k it (by simp) o q⟩
 item:=by
  intro X u p r hc i G s U H E I M J f;subst u p r;obtain⟨xs,x,T,hx⟩:=f;obtain⟨m,C,D⟩:=I.sq T;obtain⟨F,c,S⟩:=C.get hx;obtain⟨L,B⟩:=J.enu;have R:e<s.heap.objs.size:=ZN B;refine P9 B (J.one.si D) n2 (x:=F) (by simpa using c) n1 λg ho hj ht sz t=>?_;have y:∀b o,b ∉ [e,it]->s.heap.get? b=some o->g.get? b=some o:=λb o Z q=>t b o (λz=>Z<|by simp[z]) (λz=>Z<|by simp[z]) q;have I1:Inv X G U H {s with heap:=g,toks:=s.toks+1}:=I.turnedL (t':=s.toks+1) y M;have d:H s.heap.objs.size=none:=I.hok.fresh<|ZF _;exists _,Y;refine wpAny_letOwnedTupleGo_enum (s:={s with heap:=g,toks:=s.toks+1}) ho λn e2 A=>?_
  have I2:Inv X G U H {s with heap:=n,toks:=s.toks+1}:=I1.turnedL (s:={s with heap:=g,toks:=s.toks+1}) (t':=s.toks+1) (ch:=[e]) (λb o Z q=>A.extBut b o (λz=>Z<|by simp[z]) q) λb Z=>by
   have q:b=e:=by simpa using Z
   rw[q];exact M e<|by simp
  have Q:n.get? s.heap.objs.size=some {cls:=.type "tuple",data:=.seq #[.int i s.toks,F]}:=A.extBut _ _ (vH R) ht;have I3:Inv X G U (upd H s.heap.objs.size<|.tup [.int (i:Nat),x]) {s with heap:=n,toks:=s.toks+1}:=I2.retrack d (I.fpOk (ZF _) d) ⟨sl 2,[.int i s.toks,F],.cons ⟨_,rfl⟩<|.cons S .nil,⟨_,Q,rfl,rfl,_,rfl⟩⟩
  have j:∀b∈ [e,it],b<s.heap.objs.size:=λb Z=>by
   have q:b=e\/b=it:=by simpa using Z
   rcases q with q|q <;> rw[q]
   .exact R
   .obtain ⟨o,q,_⟩:=J.one.obj
    exact ZN q
  refine⟨.ref s.heap.objs.size,_,I3,Y,⟨_,x,Y,d,Y,λzs h=>by rw[I.sq_inj h T];exact hx⟩,?_,λb Z=>?_⟩
  .exact ⟨⟨_,e2⟩,hj.to λo q=>A.extBut _ o (Zq n1) q⟩
  .rw [Yd (Zc<|j b Z)]
   exact(M b Z).1
 done:=by
  intro X u p r hc i G s U H E I M J f;subst u p r;obtain⟨xs,T,Z8⟩:=f;obtain⟨m,C,D⟩:=I.sq T;have e1:=C.length;obtain⟨L,B⟩:=J.enu;refine Az (I.ok.hd hc) B (J.one.si D) (by simp;omega) λg t=>⟨Y,?_⟩
  exact I.turnedL (t':=s.toks) (ch:=[it]) (λb o Z q=>t b o (λz=>Z<|by simp[z]) q) λb Z=>M b (by
   have q:b=it:=by simpa using Z
   rw[q];simp)
 self:=λ_ _ _ _ _ J h=>let⟨_,N⟩:=J.enu;wpAny_pyIter_enum N h
def EJ:bootBuiltins "enumerate"=some (.type "enumerate"):=by decide +kernel
def zF(K:W.Frag)(ta:TA):TI:=λU H R=>ta U H λL J=>∃a Z G,L=[.ref a]/\Sq K Z J a G/\R (Ite K Z a) J
def XH(j:Gl X "enumerate")(P:X.mg "enumerate"=none)(t:PA X [a] ta)(C:starEach [a] X.env=[(false,eval a X.env)]:=by rfl):PI X (.Tuple elts x1 tpos) (.Call (.Name "enumerate" p) [a] [] pos) (zF X.K ta):=by
 intro J s U H R I h;refine Call_ (W5 I j P EJ<|vS (thn (t pos J s U H _ I h) λd Z ⟨c,T,L,E,M⟩=>?_) (by rw[C];rfl)<|by rfl);obtain⟨l,f,k,e,M,q⟩:=M;subst e;obtain⟨u,rfl,B⟩:=vals1 E;cases B;obtain⟨S,D,N⟩:=L.sq M;have F:=N.lt;refine QY N λg O Q A=>?_;refine wpAny_pyIter_enum (s:={Z with heap:=g}) O ?_;have m:Inv X J U T {Z with heap:=g}:=L.kept (t':=Z.toks) A;refine⟨_,[Z.heap.objs.size+1,Z.heap.objs.size],_,_,T,Y,m,Ox (Nat.succ_ne_self _)<|Zc F,⟨⟨_,O⟩,Q⟩,λb y=>?_,q⟩
 have G:Z.heap.objs.size<=b:=by
  have z:b=Z.heap.objs.size+1\/b=Z.heap.objs.size:=by simpa using y
  rcases z with z|z <;> rw[z] <;> first|exact ZF _|exact jU _ _
 exact L.fpOk G<|L.hok.fresh G
end L2
namespace L2
open PySem PySem.Spec PyProof.Rows PySem.W PySem.Calls
end L2
namespace L2
open PySem PySem.Spec PyProof.Rows PySem.MeetsSeq
end L2
namespace L2
open PySem PySem.Spec PyProof.Rows
def Its(x:Str):It:=⟨λi _=>i<x.cps.size,λi H v Z=>Z=H/\∃c,x.cps[i]?=some c/\v=.str ⟨#[c]⟩,λi _=>x.cps.size<=i⟩
def SIt(it:Addr)(x:Str)(i:Nat)(h:Heap):Prop:=∃ty t,(ty="str_ascii_iterator" \/ ty="str_iterator")/\h.IsStrIter it ty x t i
def Ao(h:Q () s):wpAny M A (letOwnedTupleGo tg it<|.str y t) Q E s:=by
 unfold letOwnedTupleGo;cases tg <;> cases it <;> exact Zk h
def KL{P:Program}{w:World}{K:W.Frag}{a:Expr}(it:Addr)(x:Str):Turn P w K a (Its x) [it] it (SIt it x) where
 mem:=by simp
 obj:=λi h ⟨ty,t,_,o,p,_,hd⟩ b M=>by
  cases ZO.mp M;exact⟨o,p,λv z=>by rw[hd]at z;cases z⟩
 keep:=λi h L ⟨ty,t,Z,o,p,r⟩ k=>⟨ty,t,Z,o,k it (by simp) o p,r⟩
 item:=by
  intro X d g f D i O s U H E I S ⟨ty,t,Z,N⟩ A;subst d g f;obtain⟨m,q,_,j,Q,C⟩:=S it (by simp);have F:∀(v:Value)(L:Heap)(R:Nat),SignAt x i v->SIt it x (i+1) L->(∀b o,b ∉ [it]->s.heap.get? b=some o->L.get? b=some o)->
    (∃u,some v=some u/\wpAny (model X.prog X.w) X.A (letOwnedTupleGo a (.ref it) u) (λ_ s2=>∃y n,Inv X O U n s2/\RelV y u/\(Its x).yld i H y n/\SIt it x (i+1) s2.heap/\∀b∈ [it],n b=none) E {s with heap:=L,toks:=R}):=λv L R B J T=>by
   obtain⟨c,u,hx,rfl⟩:=B;exact⟨_,Y,Ao ⟨.str ⟨#[c]⟩,H,I.turned (λb o M e=>T b o (by simpa using M) e) m q j Q C,⟨_,Y⟩,⟨Y,c,hx,Y⟩,J,λb M=>(S b M).1⟩⟩
  rcases Z with rfl|rfl
  .exact (Walks.strAscii (I.ok.hd D) it x t).item i s _ _ A N λv L R B J T=>F v L R B ⟨_,t,.inl rfl,J⟩ T
  .exact (Walks.strWide (I.ok.hd D) it x t).item i s _ _ A N λv L R B J T=>F v L R B ⟨_,t,.inr rfl,J⟩ T
 done:=by
  intro X d g f D i O s U H E I S ⟨ty,t,Z,N⟩ A;subst d g f;obtain⟨m,q,_,j,Q,C⟩:=S it<|by simp
  have G:x.cps[i]?=none:=by
   have z:x.cps.size<=i:=A;simp[z]
  rcases Z with rfl|rfl
  .exact wpAny_pyNext_ascii_end (I.ok.hd D) N G λL l=>⟨rfl,I.turned (t':=s.toks) (λb o M e=>l b o M e) m q j Q C⟩
  .exact wpAny_pyNext_wide_end (I.ok.hd D) N G λL l=>⟨rfl,I.turned (t':=s.toks) (λb o M e=>l b o M e) m q j Q C⟩
 self:=λ_ _ _ _ _ ⟨ty,t,Z,N⟩ h=>by
  rcases Z with rfl|rfl
  .exact wpAny_pyIter_striter_ascii N h
  .exact wpAny_pyIter_striter_wide N h
section
def yP(tl:TE):TI:=λU H R=>tl U H λv Z=>∃x,v=.str x/\R (Its x) Z
def S0(T:PE X l tl):PI X tg l (yP tl):=by
 intro Z s U H R I h;refine thn (T Z s U H _ I h) λv J ⟨y,N,L,O,x,e,q⟩=>?_;subst e;obtain⟨t,rfl⟩:=O
 have D:∀b∈ [J.heap.objs.size],UL X Z N b:=λb B=>by
  cases ZO.mp B;exact L.fpOk (ZF _)<|L.hok.fresh<|ZF _
 have M:∀(ty:String),(ty="str_ascii_iterator" \/ ty="str_iterator")->PIE X Z U tg R (.ref J.heap.objs.size) {J with heap:=J.heap.push {cls:=.type ty,data:=.fields #[.str x t,.int 0 0]}}:=λty G=>
  ⟨_,[J.heap.objs.size],_,_,N,rfl,L.kept (t':=J.toks) λb o e=>ZD _ e,KL _ x,⟨ty,t,G,_,ZW _ rfl,rfl,rfl⟩,D,q⟩
 cases ha:x.cps.all (λc=>c<128)
 .exact wpAny_pyIter_wide ha (M _<|.inr rfl)
 .exact wpAny_pyIter_ascii ha (M _<|.inl rfl)
end
section
def Jn{Z:Stmt}:PS X Z (λ_ _ _=>False):=λ_ _ _ _ _ _ h=>h.elim
end
end L2
namespace L2
open PySem
inductive Bd where
 |tag (t:Str)|name (x:Str)|pair (a b:Bd)|one (e:Bd)|other (e:Bd)
 |choose (e:Bd) (ts:List Str) (bs:List Bd)|ask (f:Str) (as:List Bd)|letb (x k:Str) (e b:Bd)
mutual
def Bd.dat:Bd->Dat
 |.tag t=>.tup [.str "tag",.str t]
 |.name x=>.tup [.str "name",.str x]
 |.pair a b=>.tup [.str "pair",a.dat,b.dat]
 |.one e=>.tup [.str "one",e.dat]
 |.other e=>.tup [.str "other",e.dat]
 |.choose e ts bs=>.tup [.str "choose",e.dat,.tup (Bd.brs bs ts)]
 |.ask f as=>.tup [.str "ask",.str f,.tup (Bd.dats as)]
 |.letb x k e b=>.tup [.str "let",.str x,.str k,e.dat,b.dat]
def Bd.dats:List Bd->List Dat
 |[]=>[]
 |b::bs=>b.dat::Bd.dats bs
def Bd.brs:List Bd->List Str->List Dat
 |[],_=>[]
 |b::bs,t::ts=>.tup [.str t,b.dat]::Bd.brs bs ts
 |_::_,[]=>[]
end
def Bd.parts:Bd->List Bd
 |.tag _=>[]
 |.name _=>[]
 |.pair a b=>[a,b]
 |.one e=>[e]
 |.other e=>[e]
 |.choose e _ bs=>e::bs
 |.ask _ as=>as
 |.letb _ _ e b=>[e,b]
mutual
def Bd.places:Bd->List (kz)
 |.tag _=>[[]]
 |.name _=>[[]]
 |.pair a b=>[]::(a.places.map λw=>(0:Int)::w)++ (b.places.map λw=>(1:Int)::w)
 |.one e=>[]::e.places.map λw=>(0:Int)::w
 |.other e=>[]::e.places.map λw=>(0:Int)::w
 |.choose e _ bs=>[]::(e.places.map λw=>(0:Int)::w)++ Bd.pls 1 bs
 |.ask _ as=>[]::Bd.pls 0 as
 |.letb _ _ e b=>[]::(e.places.map λw=>(0:Int)::w)++ (b.places.map λw=>(1:Int)::w)
def Bd.pls(k:Nat):List Bd->List (kz)
 |[]=>[]
 |b::bs=>(b.places.map λw=>(k:Int)::w)++ Bd.pls (k+1) bs
end
theorem Bd.places_eq:∀b:Bd,b.places=[]::Bd.pls 0 b.parts
 |.tag _=>by simp[Bd.places,Bd.parts,Bd.pls]
 |.name _=>by simp[Bd.places,Bd.parts,Bd.pls]
 |.pair a b=>by simp[Bd.places,Bd.parts,Bd.pls]
 |.one e=>by simp[Bd.places,Bd.parts,Bd.pls]
 |.other e=>by simp[Bd.places,Bd.parts,Bd.pls]
 |.choose e Z J=>by simp[Bd.places,Bd.parts,Bd.pls]
 |.ask f G=>by simp[Bd.places,Bd.parts]
 |.letb x k e b=>by simp[Bd.places,Bd.parts,Bd.pls]
end L2
namespace L2
open PySem PySem.W PyProof.Rows
end L2
namespace L2
open PySem PySem.Spec PyProof.Rows
def OU:typeLookup (.type "tuple") (Str.ofString "keys")=pure none:=am_miss_of_fast<|by decide +kernel
section
def OV(D:Gr s.heap a G)(C:A.handled=none)(h:∀L M,(∀b o,s.heap.get? b=some o->L.get? b=some o)->Q none {s with heap:=L,toks:=M}):
  wpAny (model prog w) A (getAttr? (.ref a)<|Str.ofString "keys") Q E s:=by
 obtain⟨⟨c,y,z,sl⟩,N,O,R,k,hdat⟩:=D;simp only at R hdat O;subst R hdat O;obtain⟨X,P,j,M,I⟩:=s;have Z:=F.slot_tuple_getattribute;have U:=Z.lookup;have q:=Z.bind<|.ref a;have S:=am_tuple_getattr_none;have t:=sub_AttributeError;have T:∀n,(Shared.mk X P j n I).TypeIs (.ref a) "tuple":=λn=>⟨_,N,rfl⟩;simp only[getAttr?,getAttrBy?,getAttrBy]
 repeat (any_goals (first|assumption|exact T _|((with_reducible show wpAny _ _ (call (Value.builtin "tuple.__getattribute__") _ _) _ _ _);refine qa F.slot_tuple_getattribute (T _) am_entry_tuple_getattribute (F.args_tuple_getattribute_2 _ _) (meets_getattribute_miss_tuple a G k sl (Str.ofString "keys") _ OU (by decide +kernel)<|by size_fits) ⟨N,C,λL B e J=>?_⟩)|wp_step))
 have there:=J.there;obtain⟨_,_,m⟩:=there;refine(?_:wpAny _ _ (getattributeRaised _ _ _ _ _ _ _) _ _ _);simp only[getattributeRaised]
 repeat any_goals first|assumption|wp_step
 exact h _ _ J.keeps
end
section
def U6(hc:X.calm=true):UF X (.type "dict") (λxs H Q=>∃(p:Addr)(L:kA)(Z:kE),xs=[.ref p]/\H p=some (.tup<|L.map V.ref)/\FX X.K H L Z/\(Z.map (·.1)).Nodup/\∀l,H l=none->Q (.ref l) (upd H l<|.dK Z)):=by
 intro J2 s U H xs us Q I r h;obtain⟨p,L,Z,rfl,x,C,hn,q⟩:=h;obtain⟨u,rfl,c⟩:=vals1 r;cases c;obtain⟨w,G,r',d⟩:=(show Va X.prog X.w H s.heap p (.tup<|L.map V.ref)from I.hok p _ x);rw[ZA]at w
 have j:G.length=L.length:=by
  have:=r'.length;rw[ZA]at this;exact this.symm
 have Z9:∀(i:Nat)(a:Addr),L[i]?=some a->G[i]?=some (Value.ref a):=λi a e=>by
  obtain⟨u,hu,c⟩:=r'.get (show(L.map V.ref)[i]?=some (V.ref a) by rw[ZG,e];rfl);rw[hu,show u=Value.ref a from c]
 obtain⟨vs,M,n⟩:=N1 s.heap L Z C.1 λi a k y e1 e2=>by
  obtain⟨J4,r2,p2,_⟩:=I.tuple<|C.2 i a k y e1 e2
  cases r2 with
  |cons r1 t1=>
   cases t1 with
   |cons r3 t3=>
    cases t3;exact⟨_,_,p2,r1,r3⟩
 have Z8:vs.length=G.toArray.size:=by rw[ZM,j,C.1,<-M.length]
 have B:vs.map (·.1)=Z.map (·.1):=by
  have J1:∀{l:kE}{m:List (Key×Value)},KV l m->m.map (·.1)=l.map (·.1):=by
   intro l m q
   induction q with
   |nil=>rfl
   |cons x t ih=>rw[ZT,ZT,ih,x.1]
  exact J1 M
 have S:p<s.heap.objs.size:=by
  obtain⟨o,e,_⟩:=d;exact ZN e
 refine callType_codes (Q₁:=λob t=>ob=.ref s.heap.objs.size/\t={s with heap:=s.heap.push {cls:=.type "dict",data:=.dict #[]}}) F.kt_called_dict (F.kt_typeCall_dict_1 _) F.entry_dict_init (kt_code_dict_new _ ⟨Y,Y⟩) λob t g=>?_;obtain⟨rfl,rfl⟩:=g;have J:(s.heap.push {cls:=.type "dict",data:=.dict #[]}).DictOf (VT X.prog X.w) s.heap.objs.size []:=Heap.DictOf.new s.heap;have k0:∀b o,s.heap.get? b=some o->(s.heap.push {cls:=.type "dict",data:=.dict #[]}).get? b=some o:=λb o e=>ZD _ e;refine And.intro J.typeIs<|And.intro (F.args_dict_init_2 _ _) ?_;delta Builtin.«dict.__init__» Builtin.Dict.selfAndRest;refine Zj<|Zj<|wpAny_notOrdered_dict J.typeIs<|Zk (?_:wpAny _ _ (Builtin.Dict.updateFrom "dict.__init__" s.heap.objs.size (.ref p) [] .none) _ _ _);delta Builtin.Dict.updateFrom;have R:=d.keeps k0;refine Zj<|js (T:="tuple") (show Shared.TypeIs _ _ _ from let⟨o,O,_,h2,_⟩:=R;⟨o,O,h2⟩) ?_;rw[Zn (by decide)];refine Zj<|OV R (I.ok.hd hc) λO J5 N=>?_;simp only[Option.isNone_none,if_true];refine Zj<|jD ?_;refine Zj<|wpAny_pyIter_tuple (show Heap.IsTuple _ _ _ from(R.keeps N).is) ?_
 have z:s.heap.objs.size<O.objs.size:=by
  obtain⟨o,es,ep,ho,_⟩:=J;exact ZN<|N _ _ ho
 have f:∀b o,s.heap.get? b=some o->(O.push {cls:=.type "tuple_iterator",data:=.fields #[.ref p,.int 0 0]}).get? b=some o:=λb o e=>ZD _<|N b o<|k0 b o e;refine Zk ⟨plainId_quiet Wg _,QS (Walks.tuple (A:=X.A.in1.in1) (I.ok.hd hc) O.objs.size p (Zc<|Nat.lt_trans S z) G.toArray) (h₀:=s.heap) (vs:=vs) Z8 (by rw[<-M.length,<-C.1];exact w) (by rw[B];exact hn) ?_ s.heap.objs.size ?_ ?_ .none _ 0 _ 0 0 rfl (Za _) ?_ ?_ f ?_⟩
 .intro i v hv
  have hi:i<G.length:=by
   have:=(jH.mp hv).1
   rwa [ZM]at this
  have g:i<L.length:=by omega
  obtain⟨k,ku,vu,e1,e2,e3⟩:=n i L[i]<|ZC g;refine⟨L[i],k,ku,vu,?_,e1,e2,Gg e3⟩;have:=Z9 i L[i]<|ZC g;have E:G[i]?=some v:=by simpa using hv
  rw[this]at E;exact(ZP E).symm
 .intro P
  have two:s.heap.objs.size=O.objs.size\/s.heap.objs.size=p:=by simpa using P
  rcases two with e|e
  .exact Zp e (Zc z)
  .exact Zp e (vH S)
 .intro b o e
  have D:=ZN e;refine⟨λP=>?_,Zc D⟩;have e':b=O.objs.size:=by simpa using P
  rw[e']at D;exact Zp z<|Nat.not_lt_of_lt D
 .exact ⟨⟨_,ZW _ rfl,rfl,rfl⟩,(show Heap.IsTuple _ _ _ from(d.keeps f).is)⟩
 .obtain ⟨o,es,ep,ho,rest⟩:=J
  exact⟨o,es,ep,ZD _<|N _ _ ho,rest⟩
 .intro h' tk hd' hk'
  refine⟨Y,.ref s.heap.objs.size,_,I.laid (a:=s.heap.objs.size) (o:=.dK Z) (λb o e=>?_) (ZF _)<|EE (by rw[<-C.1];exact w) (beq_eq_false_iff_ne.mpr<|Zq<|Zc I.big) M hd',rfl,q _<|I.hok.fresh<|ZF _⟩;have D:=ZN e;refine hk' b o (λP=>?_) (Zc D)<|f b o e;have e':b=O.objs.size:=by simpa using P
  rw[e']at D;exact Zp z<|Nat.not_lt_of_lt D
end
end L2
namespace L2
open PySem
def Yz(h:Has H v (.tup J)):∃p Z,v=.ref p/\H p=some (.tup Z)/\HasL H Z J:=by unfold Has at h;exact h
def Yu(h:H p=some (.tup xs))(t:HasL H xs Z):Has H (.ref p) (.tup Z):=by unfold Has;exact⟨p,xs,Y,h,t⟩
def has_str(h:Has H v (.str x)):v=.str x:=by unfold Has at h;exact h
def Yv:Has H (.str x) (.str x):=by unfold Has;rfl
def Yf(h:HasL H Z (d::J)):∃x r,Z=x::r/\Has H x d/\HasL H r J:=by
 match Z,h with
 |[],h=>unfold HasL at h;exact h.elim
 |x::r,h=>unfold HasL at h;exact⟨x,r,Y,h.1,h.2⟩
def VP(h:HasL H Z []):Z=[]:=by
 match Z,h with
 |[],_=>rfl
 |_::_,h=>unfold HasL at h;exact h.elim
theorem Bd.dats_map:∀Z:List Bd,Bd.dats Z=Z.map Bd.dat
 |[]=>by unfold Bd.dats;rfl
 |b::Z=>by unfold Bd.dats;rw[Bd.dats_map Z];rfl
abbrev Z7:=@Bd.dats_map
theorem Bd.brs_len:∀{bs:List Bd}{ts:kq},bs.length=ts.length->(Bd.brs bs ts).length=ts.length
 |[],[],_=>by unfold Bd.brs;rfl
 |[],_::_,e=>by simp at e
 |_::_,[],e=>by simp at e
 |b::bs,t::ts,e=>by
  unfold Bd.brs;rw[Zd,Bd.brs_len<|by simpa using e,Zd]
theorem Bd.brs_get:∀{bs:List Bd}{ts:kq}{j:Nat}{d:Dat},(Bd.brs bs ts)[j]?=some d->∃b t,bs[j]?=some b/\ts[j]?=some t/\d=.tup [.str t,b.dat]
 |[],ts,j,d,e=>by unfold Bd.brs at e;simp at e
 |_::_,[],j,d,e=>by unfold Bd.brs at e;simp at e
 |b::bs,t::ts,0,d,e=>by
  unfold Bd.brs at e;have Z:some _=some d:=e;cases Z;exact⟨b,t,Y,Y,Y⟩
 |b::bs,t::ts,j+1,d,e=>by
  unfold Bd.brs at e;exact Bd.brs_get (bs:=bs) (ts:=ts) (j:=j) e
mutual
def Bd.ok:Bd->Prop
 |.tag _=>True
 |.name _=>True
 |.pair a b=>a.ok/\b.ok
 |.one e=>e.ok
 |.other e=>e.ok
 |.choose e ts bs=>e.ok/\bs.length=ts.length/\(1<=ts.length/\ts.length<=7)/\Bd.oks bs
 |.ask _ as=>as.length<=6/\Bd.oks as
 |.letb _ _ e b=>e.ok/\b.ok
def Bd.oks:List Bd->Prop
 |[]=>True
 |b::bs=>b.ok/\Bd.oks bs
end
theorem Bd.oks_mem:∀{Z:List Bd}{b:Bd},Bd.oks Z->b∈Z->b.ok
 |[],_,_,h=>nomatch h
 |c::Z,b,w,h=>by
  unfold Bd.oks at w;rcases Zb.mp h with rfl|h
  .exact w.1
  .exact Bd.oks_mem w.2 h
def Bd.ok_parts{b:Bd}(h:b.ok):∀c∈b.parts,c.ok:=by
 intro c Z
 cases b with
 |tag t=>cases Z
 |name x=>cases Z
 |pair a e=>
  unfold Bd.ok at h;simp only[Bd.parts,Zb,vy,or_false]at Z;rcases Z with rfl|rfl
  .exact h.1
  .exact h.2
 |one e=>unfold Bd.ok at h;simp only[Bd.parts,ZO]at Z;rw[Z];exact h
 |other e=>unfold Bd.ok at h;simp only[Bd.parts,ZO]at Z;rw[Z];exact h
 |choose e J G=>
  unfold Bd.ok at h;simp only[Bd.parts,Zb]at Z;rcases Z with rfl|Z
  .exact h.1
  .exact Bd.oks_mem h.2.2.2 Z
 |ask f L=>unfold Bd.ok at h;exact Bd.oks_mem h.2 Z
 |letb x k e g=>
  unfold Bd.ok at h;simp only[Bd.parts,Zb,vy,or_false]at Z;rcases Z with rfl|rfl
  .exact h.1
  .exact h.2
def Bd.few{b:Bd}(h:b.ok):b.parts.length<=8:=by
 cases b <;> (try (simp[Bd.parts];done)) <;> (unfold Bd.ok at h;simp only[Bd.parts,Zd,List.length_nil];omega)
end L2
namespace K4
open PySem L2
def Ej:Yn ["body","word"] ["body"] (Yc B7):=Y7
def Qr:List.Nodup [("tag":Str),"branch"]:=by decide +kernel
section
def XB:Sp:=λJ H Q _=>∃(v:V)(b:Bd),J=[v]/\Has H v b.dat/\b.ok/\∀u Z,Same H Z->Has Z u (.tup<|Bd.dats b.parts)->Q u Z
def ok_parts(B:Blt mg)(F:Fun K "parts" "parts" B7 f fd):Yh P w K mg base CX0 (n+1) f fd ["body"] XB:=by
 refine F.oq Ej λR1 A J1 s H I Q E hr h=>?_;obtain⟨v,b,rfl,O,ok,q⟩:=h;refine⟨_,YW (Yk 1 Ej.nd<|Ym Yp (pv 0) YX)
  (YW (Y4 (Yq W3 (pv 1) (Y0<|pa2 VA VA)<|by rfl) (YZ<|Yo<|Y0 Vd) Ys)
  (YW (Y4 (Yq JK (pv 1) VA<|Yy _) (YZ (Yo (Y1 Wa (Y0<|pa1<|Ym Yp (pv 0) YX) (VB VH rfl B.tuple VY (pa1 (VL ["tag","branch"] [] (V9<|Ym Yp (pv 0) YX) UE (λcl C fp s H=>VO (n:=2) rfl (Yi (Yb 0 Qr rfl (Or.inl rfl) (Or.inr rfl))<|Yi (Yb 1 Qr rfl (Or.inl rfl) (Or.inr rfl)) VC))
     (λcl C fp s H=>pv 1))))))) Ys)
  (YW (Y4 (Yq JK (pv 1) VA<|Yy _) (YZ<|Yo<|Ym Yp (pv 0) YX) Ys)
  (YW (Y4 (Yq JK (pv 1) VA<|Yy _) (YZ<|Yo<|Vt Mh (pv 0) (V4 YX) JD) Ys)
  (YZ<|Yo<|Vt Mh (pv 0) (V4 YX) JD))))),?_⟩
 show let a:=_;let b:=_;let c:=Yg (VJ _ b _) a;let d:=_;let e:=Yg (VJ _ d _) c;let f:=_;let g:=Yg (VJ _ f _) e;let h:=_;let i:=Yg (VJ _ h _) g;Yg _ i _ _ _
 intros
 cases b with
 |tag t=>
  unfold Bd.dat at O;obtain⟨p,xs,rfl,M,T⟩:=Yz O;obtain⟨r,m,rfl,D,G⟩:=Yf T;obtain rfl:=has_str D;exists _,_,Z0 M,Yw (j:=0) Y;refine⟨sl 2,λN J=>?_⟩;refine⟨N,_,Y,.inr<|Z0 Ya,rfl,rfl,_,rfl,Vf (by decide +kernel) ?_⟩;exact⟨sl 0,λu Z=>q _ _ ((Ye J _).trans<|Ye Z _)<|Yu Ya (by simp only[Bd.parts,Bd.dats];exact Z4)⟩
 |name x=>
  unfold Bd.dat at O;obtain⟨p,xs,rfl,M,T⟩:=Yz O;obtain⟨r,m,rfl,D,G⟩:=Yf T;obtain rfl:=has_str D;exists _,_,Z0 M,Yw (j:=0) Y;refine⟨sl 2,λN J=>?_⟩;refine⟨N,_,Y,.inr<|Z0 Ya,rfl,rfl,_,rfl,Vf (by decide +kernel) ?_⟩;exact⟨sl 0,λu Z=>q _ _ ((Ye J _).trans<|Ye Z _)<|Yu Ya (by simp only[Bd.parts,Bd.dats];exact Z4)⟩
 |pair a e=>
  unfold Bd.dat at O;obtain⟨p,xs,rfl,M,T⟩:=Yz O;obtain⟨r,m,rfl,D,G⟩:=Yf T;obtain rfl:=has_str D;exists _,_,Z0 M,Yw (j:=0) Y;refine⟨sl 2,λN J=>?_⟩;have L:=Ye J<|.tup [V.str "tag",V.str "name"];refine⟨N,_,Y,.inr<|Z0 Ya,rfl,rfl,_,rfl,Y6 (by decide +kernel) ?_⟩;refine⟨Y,_,Y,Y6 (by decide +kernel) ?_⟩;refine⟨Y,_,Y,Y6 (by decide +kernel) ?_⟩;refine⟨Y,_,Y,Y6 (by decide +kernel) ?_⟩;refine⟨1,Y,p,_,Y,Z0<|L _ _ M,by simp[HT.sIx],λu Z=>q _ _ (L.trans<|Ye Z _)<|Yu (xs:=m) (by rw[Ya];simp[XT,HT.sIx]) ?_⟩;exact(G.mono L).mono<|Ye Z _
 |one e=>
  unfold Bd.dat at O;obtain⟨p,xs,rfl,M,T⟩:=Yz O;obtain⟨r,m,rfl,D,G⟩:=Yf T;obtain rfl:=has_str D;exists _,_,Z0 M,Yw (j:=0) Y;refine⟨sl 2,λN J=>?_⟩;have L:=Ye J<|.tup [V.str "tag",V.str "name"];refine⟨N,_,Y,.inr<|Z0 Ya,rfl,rfl,_,rfl,Y6 (by decide +kernel) ?_⟩;refine⟨Y,_,Y,Y6 (by decide +kernel) ?_⟩;refine⟨Y,_,Y,Y6 (by decide +kernel) ?_⟩;refine⟨Y,_,Y,Y6 (by decide +kernel) ?_⟩;refine⟨1,Y,p,_,Y,Z0<|L _ _ M,by simp[HT.sIx],λu Z=>q _ _ (L.trans<|Ye Z _)<|Yu (xs:=m) (by rw[Ya];simp[XT,HT.sIx]) ?_⟩;exact(G.mono L).mono<|Ye Z _
 |other e=>
  unfold Bd.dat at O;obtain⟨p,xs,rfl,M,T⟩:=Yz O;obtain⟨r,m,rfl,D,G⟩:=Yf T;obtain rfl:=has_str D;exists _,_,Z0 M,Yw (j:=0) Y;refine⟨sl 2,λN J=>?_⟩;have L:=Ye J<|.tup [V.str "tag",V.str "name"];refine⟨N,_,Y,.inr<|Z0 Ya,rfl,rfl,_,rfl,Y6 (by decide +kernel) ?_⟩;refine⟨Y,_,Y,Y6 (by decide +kernel) ?_⟩;refine⟨Y,_,Y,Y6 (by decide +kernel) ?_⟩;refine⟨Y,_,Y,Y6 (by decide +kernel) ?_⟩;refine⟨1,Y,p,_,Y,Z0<|L _ _ M,by simp[HT.sIx],λu Z=>q _ _ (L.trans<|Ye Z _)<|Yu (xs:=m) (by rw[Ya];simp[XT,HT.sIx]) ?_⟩;exact(G.mono L).mono<|Ye Z _
 |choose e ts bs=>
  unfold Bd.dat at O;obtain⟨p,xs,rfl,M,T⟩:=Yz O;obtain⟨r,m,rfl,D,G⟩:=Yf T;obtain rfl:=has_str D;obtain⟨o,r2,rfl,h2,X⟩:=Yf G;obtain⟨x3,r3,rfl,h3,U⟩:=Yf X;obtain rfl:=VP U;obtain⟨pz,zs,rfl,Z9,Z8⟩:=Yz h3;unfold Bd.ok at ok;obtain⟨o1,o2,o3,o4⟩:=ok;have lz:=Z8.length;rw[Bd.brs_len o2]at lz;exists _,_,Z0 M,Yw (j:=0) Y;refine⟨sl 2,λN J=>?_⟩;have L:=Ye J<|.tup [V.str "tag",V.str "name"];refine⟨N,_,Y,.inr<|Z0 Ya,rfl,rfl,_,rfl,Y6 (by decide +kernel) ?_⟩;refine⟨Y,_,Y,Vf (by decide +kernel) ?_⟩;refine⟨_,_,Z0<|L _ _ M,rfl,sl 1,λu Z=>?_⟩;have s2:=Ye Z<|.tup [o];have sA:=L.trans s2;exists _,_,Z0<|sA _ _ M,rfl,⟨_,Z0<|sA _ _ Z9⟩;have S:=sA _ _ Z9;refine JN zs.length (Yt<|by omega) (λj I H'=>H'=upd (upd H N<|.tup [V.str "tag",V.str "name"]) u (.tup [o])/\I.length=j/\HasL H I ((bs.map Bd.dat).take j)) ⟨rfl,rfl,Z4⟩ (λj I H' z=>z.2.1) ?_ ?_ ?_ ?_
  .rintro j I H' hj ⟨rfl,_⟩
   exact⟨zs,zs[j],Z0 S,by simp[hj]⟩
  .rintro I H' ⟨rfl,_⟩
   exact⟨zs,Z0 S,ZF _⟩
  .rintro j I H' x H3 R hj ⟨rfl,z2,z3⟩ yl hR
   obtain⟨rfl,y⟩:=yl;obtain⟨d,hd,G1⟩:=Z8.get<|y zs<|Z0 S;obtain⟨b,t0,M2,N2,rfl⟩:=Bd.brs_get hd;obtain⟨pp,ys,rfl,G2,J2⟩:=Yz G1;obtain⟨y1,r4,rfl,h4,J5⟩:=Yf J2;obtain⟨y2,r5,rfl,h5,J4⟩:=Yf J5;obtain rfl:=VP J4;exists _,Z0<|sA _ _ G2,rfl;refine hR _ _ ⟨Y,by rw[ZJ,z2];rfl,?_⟩;rw[qA,ZG,M2];exact Z5 z3<|Z3 h5
  .rintro I H' l ⟨rfl,z2,z3⟩ hl3
   have s3:=Ye hl3<|.lst I;refine⟨l,_,Y,.inl ⟨Z1 Ya,λl4 L1=>?_⟩⟩;have s4:=Ye L1<|.tup I;have sB:=(sA.trans s3).trans s4;rw[Ze (by rw[ZA];omega)]at z3;have e1:Bd.dats (Bd.choose e ts bs).parts=e.dat::bs.map Bd.dat:=by rw[Z7];rfl
   refine⟨u,l4,[o],I,Y,Y,Z0<|s4 _ _<|s3 _ _ Ya,Z0 Ya,by simp,Zf (Yt (by simp only[yn];omega)),λe0=>?_,λ_ p5 G3=>?_⟩
   .refine q _ _ sB ?_
    rw[e1];subst e0
    have hb:bs=[]:=by
     have:=z3.length;simpa using this.symm
    rw[hb];exact Yu (s4 _ _<|s3 _ _ Ya)<|Z3<|h2.mono sB
   .have s5:=Ye G3<|.tup<|[o]++ I
    refine q _ _ (sB.trans s5) ?_;rw[e1];exact Yu Ya<|Z2 (h2.mono<|sB.trans s5)<|z3.mono<|sB.trans s5
 |ask g as=>
  unfold Bd.dat at O;obtain⟨p,xs,rfl,M,T⟩:=Yz O;obtain⟨r,m,rfl,D,G⟩:=Yf T;obtain rfl:=has_str D;obtain⟨o,r2,rfl,h2,X⟩:=Yf G;obtain⟨x3,r3,rfl,h3,U⟩:=Yf X;exists _,_,Z0 M,Yw (j:=0) Y;refine⟨sl 2,λN J=>?_⟩;have L:=Ye J<|.tup [V.str "tag",V.str "name"];refine⟨N,_,Y,.inr<|Z0 Ya,rfl,rfl,_,rfl,Y6 (by decide +kernel) ?_⟩;refine⟨Y,_,Y,Y6 (by decide +kernel) ?_⟩;refine⟨Y,_,Y,Vf (by decide +kernel) ?_⟩;exact⟨_,_,Z0<|L _ _ M,Yw (j:=2) rfl,q _ _ L<|h3.mono L⟩
 |letb x k e g=>
  unfold Bd.dat at O;obtain⟨p,xs,rfl,M,T⟩:=Yz O;obtain⟨r,m,rfl,D,G⟩:=Yf T;obtain rfl:=has_str D;obtain⟨o,r2,rfl,h2,X⟩:=Yf G;obtain⟨x3,r3,rfl,h3,U⟩:=Yf X;have lr:=U.length;exists _,_,Z0 M,Yw (j:=0) Y;refine⟨sl 2,λN J=>?_⟩;have L:=Ye J<|.tup [V.str "tag",V.str "name"];refine⟨N,_,Y,.inr<|Z0 Ya,rfl,rfl,_,rfl,Y6 (by decide +kernel) ?_⟩;refine⟨Y,_,Y,Y6 (by decide +kernel) ?_⟩;refine⟨Y,_,Y,Y6 (by decide +kernel) ?_⟩;refine⟨Y,_,Y,Vf (by decide +kernel) ?_⟩;refine⟨3,Y,p,_,Y,Z0<|L _ _ M,by simp[HT.sIx],λu Z=>q _ _ (L.trans<|Ye Z _)<|Yu (xs:=r3) (by rw[Ya];simp[XT,HT.sIx]) ?_⟩;exact(U.mono L).mono<|Ye Z _
end
end K4
namespace L2
open PySem
def Bd.at:Bd->List Int->Option Bd
 |b,[]=>some b
 |b,i::r=>if 0<=i then(match b.parts[i.toNat]? with|some c=>Bd.at c r|none=>none)else none
end L2
namespace K4
open PySem L2
end K4
namespace L2
open PySem PySem.Spec PyProof.Rows
section
def QI{Z:kz}(r:Vals (Z.map V.int) G){i:Nat}(e:G[i]?=some v):∃t,v=.int (Z.getD i 0) t:=by
 have M:=(ZE.mp e).1;have l:=r.length;rw[ZA]at l;have J:i<Z.length:=by omega
 obtain⟨u,L,t,rfl⟩:=r.get (show(Z.map V.int)[i]?=some (V.int Z[i]) by rw[ZG,ZC J];rfl);rw[L]at e;cases e;exact⟨t,by rw[yj,ZC J];rfl⟩
def Ii(S:X.calm=true):UF X (.builtin "sum") (λO H Q=>∃(p:Addr)(J:kz),O=[.ref p]/\SqL X.K H p (J.map V.int)/\PyProof.Rows.SumFits J/\Q (.int J.sum) H):=by
 intro T s U H O P Q I r h;obtain⟨p,J,rfl,E,N,q⟩:=h;obtain⟨u,rfl,D⟩:=vals1 r;cases D;obtain⟨G,R,L,y⟩:=I.list E
 have B:p<s.heap.objs.size:=by
  obtain⟨o,n,e,_⟩:=L;exact ZN e
 have Z:G.length=J.length:=by
  have:=R.length;rw[ZA]at this;exact this.symm
 refine call_sum_walk<|jo L.isList ?_;exists s.heap.objs.size,_,_,G.toArray.size,_,_,λi=>J.getD i 0,Y,Walks.list (A:=X.A.in1) (I.ok.hd S) _ p (Zc B) G.toArray,?_,?_,?_,?_
 .exact ⟨⟨_,ZW _ rfl,rfl,rfl⟩,L.isList.push _⟩
 .intro b hb
  have e:b=s.heap.objs.size\/b=p:=by simpa using hb
  have M:∀o:Obj,(s.heap.push o).objs.size=s.heap.objs.size+1:=λo=>vi _ _;show b<(s.heap.push _).objs.size;rw[M];rcases e with e|e
  .rw [e];exact vZ _
  .rw [e];exact Nat.lt_succ_of_lt B
 .intro i v hv
  exact QI R<|by simpa using hv
 .intro j hj
  rw[ZM,Z]at hj;rw[preSum_getD];exact N j hj
 .intro h' tk t' hk
  rw[ZM,Z,preSum_getD,vj];refine⟨.int J.sum,H,I.kept λb o e=>hk b o (λF=>?_)<|ZD _ e,⟨t',rfl⟩,q⟩;have C:b=s.heap.objs.size:=by simpa using F
  rw[C]at e;exact yx _<|ZN e
end
mutual
def Bd.size:Bd->Nat
 |.tag _=>1
 |.name _=>1
 |.pair a b=>1+(a.size+b.size)
 |.one e=>1+e.size
 |.other e=>1+e.size
 |.choose e _ bs=>1+(e.size+Bd.sizes bs)
 |.ask _ as=>1+Bd.sizes as
 |.letb _ _ e b=>1+(e.size+b.size)
def Bd.sizes:List Bd->Nat
 |[]=>0
 |b::bs=>b.size+Bd.sizes bs
end
mutual
def Bd.dep:Bd->Nat
 |.tag _=>0
 |.name _=>0
 |.pair a b=>1+max a.dep b.dep
 |.one e=>1+e.dep
 |.other e=>1+e.dep
 |.choose e _ bs=>1+max e.dep (Bd.deps bs)
 |.ask _ as=>1+Bd.deps as
 |.letb _ _ e b=>1+max e.dep b.dep
def Bd.deps:List Bd->Nat
 |[]=>0
 |b::bs=>max b.dep<|Bd.deps bs
end
def Bd.size_eq(b:Bd):b.size=1+Bd.sizes b.parts:=by
 cases b <;> simp[Bd.size,Bd.sizes,Bd.parts]
theorem Bd.deps_mem:∀{Z:List Bd}{b:Bd},b∈Z->b.dep<=Bd.deps Z
 |[],_,h=>nomatch h
 |c::Z,b,h=>by
  unfold Bd.deps;rcases Zb.mp h with rfl|h
  .exact vF _ _
  .exact ZZ (Bd.deps_mem h) (vw _ _)
def Bd.dep_mem{b c:Bd}(h:c∈b.parts):c.dep<b.dep:=by
 have Z:=Bd.deps_mem h;cases b <;> simp only[Bd.parts,Bd.deps,Bd.dep,vy]at * <;> first|exact h.elim|omega
theorem Bd.sizes_le:∀{bs:List Bd},(∀b∈bs,b.size<=m)->Bd.sizes bs<=bs.length*m
 |[],_=>by simp[Bd.sizes]
 |b::bs,h=>by
  have G:=h b (by simp);have J:=Bd.sizes_le (m:=m) (bs:=bs) λc Z=>h c<|ZK _ Z;unfold Bd.sizes;rw[Zd,v0];omega
theorem Bd.size_le:∀(n:Nat)(b:Bd),b.dep<=n->b.ok->b.size<=9 ^ n
 |0,b,h,ok=>by
  cases b <;> simp[Bd.dep]at h <;> simp[Bd.size]
 |n+1,b,h,ok=>by
  have G:∀c∈b.parts,c.size<=9 ^ n:=λc Z=>Bd.size_le n c (by have:=Bd.dep_mem Z;omega)<|Bd.ok_parts ok c Z;have N:=Bd.sizes_le G;have J:=Bd.few ok;have M:b.parts.length*9 ^ n<=8*9 ^ n:=vX _ J;have L:1<=9 ^ n:=Nat.one_le_pow _ _ (by decide);rw[Bd.size_eq,Nat.pow_succ];omega
end L2
namespace K4
open PySem L2
def Im:bootBuiltins "sum"=some (.builtin "sum"):=by decide +kernel
end K4
namespace L2
open PySem
def Xu(J:(Z.map (·.1)).Nodup)(h:(y,s)∈Z):VS Z y=some s:=by
 induction Z with
 |nil=>simp at h
 |cons k Z ih=>
  rw[ZT,yt]at J;unfold VS;rw[y9];rcases Zb.mp h with e|e
  .subst e;simp
  .have ne:¬k.1=y:=λq=>J.1 (by rw[q];exact ZU.mpr ⟨_,e,Y⟩)
   rw[Zw ne];exact ih J.2 e
abbrev Hds:=Str->Option (List (Str×Str)×Str)
inductive Kd(ks:List (Str×Shp))(hd:Hds):List (Key×V)->Str->Bd->Prop
 |tag {g:List (Key×V)}{y t:Str}{ts:List Str}:VS ks y=some (.tags ts)->t∈ts->Kd ks hd g y (.tag t)
 |name {g:List (Key×V)}{y x:Str}:VI g (Sum.inr x)=some (.str y)->Kd ks hd g y (.name x)
 |pair {g:List (Key×V)}{y a b:Str}{A B:Bd}:VS ks y=some (.pair a b)->Kd ks hd g a A->Kd ks hd g b B->Kd ks hd g y (.pair A B)
 |one {g:List (Key×V)}{y z b:Str}{e:Bd}:VS ks z=some (.pair y b)->Kd ks hd g z e->Kd ks hd g y (.one e)
 |other {g:List (Key×V)}{y z a:Str}{e:Bd}:VS ks z=some (.pair a y)->Kd ks hd g z e->Kd ks hd g y (.other e)
 |choose {g:List (Key×V)}{y z:Str}{ts:List Str}{e:Bd}{bs:List Bd}:VS ks z=some (.tags ts)->Kd ks hd g z e->bs.length=ts.length->(∀b∈bs,Kd ks hd g y b)->Kd ks hd g y (.choose e ts bs)
 |ask {g:List (Key×V)}{y f:Str}{ps:List (Str×Str)}{as:List Bd}:hd f=some (ps,y)->as.length=ps.length->(∀(i:Nat)(a:Bd)(p:Str×Str),as[i]?=some a->ps[i]?=some p->Kd ks hd g p.2 a)->Kd ks hd g y (.ask f as)
 |letb {g:List (Key×V)}{y x z:Str}{e b:Bd}:VI g (Sum.inr x)=none->z∈ks.map (·.1)->Kd ks hd (putK g (Sum.inr x) (.str z)) z e->Kd ks hd (putK g (Sum.inr x) (.str z)) y b->Kd ks hd g y (.letb x z e b)
def hdD(ps:List (Str×Str))(k:Str):Dat:=.tup [.tup (ps.map λp=>.tup [.str p.1,.str p.2]),.str k]
def Aj(Z:List (Str×Str))(k:Str):(hdD Z k).st=true:=by
 have:∀Z:List (Str×Str),Dat.sts (Z.map λp=>Dat.tup [.str p.1,.str p.2])=true:=by
  intro Z
  induction Z with
  |nil=>unfold List.map Dat.sts;rfl
  |cons p Z ih=>rw[ZT];unfold Dat.sts;rw[ih];simp[Dat.st,Dat.sts]
 simp[hdD,Dat.st,Dat.sts,this]
theorem FM:∀{Z:List Bd}{J:kq},Dat.sts (Bd.dats Z)=true->Dat.sts (Bd.brs Z J)=true
 |[],_,_=>by unfold Bd.brs Dat.sts;rfl
 |b::Z,[],_=>by unfold Bd.brs Dat.sts;rfl
 |b::Z,t::J,h=>by
  unfold Bd.dats Dat.sts at h;rw[ZX]at h;unfold Bd.brs Dat.sts;rw[FM h.2];simp[Dat.st,Dat.sts,h.1]
mutual
theorem Bd.st:∀b:Bd,b.dat.st=true
 |.tag t=>by simp[Bd.dat,Dat.st,Dat.sts]
 |.name t=>by simp[Bd.dat,Dat.st,Dat.sts]
 |.pair a b=>by simp[Bd.dat,Dat.st,Dat.sts,Bd.st a,Bd.st b]
 |.one a=>by simp[Bd.dat,Dat.st,Dat.sts,Bd.st a]
 |.other a=>by simp[Bd.dat,Dat.st,Dat.sts,Bd.st a]
 |.choose e G Z=>by simp[Bd.dat,Dat.st,Dat.sts,Bd.st e,FM (Bd.sts Z)]
 |.ask f J=>by simp[Bd.dat,Dat.st,Dat.sts,Bd.sts J]
 |.letb x k e b=>by simp[Bd.dat,Dat.st,Dat.sts,Bd.st e,Bd.st b]
theorem Bd.sts:∀Z:List Bd,Dat.sts (Bd.dats Z)=true
 |[]=>by unfold Bd.dats Dat.sts;rfl
 |b::Z=>by unfold Bd.dats Dat.sts;rw[Bd.st b,Bd.sts Z];rfl
end
def KF{Z:kE}(h:VI Z k=some v):∃J∈Z,J.1=k/\J.2=v:=by
 unfold VI at h
 cases e:Z.find? (λJ=>decide<|J.1=k)with
 |none=>rw[e]at h;cases h
 |some J=>
  rw[e]at h;exact⟨J,vb e,by simpa using List.find?_some e,ZP h⟩
theorem VE:∀Z:kq,HasL H (Z.map V.str)<|Z.map Dat.str
 |[]=>Z4
 |n::Z=>Z2 Yv<|VE Z
def AZ{Z:kq}(h:H a=some (.lst<|Z.map V.str)):Has H (.ref a) (.lst<|Z.map Dat.str):=VD h<|VE Z
def Tc(Z:kq):(Dat.lst<|Z.map Dat.str).dep<=1:=by
 have:∀Z:kq,Dat.deps (Z.map Dat.str)=0:=by
  intro Z
  induction Z with
  |nil=>unfold List.map Dat.deps;rfl
  |cons n Z ih=>rw[ZT];unfold Dat.deps;rw[ih];unfold Dat.dep;rfl
 unfold Dat.dep;rw[this];decide
def LK(Z:kK):(Dat.lst Z).pq (.lst [])=Z.isEmpty:=by
 unfold Dat.pq
 cases Z with
 |nil=>unfold Dat.pqs;rfl
 |cons d Z=>unfold Dat.pqs;rfl
def Jk(h:H r=some (.tup [.str a,.str b])):Has H (.ref r) (.tup [.str a,.str b]):=Yu h<|Z2 Yv<|Z2 Yv Z4
end L2
namespace K4
open PySem L2
section
variable{P:Program}{w:World}{K:W.Frag}{mg:Str->Option Value}{base:Heap}
def Df(P:Program)(w:World)(K:W.Frag)(mg:Str->Option Value)(base:Heap)(n:Nat)(x:Str)(ps:kq)(sp:Sp):Prop:=
 ∃(g:Addr)(Z:FuncData),mg x=some (.ref g)/\W.keepIn K (.ref g)=true/\Binds K Z ps []/\Yh P w K mg base CX0 n g Z ps sp
def Yx{X:Cx}(D:Df X.prog X.w X.K X.mg X.base k x B M)(N:Vj k X.A)(T:PA X (e::Z) t)(O:Gl X x:=by exact Y)(L:(x==("__debug__":Str))=false:=by decide)(R:starEach (e::Z) X.env=(false,eval e X.env)::starEach Z X.env:=by rfl)(J:(backTo pos<|starEach Z X.env).any (·.1)=false:=by rfl):
  PE X (.Call (.Name x p) (e::Z) [] pos) (Ka M [] E0 t):=let⟨_,_,m,k,b,G⟩:=D;Xx G N O m k b .nil VN T L R J
def Df.up(d:Df P w K mg base n x J Z)(h:n<=m):Df P w K mg base m x J Z:=
 let⟨g,O,N,M,L,G⟩:=d;⟨g,O,N,M,L,G.mono h⟩
end
end K4
namespace L2
open PySem
end L2
namespace K4
open PySem L2
end K4
namespace L2
open PySem
def X2(h:Has H v (.tup [.str a,.str b])):∃t,v=.ref t/\H t=some (.tup [.str a,.str b]):=by
 obtain⟨t,O,rfl,G,L⟩:=Yz h;obtain⟨T,D,rfl,N,J⟩:=Yf L;obtain⟨R,B,rfl,M,Z⟩:=Yf J;obtain rfl:=VP Z;obtain rfl:=has_str N;obtain rfl:=has_str M;exact⟨t,Y,G⟩
end L2
namespace K4
open PySem L2
end K4
namespace L2
open PySem
def Same.putN(s:Same H0 H)(h:H0 p=none):Same H0 (upd H p o):=λb u e=>by
 rw[Yd (Yj e h)];exact s b u e
end L2
namespace K4
open PySem L2
end K4
namespace L2
open PySem PySem.Spec PyProof.Rows
section
def EI:UF X (.type "dict") (λL H Q=>∃a Z,L=[.ref a]/\Rd H a (.dK Z)/\∀l,H l=none->Q (.ref l) (upd H l<|.dK Z)):=by
 intro N s U H L A Q I r h;obtain⟨a,Z,rfl,E,q⟩:=h;obtain⟨u,rfl,T⟩:=vals1 r;cases T;obtain⟨O,B,F,M,D⟩:=Gi I.hok E;have J:=M.length;refine kt_call_dict (knd:=VT X.prog X.w) B D (by rw[<-J];exact O) λS G R=>?_;refine⟨.ref s.heap.objs.size,_,I.laid (a:=s.heap.objs.size) (o:=.dK Z) (λb o e=>?_) (ZF _)<|EE O (beq_eq_false_iff_ne.mpr<|Zq<|Zc I.big) M G,rfl,q _<|I.hok.fresh<|ZF _⟩;exact(R.2 b<|Zc<|ZN e).trans<|ZD _ e
end
end L2
namespace L2
open PySem
def LH{Z:kE}(h:J∈putK Z k v):J∈Z\/J=(k,v):=by
 unfold putK at h
 split at h
 .obtain ⟨q,hq,e⟩:=ZU.mp h
  by_cases z:q.1=k
  .rw [Zn z]at e;exact .inr<|by rw[<-e,z]
  .rw [Zo z]at e;exact .inl (by rw[<-e];exact hq)
 .rcases ZV.mp h with h|h
  .exact .inl h
  .exact .inr (ZO.mp h)
def N0(Z:kE)(k:Key)(v:V):(putK Z k v).length<=Z.length+1:=by
 unfold putK
 split
 .rw [ZA];omega
 .rw [ZJ];exact ZF _
end L2
namespace K4
open PySem L2
end K4
namespace L2
open PySem
abbrev Hd:=Str×List (Str×Str)×Str
def WdS(y:Str):Prop:=1<=y.length/\y.length<=8/\∀c∈y.cps.toList,97<=c/\c<97+26
def Vs(c:kM)(ps:List (Str×Str)):Nat:=ps.foldl (λr p=>r*c p.2) 1
def XE(c:kM)(Z:List (Str×Str))(p:Str×Str):Vs c (Z++[p])=Vs c Z*c p.2:=by unfold Vs;rw[qB];rfl
structure Ur(ns:List Str)(c:Str->Nat)(top:Nat)(h:Hd):Prop where
 len:h.2.1.length<=3
 kin:∀p∈h.2.1,p.2∈ns
 own:h.2.2∈ns
 nd:(h.2.1.map (·.1)).Nodup
 spl:∀p∈h.2.1,WdS p.1
 rows:Vs c h.2.1<=top
def U7{Z:kE}(h:k∉Z.map (·.1)):VI Z k=none:=by
 unfold VI
 rw[ql.mpr (λJ G=>by
  intro z;exact h<|ZU.mpr ⟨J,G,Zr z⟩)]
 rfl
def X0{ys:kq}(Z:ys.Nodup)(h:ys[i]?=some y):y∉ys.take i:=by
 have e:=take_snoc h;have s:(ys.take i++[y]).Nodup:=by rw[<-e];exact Z.sublist<|vm _ _
 exact λz=>(jh.mp s).2.2 y z y (ZO.mpr Y) Y
def WL{ys:kq}{m:Nat}(h:(ys.map V.str)[m]?=some v):∃y,ys[m]?=some y/\v=.str y:=by
 rw[ZG]at h
 cases e:ys[m]? with
 |none=>rw[e]at h;cases h
 |some y=>rw[e]at h;exact⟨y,Y,(ZP h).symm⟩
def Wds.wdS(w:Wds 97 ys)(h:y∈ys):WdS y:=⟨(w.len y h).1,(w.len y h).2,w.abc y h⟩
end L2
namespace K4
open PySem L2
end K4
namespace L2
open PySem
theorem Dj:∀{G:List (Str×Str)}{Z:kF},HasL H Z (G.map λp=>.tup [.str p.1,.str p.2])->∃(J:kA),Z=J.map V.ref/\FX K H J (G.map λp=>((Sum.inr p.1:Key),V.str p.2))
 |[],Z,h=>by
  obtain rfl:=VP h;exact⟨[],Y,Y,λi a k y e=>by simp at e⟩
 |q::G,Z,h=>by
  rw[ZT]at h;obtain⟨x,r,rfl,E,D⟩:=Yf h;obtain⟨t,rfl,B⟩:=X2 E;obtain⟨J,rfl,T,R⟩:=Dj (K:=K) D;refine⟨t::J,Y,by simp[T],λi b k y O N=>?_⟩
  cases i with
  |zero=>
   have M:some t=some b:=O;have L:some ((Sum.inr q.1:Key),V.str q.2)=some (k,y):=N;cases M;cases L;exact Z0 B
  |succ i=>exact R i b k y O N
abbrev Dd:=Hd×Bd
def BZ(x:Dd):Dat:=.tup [.str x.1.1,.tup<|x.1.2.1.map λp=>.tup [.str p.1,.str p.2],.str x.1.2.2,x.2.dat]
def kvP(ps:List (Str×Str)):kE:=ps.map λp=>((Sum.inr p.1:Key),V.str p.2)
def Y5(hs:List Hd):Hds:=λf=>(hs.find? λh=>decide<|h.1=f).map (·.2)
def G6(J:List (Str×Str)):Dat.sts (J.map λp=>Dat.tup [.str p.1,.str p.2])=true:=by
 have:=Aj J "";unfold hdD Dat.st Dat.sts at this;rw[ZX]at this;have Z:=this.1;unfold Dat.st at Z;exact Z
def QT(x:Dd):(BZ x).st=true:=by
 unfold BZ;simp[Dat.st,Dat.sts,G6,Bd.st]
def Xm(J:(Z.map (·.1)).Nodup)(m:h∈Z):Y5 Z h.1=some h.2:=by
 induction Z with
 |nil=>exact nomatch m
 |cons g Z ih=>
  rw[ZT,yt]at J;unfold Y5;rw[y9];rcases Zb.mp m with e|e
  .subst e;simp
  .have ne:¬g.1=h.1:=λq=>J.1 (by rw[q];exact ZU.mpr ⟨_,e,Y⟩)
   rw[Zw ne];exact ih J.2 e
theorem Gu:∀{Z:kE},(Z.map (·.1)).Nodup->∀{kv:Key×V},kv∈Z->VI Z kv.1=some kv.2
 |[],_,kv,m=>nomatch m
 |g::Z,nd,kv,m=>by
  rw[ZT,yt]at nd;unfold VI;rw[y9];rcases Zb.mp m with e|e
  .subst e;simp
  .have ne:¬g.1=kv.1:=λq=>nd.1 (by rw[q];exact ZU.mpr ⟨_,e,Y⟩)
   rw[Zw ne];exact Gu nd.2 e
end L2
namespace K4
open PySem L2
section
def Io:bootBuiltins "min"=some (.builtin "min"):=by decide +kernel
end
end K4
namespace L2
open PySem
def Kr(ks:kL)(hd:Hds)(kv:kE)(y:Str):Bd->List Str->Prop
 |.tag t,zs=>zs=[]/\∃ts,VS ks y=some (.tags ts)/\t∈ts
 |.name x,zs=>zs=[]/\VI kv (Sum.inr x)=some (.str y)
 |.pair _ _,zs=>∃a b,zs=[a,b]/\VS ks y=some (.pair a b)
 |.one _,zs=>∃z b,zs=[z]/\VS ks z=some (.pair y b)
 |.other _,zs=>∃z a,zs=[z]/\VS ks z=some (.pair a y)
 |.choose _ ts bs,zs=>∃z,zs=z::List.replicate bs.length y/\VS ks z=some (.tags ts)/\bs.length=ts.length
 |.ask f _,zs=>∃ps:List (Str×Str),hd f=some (ps,y)/\zs=ps.map (·.2)
 |.letb x z _ _,zs=>zs=[z,y]/\VI kv (Sum.inr x)=none/\z∈ks.map (·.1)
def wth(kv:kE):Bd->List (Key×V)
 |.letb x z _ _=>putK kv (Sum.inr x)<|.str z
 |_=>kv
def Kd.inv(h:Kd T B R y b):
  ∃N,Kr T B R y b N/\N.length=b.parts.length/\∀(i:Nat)(p:Bd)(z:Str),b.parts[i]?=some p->N[i]?=some z->Kd T B (wth R b) z p:=by
 cases h with
 |tag G L=>exact⟨[],⟨Y,_,G,L⟩,Y,λi p z e=>nomatch e⟩
 |name G=>exact⟨[],⟨Y,G⟩,Y,λi p z e=>nomatch e⟩
 |pair G L M=>
  refine⟨_,⟨_,_,Y,G⟩,Y,λi p z J Z=>?_⟩;rcases i with _|_|i
  .cases J;cases Z;exact L
  .cases J;cases Z;exact M
  .exact nomatch J
 |one G L=>
  refine⟨_,⟨_,_,Y,G⟩,Y,λi p z J Z=>?_⟩;rcases i with _|i
  .cases J;cases Z;exact L
  .exact nomatch J
 |other G L=>
  refine⟨_,⟨_,_,Y,G⟩,Y,λi p z J Z=>?_⟩;rcases i with _|i
  .cases J;cases Z;exact L
  .exact nomatch J
 | @choose _ _ I S e D G L M O=>
  refine⟨_,⟨_,Y,G,M⟩,by simp[Bd.parts],λi p z J Z=>?_⟩;rcases i with _|i
  .cases J;cases Z;exact L
  .have m:=ZH (show D[i]?=some p from J)
   have A:(List.replicate D.length y)[i]?=some z:=Z;have F:=ZH A;cases List.eq_of_mem_replicate F;exact O p m
 | @ask _ _ f E U G L M=>
  refine⟨_,⟨_,G,Y⟩,by rw[ZA];exact L.symm,λi p z J Z=>?_⟩;rw[ZG]at Z
  cases ep:E[i]? with
  |none=>rw[ep]at Z;cases Z
  |some q=>
   rw[ep]at Z;cases Z;exact M i p q J ep
 |letb G L M O=>
  refine⟨_,⟨Y,G,L⟩,Y,λi p z J Z=>?_⟩;rcases i with _|_|i
  .cases J;cases Z;exact M
  .cases J;cases Z;exact O
  .exact nomatch J
end L2
namespace L2
open PySem
end L2
namespace K4
open PySem L2
section
def MY:Sp:=λJ H Q _=>∃(x:Str)(o:Nat),J=[.str x,.str (alpha o)]/\(o=97\/o=65)/\1<=x.length/\x.length<=8/\(∀c∈x.cps.toList,o<=c/\c<o+26)/\∀Z,Same H Z->Q (.bl true) Z
def O6:Yn ["text","letters"] ["text","letters"] (Yc B4):=Y7
def C0:List.Nodup [("sign":Str),"letters"]:=by decide +kernel
def Xb(o:Nat):Sp:=λJ H Q _=>∃(x:Str),J=[.str x]/\1<=x.length/\x.length<=8/\(∀c∈x.cps.toList,o<=c/\c<o+26)/\∀Z,Same H Z->Q (.bl true) Z
def K1:Yn ["text"] ["text"] (Yc Mu):=Y7
def PF:Yn ["text"] ["text"] (Yc DQ):=Y7
def Lg(F:Fun K "is_tag" "is_tag" DQ f S)(G:Yh P w K J base CX0 n g I ["text","letters"] MY)(C:Binds K I ["text","letters"] [])(R:W.keepIn K (.ref g)=true)(M:J "is_spelt"=some (.ref g))(D:J "GREAT"=some u)(L:RelV (.str<|Str.ofString "ABCDEFGHIJKLMNOPQRSTUVWXYZ") u):Yh P w K J base CX0 (n+1) f S ["text"] (Xb 65):=by
 refine F.oq PF λU A Z s H X Q E T h=>?_;obtain⟨x,rfl,O,N,B,q⟩:=h;exists _,YZ<|Yo<|Xx G T rfl M R C .nil VN (pa2 (pv 0)<|JE rfl D L);refine⟨x,65,?_,.inr Y,O,N,B,q⟩;rw[<-MD];rfl
end
end K4
namespace L2
open PySem
def WF(ks:kL):Nat->Str->Nat
 |0,_=>0
 |n+1,y=>match VS ks y with
  |none=>0
  |some (.tags _)=>1
  |some (.pair a b)=>1+WF ks n a+WF ks n b
def Je(t:Str):Shp->Bool
 |.tags ts=>decide<|t∈ts
 |.pair _ _=>false
def JO(a b:Str):Shp->Bool
 |.tags _=>false
 |.pair c e=>decide (c=a) && decide (e=b)
def JY(ks:kL)(t:Str):Option Str:=(ks.find? λk=>Je t k.2).map (·.1)
def JA(ks:kL)(a b:Str):Option Str:=(ks.find? λk=>JO a b k.2).map (·.1)
def X4{α:Type}(p:α->Bool)(l:List α)(x:α):(l++[x]).find? p=(l.find? p).or (if p x=true then some x else none):=by
 rw[List.find?_append]
 congr 1
 rw[y9];cases p x <;> simp
def Wu(h:z∈Z.map (·.1)):VS (Z++[x]) z=VS Z z:=by
 obtain⟨s,J⟩:=JC h;unfold VS at J |-;rw[X4]
 cases e:Z.find? λk=>decide (k.1=z)with
 |none=>rw[e]at J;cases J
 |some k=>rfl
def Rv(h:z∉Z.map (·.1)):VS Z z=none:=by
 cases e:VS Z z with
 |none=>rfl
 |some s=>exact Zp (ZU.mpr ⟨_,JU e,Y⟩) h
def Tn(h:z∉Z.map (·.1)):VS (Z++[(z,s)]) z=some s:=by
 have q:=Rv h;unfold VS at q |-;rw[X4]
 cases e:Z.find? λk=>decide (k.1=z)with
 |none=>simp
 |some k=>rw[e]at q;cases q
theorem J7(h:KK top c d Z)(x:Str×Shp):∀(n:Nat)(z:Str),z∈Z.map (·.1)->VG (Z++[x]) n z=VG Z n z
 |0,_,_=>rfl
 |n+1,z,hz=>by
  obtain⟨s,J⟩:=JC hz;rw[Wn J,Wn ((Wu hz).trans J)]
  cases s with
  |tags M=>rfl
  |pair a b=>
   obtain⟨L,G,_⟩:=h.at J;show(W.non::_)=(W.non::_);rw[J7 h x n a L,J7 h x n b G]
def hOf(ks:kL)(n:Nat):Shp->Nat
 |.tags _=>1
 |.pair a b=>1+WF ks n a+WF ks n b
def We(h:VS Z y=some s):WF Z (n+1) y=hOf Z n s:=by
 conv=>lhs;unfold WF
 rw[h];cases s <;> rfl
theorem U0(h:KK top c d Z)(x:Str×Shp):∀(n:Nat)(z:Str),z∈Z.map (·.1)->WF (Z++[x]) n z=WF Z n z
 |0,_,_=>rfl
 |n+1,z,hz=>by
  obtain⟨s,J⟩:=JC hz;rw[We J,We ((Wu hz).trans J)]
  cases s with
  |tags M=>rfl
  |pair a b=>
   obtain⟨L,G,_⟩:=h.at J;show 1+_+_=1+_+_;rw[U0 h x n a L,U0 h x n b G]
theorem X1(h:KK top c d Z):∀(n m:Nat)(y:Str),y∈Z.map (·.1)->d y<n->d y<m->WF Z n y=WF Z m y
 |0,_,_,_,h1,_=>Zp h1<|Zu _
 |_+1,0,_,_,_,h2=>Zp h2<|Zu _
 |n+1,m+1,y,hy,h1,h2=>by
  obtain⟨s,J⟩:=JC hy;have M:=h.at J;rw[We J,We J]
  cases s with
  |tags N=>rfl
  |pair a b=>
   obtain⟨L,G,B,T,R,O⟩:=M;have E:=vF (d a)<|d b;have D:=vw (d a)<|d b;show 1+_+_=1+_+_;rw[X1 h n m a L (by omega) (by omega),X1 h n m b G (by omega) (by omega)]
structure KA6 where
 t:Addr
 dx:Addr
 sh:Addr
 wo:Addr
 he:Addr
 pd:Addr
 tk:Addr
 pk:Addr
structure KC where
 sh:List (Key×V)
 wo:List (Key×V)
 he:List (Key×V)
 pd:List (Key×V)
 tk:List (Key×V)
 pk:List (List Key×V)
def Gq(A:KA6):List (Str×V):=[("shapes",.ref A.sh),("worths",.ref A.wo),("heights",.ref A.he),("pairs_deep",.ref A.pd),("tag_kinds",.ref A.tk),("pair_kinds",.ref A.pk)]
def KA6.ds(A:KA6):kA:=[A.sh,A.wo,A.he,A.pd,A.tk,A.pk]
structure KD(H:Hp)(C:Addr)(A:KA6)(S:KC):Prop where
 ins:H A.t=some (.ins C A.dx (Gq A))
 sh:H A.sh=some (.dK S.sh)
 wo:H A.wo=some (.dK S.wo)
 he:H A.he=some (.dK S.he)
 pd:H A.pd=some (.dK S.pd)
 tk:H A.tk=some (.dK S.tk)
 pk:H A.pk=some (.dT S.pk)
 nd:A.ds.Nodup
structure KR(H:Hp)(S:KC)(ks:List (Str×Shp))(d:Str->Nat):Prop where
 ke:S.sh.map (·.1)=ks.map (λk=>Sum.inr k.1)
 sh:∀y s,VS ks y=some s->∃v,VI S.sh (Sum.inr y)=some v/\Has H v s.dat
 wo:∀y∈ks.map (·.1),∃l xs,VI S.wo (Sum.inr y)=some (.ref l)/\H l=some (.lst xs)/\HasL H xs ((VG ks 3 y).map W.dat)
 he:∀y∈ks.map (·.1),VI S.he (Sum.inr y)=some (.int (WF ks 3 y:Nat))
 pd:∀y∈ks.map (·.1),VI S.pd (Sum.inr y)=some (.int (d y:Nat))
 tk:∀x:Str,VI S.tk (Sum.inr x)=(JY ks x).map V.str
 pk:∀a b:Str,VI S.pk [Sum.inr a,Sum.inr b]=(JA ks a b).map V.str
 ln:S.sh.length<=4*ks.length/\S.wo.length<=4*ks.length/\S.he.length<=4*ks.length/\S.pd.length<=4*ks.length/\S.tk.length<=4*ks.length/\S.pk.length<=4*ks.length
def KI(H:Hp)(C t:Addr)(ks:kL)(d:kM):Prop:=∃A S,A.t=t/\KD H C A S/\KR H S ks d
def KD.mono(k:KD H C A S)(e:Same H Z):KD Z C A S:=⟨e _ _ k.ins,e _ _ k.sh,e _ _ k.wo,e _ _ k.he,e _ _ k.pd,e _ _ k.tk,e _ _ k.pk,k.nd⟩
def TL(H H':Hp):Prop:=(∀b Z,H b=some (.tup Z)->H' b=some (.tup Z))/\∀b Z,H b=some (.lst Z)->H' b=some (.lst Z)
def Same.tl(e:Same H J):TL H J:=⟨λb Z h=>e _ _ h,λb Z h=>e _ _ h⟩
def TL.trans(a:TL H G)(b:TL G J):TL H J:=⟨λc Z h=>b.1 _ _<|a.1 _ _ h,λc Z h=>b.2 _ _<|a.2 _ _ h⟩
mutual
theorem Has.tl{H M:Hp}(e:TL H M):∀(d:Dat){v:V},Has H v d->Has M v d
 |.non,_,h=>by unfold Has at h |-;exact h
 |.bl _,_,h=>by unfold Has at h |-;exact h
 |.int _,_,h=>by unfold Has at h |-;exact h
 |.str _,_,h=>by unfold Has at h |-;exact h
 |.tup ds,_,h=>by
  unfold Has at h |-;obtain⟨a,Z,L,G,J⟩:=h;exact⟨a,Z,L,e.1 _ _ G,HasL.tl e ds J⟩
 |.lst ds,_,h=>by
  unfold Has at h |-;obtain⟨a,Z,L,G,J⟩:=h;exact⟨a,Z,L,e.2 _ _ G,HasL.tl e ds J⟩
theorem HasL.tl{H G:Hp}(e:TL H G):∀(Z:kK){J:kF},HasL H J Z->HasL G J Z
 |[],[],h=>by unfold HasL;trivial
 |[],_::_,h=>by unfold HasL at h;exact h.elim
 |_::_,[],h=>by unfold HasL at h;exact h.elim
 |d::Z,x::J,h=>by
  unfold HasL at h |-;exact⟨Has.tl e d h.1,HasL.tl e Z h.2⟩
end
def KR.tl(k:KR H S L d)(e:TL H N):KR N S L d:=
 ⟨k.ke,λy s h=>let⟨v,J,Z⟩:=k.sh y s h;⟨v,J,Has.tl e _ Z⟩,λy h=>let⟨l,G,J,Z,M⟩:=k.wo y h;⟨l,G,J,e.2 _ _ Z,HasL.tl e _ M⟩,k.he,k.pd,k.tk,k.pk,k.ln⟩
def KI.mono(k:KI H C t Z d)(e:Same H M):KI M C t Z d:=by
 obtain⟨A,S,L,G,J⟩:=k;exact⟨A,S,L,G.mono e,J.tl e.tl⟩
def J9(x:Str)(Z:kq):inV (.str x) (Z.map V.str)=decide (x∈Z):=by
 induction Z with
 |nil=>rfl
 |cons t Z ih=>
  have e:inV (.str x) ((t::Z).map V.str)=((t==x) || inV (.str x) (Z.map V.str)):=rfl;rw[e,ih]
  by_cases h:t=x
  .subst h;simp
  .have h':¬x=t:=λq=>h q.symm
   simp[h,h']
def Jj(Z:kq):(Z.map V.str).all Wf=true:=by
 induction Z with
 |nil=>rfl
 |cons t Z ih=>simp only[ZT,qg,ih];rfl
structure KCl(K:W.Frag)(C:Addr):Prop where
 cl:Cls K C
 sh:JG K C "shapes"
 wo:JG K C "worths"
 he:JG K C "heights"
 pd:JG K C "pairs_deep"
 tk:JG K C "tag_kinds"
 pk:JG K C "pair_kinds"
def ED(A:KA6):(Gq A).lookup ("shapes":Str)=some (V.ref A.sh):=rfl
def OP(A:KA6):(Gq A).lookup ("worths":Str)=some (V.ref A.wo):=rfl
def QQ(A:KA6):(Gq A).lookup ("heights":Str)=some (V.ref A.he):=rfl
def QP(A:KA6):(Gq A).lookup ("pairs_deep":Str)=some (V.ref A.pd):=rfl
def Aw(A:KA6):(Gq A).lookup ("tag_kinds":Str)=some (V.ref A.tk):=rfl
def Ax(A:KA6):(Gq A).lookup ("pair_kinds":Str)=some (V.ref A.pk):=rfl
def Ff(k:KD H C A S)(r:KR H S Z d)(h:VS Z y=some s):∃v,V1 H A.sh (.str y) (some v)/\Has H v s.dat:=by
 obtain⟨v,G,J⟩:=r.sh y s h;exact⟨v,by rw[<-G];exact V1.k (k:=Sum.inr y) k.sh,J⟩
end L2
namespace K4
open PySem L2
section
variable{f g C:Addr}
def XC(C:Addr):Sp:=λG H Q _=>∃(t:Addr)(J:kL)(d:kM),G=[.ref t]/\KI H C t J d/\∀l Z,Same H Z->H l=none->Z l=some (.lst<|J.map λk=>V.str k.1)->Q (.ref l) Z
def O7:Yn ["self"] ["self"] (Yc B9):=Y7
def LY(B:Blt L)(T:KCl K C)(F:Fun K "names" "Kinds.names" B9 f O):Yh P w K L base CX0 (n+1) f O ["self"] (XC C):=by
 refine F.oq O7 λR A Z s H D Q E U h=>?_;obtain⟨t,I,d,rfl,⟨X,S,rfl,J,N⟩,q⟩:=h;exists _,YZ<|Yo<|VB (Ua rfl) rfl B.list Vm (pa1<|Y8 (pv 0) rfl);refine⟨C,_,_,_,J.ins,T.cl,T.sh,ED _,_,_,Y,J.sh,λl G=>?_⟩;refine q l _ (Ye G _) G ?_;rw[Ya];have e:(S.sh.map λM=>kV M.1)=(S.sh.map (·.1)).map kV:=by rw[yg];rfl
 rw[e,N.ke,yg]
 rfl
def Jw(C:Addr):Sp:=λJ H Q _=>∃(t:Addr)(Z:kL)(d:kM)(y:Str)(s:Shp),J=[.ref t,.str y]/\KI H C t Z d/\VS Z y=some s/\∀v,Has H v s.dat->Q v H
def Fh:Yn ["self","kind"] ["self","kind"] (Yc Tq):=Y7
def Ds(T:KCl K C)(F:Fun K "shape_of" "Kinds.shape_of" Tq f B):Yh P w K U base CX0 (n+1) f B ["self","kind"] (Jw C):=by
 refine F.oq Fh λD A Z s H I Q E N h=>?_;obtain⟨t,X,d,y,s,rfl,⟨j,S,rfl,J,G⟩,M,q⟩:=h;have L:=Jg N;obtain⟨v,R,O⟩:=Ff J G M;exists _,YZ<|Yo<|JF L (Y8 (pv 0) rfl) (pv 1) λ_ _=>rfl;exact⟨C,_,_,_,J.ins,T.cl,T.sh,ED _,v,R,q v O⟩
def Tg(C:Addr):Sp:=λJ H Q _=>∃(t:Addr)(Z:kL)(d:kM)(x:Str),J=[.ref t,.str x]/\KI H C t Z d/\Q (((JY Z x).map V.str).getD .non) H
def K0:Yn ["self","tag"] ["self","tag"] (Yc Mt):=Y7
def IJ(T:KCl K C)(F:Fun K "kind_of_tag" "Kinds.kind_of_tag" Mt f N):Yh P w K B base CX0 (n+1) f N ["self","tag"] (Tg C):=by
 refine F.oq K0 λO A Z s H R Q E M h=>?_;obtain⟨t,D,d,x,rfl,⟨I,S,rfl,J,G⟩,q⟩:=h;have L:=Jg M;exists _,YZ<|Yo<|RH L (Y8 (pv 0) rfl) (pv 1) ⟨rfl,rfl,rfl,rfl⟩;exact⟨C,_,_,_,J.ins,T.cl,T.tk,Aw _,.inl ⟨_,.inl J.tk⟩,_,by rw[<-G.tk x];exact V1.k (k:=Sum.inr x) J.tk,q⟩
def Ws(C:Addr):Sp:=λG H Q _=>∃(t:Addr)(Z:kL)(d:kM)(a b:Str),G=[.ref t,.str a,.str b]/\KI H C t Z d/\∀J,Same H J->Q (((JA Z a b).map V.str).getD .non) J
def Fk:Yn ["self","one","other"] ["self","one","other"] (Yc Tu):=Y7
def Dv(T:KCl K C)(F:Fun K "kind_of_pair" "Kinds.kind_of_pair" Tu f R):Yh P w K I base CX0 (n+1) f R ["self","one","other"] (Ws C):=by
 refine F.oq Fk λB A Z s H D Q E N h=>?_;obtain⟨t,U,d,a,b,rfl,⟨X,S,rfl,J,L⟩,q⟩:=h;have M:=Jg N;exists _,YZ<|Yo<|RH M (Y8 (pv 0) rfl) (Y0<|pa2 (pv 1)<|pv 2) ⟨rfl,rfl,rfl,rfl⟩;refine⟨C,_,_,_,J.ins,T.cl,T.pk,Ax _,.inr ⟨_,.inl J.pk⟩,sl 2,λp O=>?_⟩;have G:=Ye O<|.tup [.str a,.str b];exact⟨_,by rw[<-L.pk a b];exact V1.t (k:=[Sum.inr a,Sum.inr b]) (G _ _ J.pk) Ya,q _ G⟩
def UP(C:Addr):Sp:=λL H Q _=>∃(t:Addr)(J:kL)(d:kM)(y:Str),L=[.ref t,.str y]/\KI H C t J d/\y∈J.map (·.1)/\
 ∀l G Z,Same H Z->H l=none->Z l=some (.lst G)->HasL Z G ((VG J 3 y).map W.dat)->Q (.ref l) Z
def B1:Yn ["self","kind"] ["self","kind"] (Yc Wx):=Y7
def N5(B:Blt N)(T:KCl K C)(F:Fun K "worths_of" "Kinds.worths_of" Wx f z):Yh P w K N base CX0 (n+1) f z ["self","kind"] (UP C):=by
 refine F.oq B1 λm A G s H p Q E I h=>?_;obtain⟨t,c,d,y,rfl,⟨u,S,rfl,M,O⟩,R,q⟩:=h;have D:=Jg I;obtain⟨l,J,j,X,U⟩:=O.wo y R;exists _,YZ<|Yo<|VB Vw rfl B.list Vm (pa1<|JF D (Y8 (pv 0) rfl) (pv 1) λ_ _=>rfl);refine⟨C,_,_,_,M.ins,T.cl,T.wo,OP _,_,by rw[<-j];exact V1.k (k:=Sum.inr y) M.wo,l,J,Y,.inl<|Z1 X,λr Z=>?_⟩;have L:=Ye Z<|.lst J;exact q r J _ L Z Ya<|U.mono L
end
end K4
namespace L2
open PySem
def KFr(A:KA6)(H H':Hp):Prop:=∀b o,b∉A.ds->H b=some o->H' b=some o
def KFr.refl(A:KA6)(H:Hp):KFr A H H:=λ_ _ _ h=>h
def KFr.trans(a:KFr A H G)(b:KFr A G J):KFr A H J:=λc o Z h=>b c o Z<|a c o Z h
def Same.kfr(e:Same H Z):KFr A H Z:=λb o _ h=>e b o h
def KFr.put(a:KFr A H L)(G:x∈A.ds)(o:HO):KFr A H (upd L x o):=λb u Z h=>by
 have J:b≠x:=λz=>by rw[z]at Z;exact Z G
 rw[Yd J];exact a b u Z h
def KFr.tl(a:KFr A H O)(k:KD H C A S):TL H O:=by
 have G:∀b u,H b=some u->(∀l,u≠.dK l)->(∀l,u≠.dT l)->b∉A.ds:=λb u Z J N L=>by
  simp only[KA6.ds,Zb,vP,or_false]at L;rcases L with z|z|z|z|z|z
  .rw [z,k.sh]at Z;exact J _ (ZP Z).symm
  .rw [z,k.wo]at Z;exact J _ (ZP Z).symm
  .rw [z,k.he]at Z;exact J _ (ZP Z).symm
  .rw [z,k.pd]at Z;exact J _ (ZP Z).symm
  .rw [z,k.tk]at Z;exact J _ (ZP Z).symm
  .rw [z,k.pk]at Z;exact N _ (ZP Z).symm
 exact⟨λb M h=>a b _ (G b _ h (λl=>by intro z;cases z) (λl=>by intro z;cases z)) h,λb M h=>a b _ (G b _ h (λl=>by intro z;cases z) (λl=>by intro z;cases z)) h⟩
def KA6.apart{A:KA6}(n:A.ds.Nodup):(A.sh≠A.wo/\A.sh≠A.he/\A.sh≠A.pd/\A.sh≠A.tk/\A.sh≠A.pk)/\(A.wo≠A.he/\A.wo≠A.pd/\A.wo≠A.tk/\A.wo≠A.pk)/\(A.he≠A.pd/\A.he≠A.tk/\A.he≠A.pk)/\(A.pd≠A.tk/\A.pd≠A.pk)/\A.tk≠A.pk:=by
 simpa[KA6.ds]using n
section
def KD.put_sh(k:KD H C A S)(l:kE):KD (upd H A.sh<|.dK l) C A {S with sh:=l}:=by
 obtain⟨⟨M,L,G,J,Z⟩,_⟩:=KA6.apart k.nd;exact⟨(Yd<|JQ k.ins k.sh (by intro z;cases z)).trans k.ins,Ya,(Yd M.symm).trans k.wo,(Yd L.symm).trans k.he,(Yd G.symm).trans k.pd,(Yd J.symm).trans k.tk,(Yd Z.symm).trans k.pk,k.nd⟩
def KD.put_wo(k:KD H C A S)(l:kE):KD (upd H A.wo<|.dK l) C A {S with wo:=l}:=by
 obtain⟨⟨M,_⟩,⟨L,G,J,Z⟩,_⟩:=KA6.apart k.nd;exact⟨(Yd<|JQ k.ins k.wo (by intro z;cases z)).trans k.ins,(Yd M).trans k.sh,Ya,(Yd L.symm).trans k.he,(Yd G.symm).trans k.pd,(Yd J.symm).trans k.tk,(Yd Z.symm).trans k.pk,k.nd⟩
def KD.put_he(k:KD H C A S)(l:kE):KD (upd H A.he<|.dK l) C A {S with he:=l}:=by
 obtain⟨⟨_,M,_⟩,⟨L,_⟩,⟨G,J,Z⟩,_⟩:=KA6.apart k.nd;exact⟨(Yd<|JQ k.ins k.he (by intro z;cases z)).trans k.ins,(Yd M).trans k.sh,(Yd L).trans k.wo,Ya,(Yd G.symm).trans k.pd,(Yd J.symm).trans k.tk,(Yd Z.symm).trans k.pk,k.nd⟩
def KD.put_pd(k:KD H C A S)(l:kE):KD (upd H A.pd<|.dK l) C A {S with pd:=l}:=by
 obtain⟨⟨_,_,M,_⟩,⟨_,L,_⟩,⟨G,_⟩,⟨J,Z⟩,_⟩:=KA6.apart k.nd;exact⟨(Yd<|JQ k.ins k.pd (by intro z;cases z)).trans k.ins,(Yd M).trans k.sh,(Yd L).trans k.wo,(Yd G).trans k.he,Ya,(Yd J.symm).trans k.tk,(Yd Z.symm).trans k.pk,k.nd⟩
def KD.put_tk(k:KD H C A S)(l:kE):KD (upd H A.tk<|.dK l) C A {S with tk:=l}:=by
 obtain⟨⟨_,_,_,M,_⟩,⟨_,_,L,_⟩,⟨_,G,_⟩,⟨J,_⟩,Z⟩:=KA6.apart k.nd;exact⟨(Yd<|JQ k.ins k.tk (by intro z;cases z)).trans k.ins,(Yd M).trans k.sh,(Yd L).trans k.wo,(Yd G).trans k.he,(Yd J).trans k.pd,Ya,(Yd Z.symm).trans k.pk,k.nd⟩
def KD.put_pk(k:KD H C A S)(l:List (List Key×V)):KD (upd H A.pk<|.dT l) C A {S with pk:=l}:=by
 obtain⟨⟨_,_,_,_,M⟩,⟨_,_,_,L⟩,⟨_,_,G⟩,⟨_,J⟩,Z⟩:=KA6.apart k.nd;exact⟨(Yd<|JQ k.ins k.pk (by intro z;cases z)).trans k.ins,(Yd M).trans k.sh,(Yd L).trans k.wo,(Yd G).trans k.he,(Yd J).trans k.pd,(Yd Z).trans k.tk,Ya,k.nd⟩
end
def Uq{α:Type}{l:List α}{x a:α}(h:l[i]?=some a):x∈l.take (i+1)↔x∈l.take i\/x=a:=by
 rw[take_snoc h,ZV,ZO]
end L2
namespace K4
open PySem L2
section
variable{f g C:Addr}
def Bq(C:Addr):Sp:=λL H Q _=>∃(A:KA6)(S:KC)(y:Str)(l:Addr)(Z:kq),L=[.ref A.t,.str y,.ref l]/\KD H C A S/\H l=some (.tup<|Z.map V.str)/\1<=Z.length/\Z.length<=4/\Wds 65 Z/\(∀x∈Z,VI S.tk (Sum.inr x)=none)/\
 S.tk.length<=100/\S.wo.length<=100/\S.he.length<=100/\S.pd.length<=100/\
 ∀G J r,KFr A H G->KD G C A ⟨S.sh,putK S.wo (Sum.inr y)<|.ref r,putK S.he (Sum.inr y)<|.int 1,putK S.pd (Sum.inr y)<|.int 0,J,S.pk⟩->
  (∀x:Str,VI J (Sum.inr x)=if x∈Z then some (.str y)else VI S.tk (Sum.inr x))->J.length<=S.tk.length+4->G r=some (.lst (.non::Z.map V.str))->Q .non G
def Kt:Yn ["self","name","tags","tag"] ["self","name","tags"] (Yc K6):=Y7
def Po(B:Blt mg)(T:KCl K C)(F:Fun K "take_tags" "Kinds.take_tags" K6 f fd)(hM:mg "MOST_TAGS"=some u)(rM:RelV (.int 4) u)(G:Yh P w K mg base CX0 n g gd ["text"] (Xb 65))(bG:Binds K gd ["text"] [])(kG:W.keepIn K (.ref g)=true)(mG:mg "is_tag"=some (.ref g)):Yh P w K mg base CX0 (n+1) f fd ["self","name","tags"] (Bq C):=by
 refine F.oq Kt λJ5 A Z8 s H vs Q E hr h=>?_;obtain⟨D,S,y,l,J,rfl,kd,hl,l1,l4,wt,tn,b1,b2,b3,b4,q⟩:=h;have t:=Jg hr;refine⟨_,YW (Y4 (V8<|RC Gc Gc YX (Yr Yl rfl B.len Zs (pa1<|pv 2))<|JE rfl hM rM) (YZ Jn) Ys)
  (YW (Vq Zt rfl (V9<|pv 2) (Yb 3 Kt.nd)
   (YW (Y4 (V8<|V7<|Xx G hr rfl mG kG bG .nil VN (pa1<|pv 3)) (YZ Jn) Ys)
   (YW (Y4 (Jy<|WC t (pv 3)<|Y8 (pv 0) rfl) (YZ Jn) Ys)
   (YZ<|JP t (Y8 (pv 0) rfl) (pv 3) (pv 1) rfl))))
  (YW (JP t (Y8 (pv 0) rfl) (pv 1) (Y1 Dr (Vv<|pa1 Vu)<|VB Vw rfl B.list Vm (pa1<|pv 2)) rfl)
  (YW (JP t (Y8 (pv 0) rfl) (pv 1) YX rfl)
  (YZ<|JP t (Y8 (pv 0) rfl) (pv 1) YX rfl)))),?_⟩
 show let a:=_;let b:=Yg _ a;let c:=Yg _ b;let d:=_;let e:=_;let f:=Yg (VJ _ e _) d;let g:=_;let h:=Yg (VJ _ g _) f;let i:=Yg (Jt _ _ h) c;let j:=_;Yg (VJ _ j _) i _ _ _
 intros
 have lt:(J.map V.str).length=J.length:=ZA _;exists l,_,Y,.inr<|Z0 hl,_,rfl;refine Vf (by simp;omega) ?_;exists _,Y;refine Y6 (by simp;omega) ?_;exists ⟨_,Z0 hl⟩
 let I:kH:=λi U R=>KFr D H R/\∃L z,KD R C D {S with tk:=L}/\(∀x:Str,VI L (Sum.inr x)=if x∈J.take i then some (.str y)else VI S.tk (Sum.inr x))/\L.length<=S.tk.length+i/\R l=some (.tup<|J.map V.str)/\
  U=[some (.ref D.t),some<|.str y,some<|.ref l,z]
 refine RX (xs:=J.map V.str) I ⟨KFr.refl _ _,S.tk,_,kd,λx=>by simp,ZF _,hl,Y⟩ ?_ ?_ ?_
 .rintro i U R _ ⟨_,L,z,_,_,_,hl',_⟩
  exact Z0 hl'
 .rintro BB RR i v U R hv ⟨fr,L,z,kd',tv,tl,hl',rfl⟩
  rw[ZG]at hv
  cases hx:J[i]? with
  |none=>rw[hx]at hv;cases hv
  |some x=>
   rw[hx]at hv;cases hv;have mx:x∈J:=ZH hx
   have nx:x∉J.take i:=λhm=>by
    have q':(J.take i++[x]).Nodup:=by rw[<-take_snoc hx];exact wt.nd.sublist<|vm _ _
    exact(jh.mp q').2.2 x hm x (by simp) rfl
   have J4:=(ZE.mp hx).1;obtain⟨w1,w8⟩:=wt.len x mx;refine⟨x,Y,w1,w8,wt.abc x mx,λH2 s2=>⟨_,Y,?_⟩⟩;refine Y6 (by simp) ?_;have Z:=kd'.mono s2
   have gx:V1 H2 D.tk (.str x) none:=by
    have e:=tv x;rw[Zo nx,tn x mx]at e;rw[<-e];exact V1.k (k:=Sum.inr x) Z.tk
   exists C,_,_,_,Z.ins,T.cl,T.tk,Aw _,_,gx,_,Y;refine Y6 (by simp) ?_;refine⟨C,_,_,_,Z.ins,T.cl,T.tk,Aw _,_,Us.k (k:=Sum.inr x) Z.tk<|Yt (by show L.length<=1000;omega),?_⟩;have o:=s2 _ _ hl';refine⟨(fr.trans s2.kfr).put (by simp[KA6.ds]) _,putK L (Sum.inr x)<|.str y,_,Z.put_tk _,λX=>?_,?_,?_,rfl⟩
   .rw [UO]
    by_cases e:X=x
    .subst e
     rw[Zn rfl,Zn ((Uq hx).mpr<|.inr rfl)]
    .rw [Zo (λz=>e<|Sum.inr.inj z),tv X]
     have:(X∈J.take (i+1))↔X∈J.take i:=⟨λz=>((Uq hx).mp z).resolve_right e,λz=>(Uq hx).mpr<|.inl z⟩
     by_cases m:X∈J.take i
     .rw [Zn m,Zn (this.mpr m)]
     .rw [Zo m,Zo (λz=>m<|this.mp z)]
   .have:=JB L (Sum.inr x)<|.str y;omega
   .rw [Yd (JQ o Z.tk (by intro z;cases z))];exact o
 .rintro U R ⟨fr,L,z,kd',tv,tl,hl',rfl⟩
  rw[lt]at tl;rw[Ze (by omega)]at tv;refine⟨sl 1,λp1 r=>⟨l,_,Y,.inr<|Z0<|(Ye r _) _ _ hl',λp2 p=>?_⟩⟩;refine⟨p1,p2,_,_,Y,Y,(Yd<|Yj Ya p).trans Ya,Ya,Zf (Yt (by simp;omega)),λM J1=>?_⟩;have sx:Same R _:=((Ye r<|.lst [V.non]).trans<|Ye p<|.lst<|J.map V.str).trans<|Ye J1<|.lst<|[V.non]++ J.map V.str;have hp:upd (upd (upd R p1<|.lst [V.non]) p2<|.lst<|J.map V.str) M (.lst<|[V.non]++ J.map V.str) M=some (.lst (.non::J.map V.str)):=Ya;generalize upd (upd (upd R p1<|.lst [V.non]) p2<|.lst<|J.map V.str) M (.lst<|[V.non]++ J.map V.str)=H2 at sx hp |-;have Z:=kd'.mono sx;refine⟨C,_,_,_,Z.ins,T.cl,T.wo,OP _,_,Us.k (k:=Sum.inr y) Z.wo<|Yt (by show S.wo.length<=1000;omega),?_⟩;have O:=Z.put_wo<|putK S.wo (Sum.inr y)<|.ref M;have J2:upd H2 D.wo (.dK<|putK S.wo (Sum.inr y)<|.ref M) M=some (.lst (.non::J.map V.str)):=by rw[Yd (JQ hp Z.wo (by intro z;cases z))];exact hp
  refine⟨C,_,_,_,O.ins,T.cl,T.he,QQ _,_,Us.k (k:=Sum.inr y) O.he<|Yt (by show S.he.length<=1000;omega),?_⟩;have N:=O.put_he<|putK S.he (Sum.inr y)<|.int 1;refine⟨C,_,_,_,N.ins,T.cl,T.pd,QP _,_,Us.k (k:=Sum.inr y) N.pd<|Yt (by show S.pd.length<=1000;omega),?_⟩;have Z9:=N.put_pd<|putK S.pd (Sum.inr y)<|.int 0;refine q _ L M ?_ Z9 tv (by omega) ?_
  .exact ((((fr.trans sx.kfr).put (by simp[KA6.ds]) _).put (by simp[KA6.ds]) _).put (by simp[KA6.ds]) _)
  .have h3:=J2
   have h4:upd (upd H2 D.wo<|.dK<|putK S.wo (Sum.inr y)<|.ref M) D.he (.dK<|putK S.he (Sum.inr y)<|.int 1) M=some (.lst (.non::J.map V.str)):=by rw[Yd (JQ h3 O.he (by intro z;cases z))];exact h3
   rw[Yd (JQ h4 N.pd (by intro z;cases z))];exact h4
end
end K4
namespace L2
open PySem
structure Pt(H:Hp)(S:KC)(e:Str)(us:List W)(h p:Nat):Prop where
 sh:(VI S.sh (Sum.inr e)).isSome=true
 wo:∃l xs,VI S.wo (Sum.inr e)=some (.ref l)/\H l=some (.lst xs)/\HasL H xs (us.map W.dat)
 he:VI S.he (Sum.inr e)=some (.int h)
 pd:VI S.pd (Sum.inr e)=some (.int p)
end L2
namespace K4
open PySem L2
section
variable{f g C:Addr}
def Ma(C:Addr):Sp:=λT H Q _=>∃(A:KA6)(S:KC)(y e g:Str)(G Z:List W)(R O M L:Nat),T=[.ref A.t,.str y,.str e,.str g]/\KD H C A S/\Pt H S e G R M/\Pt H S g Z O L/\VI S.pk [Sum.inr e,Sum.inr g]=none/\
 1+max M L<=2/\1+G.length*Z.length<=30/\G.length<=30/\Z.length<=30/\S.pk.length<=100/\S.wo.length<=100/\S.he.length<=100/\S.pd.length<=100/\e≠y/\g≠y/\
 ∀J r,KFr A H J->KD J C A ⟨S.sh,putK S.wo (Sum.inr y)<|.ref r,putK S.he (Sum.inr y)<|.int (1+R+O:Nat),putK S.pd (Sum.inr y)<|.int (1+max M L:Nat),S.tk,putK S.pk [Sum.inr e,Sum.inr g]<|.str y⟩->
  (∃N,J r=some (.lst N)/\HasL J N ((W.non::G.flatMap λu=>Z.map λv=>W.pair u v).map W.dat))->Q .non J
def Mi:Yn ["self","name","one","other","deep","worths"] ["self","name","one","other"] (Yc B8):=Y7
def Qx:List.Nodup [("first":Str),"second","self","other"]:=by decide +kernel
def LX(B:Blt mg)(T:KCl K C)(F:Fun K "take_pair" "Kinds.take_pair" B8 f fd)(hM:mg "MOST_PAIRS_DEEP"=some u1)(rM:RelV (.int 2) u1)(T3:mg "MOST_WORTHS"=some u2)(N2:RelV (.int 30) u2):
  Yh P w K mg base CX0 (n+1) f fd ["self","name","one","other"] (Ma C):=by
 refine F.oq Mi λT6 A R1 s H vs Q E hr h=>?_;obtain⟨J,S,y,e,g,us,Z,he,hg,pe,pg,rfl,kd,Z9,Z8,pn,d2,T7,ul,vl,b0,b1,b2,b3,T5,T4,q⟩:=h;have I:=Jg hr;refine⟨_,YW (Y4 (PW.pt<|Jm (Jy<|UM I (pv 2)<|Y8 (pv 0) rfl)<|Jc<|Jy<|UM I (pv 3)<|Y8 (pv 0) rfl) (YZ Jn) Ys)
  (YW (Y4 (Jy<|WC I (Y0<|pa2 (pv 2)<|pv 3)<|Y8 (pv 0) rfl) (YZ Jn) Ys)
  (YW (Yk 4 Mi.nd<|Y1 Vr YX<|Yr (GO rfl) rfl B.max GQ (pa2 (JF I (Y8 (pv 0) rfl) (pv 2) λ_ _=>rfl)<|JF I (Y8 (pv 0) rfl) (pv 3) λ_ _=>rfl))
  (YW (Y4 (Yq Uz (pv 4) (JE rfl hM rM)<|Yy _) (YZ Jn) Ys)
  (YW (Yk 5 Mi.nd (Y1 Dr (Vv<|pa1 Vu) (Pe (wi2:=L6 K<|Qh (SL K (Wo 2) "worths")<|Wo 3) [0,3] (VF<|JF I (Y8 (pv 0) rfl) (pv 2) λ_ _=>rfl)
    (λcl C fp s H=>Yb 0 Qx rfl (Or.inl rfl) (Or.inr rfl)) (λcl C fp s H=>VF<|JF I (Y8 (pv 2) rfl) (pv 3) λ_ _=>rfl) (λcl C fp s H=>Yb 1 Qx rfl (Or.inl rfl) (Or.inr rfl))
    (λcl C fp s H=>Y0<|pa2 (pv 0)<|pv 1))))
  (YW (Y4 (Yq Uz (Yr Yl rfl B.len Zs (pa1<|pv 5)) (JE rfl T3 N2)<|Yy _) (YZ Jn) Ys)
  (YW (JP I (Y8 (pv 0) rfl) (Y0<|pa2 (pv 2)<|pv 3) (pv 1) rfl)
  (YW (JP I (Y8 (pv 0) rfl) (pv 1) (pv 5) rfl)
  (YW (JP I (Y8 (pv 0) rfl) (pv 1) (Y1 Vr (Y1 Vr YX<|JF I (Y8 (pv 0) rfl) (pv 2) λ_ _=>rfl)<|JF I (Y8 (pv 0) rfl) (pv 3) λ_ _=>rfl) rfl)
  (YZ<|JP I (Y8 (pv 0) rfl) (pv 1) (pv 4) rfl))))))))),?_⟩
 show let a:=_;let b:=Yg _ a;let c:=Yg _ b;let d:=Yg _ c;let e:=_;let f:=Yg (VJ _ e _) d;let g:=Yg _ f;let h:=_;let i:=Yg (VJ _ h _) g;let j:=Yg _ i;let k:=_;let l:=Yg (VJ _ k _) j;let m:=_;Yg (VJ _ m _) l _ _ _
 intros
 have fl:∀{H2:Hp},KD H2 C J S->H2 J.t=some (.ins C J.dx<|Gq J):=λk=>k.ins;have ge:V1 H J.sh (.str e) (VI S.sh<|Sum.inr e):=V1.k (k:=Sum.inr e) kd.sh;have gg:V1 H J.sh (.str g) (VI S.sh<|Sum.inr g):=V1.k (k:=Sum.inr g) kd.sh;exists C,_,_,_,kd.ins,T.cl,T.sh,ED _,_,ge,_,Y;refine Y6 (by rw[Z9.sh];simp) ?_;exists C,_,_,_,kd.ins,T.cl,T.sh,ED _,_,gg,_,Y;refine Y6 (by rw[Z8.sh];simp) ?_;refine⟨sl 2,λp1 R7=>?_⟩;refine up_in R7 _ λH1 s1 h1=>?_;have O:=kd.mono s1;have gp:V1 H1 J.pk (.ref p1) none:=by rw[<-pn];exact V1.t (k:=[Sum.inr e,Sum.inr g]) O.pk h1
 exists C,_,_,_,O.ins,T.cl,T.pk,Ax _,_,gp,_,Y;refine Y6 (by simp) ?_;refine⟨C,_,_,_,O.ins,T.cl,T.pd,QP _,_,by rw[<-Z9.pd];exact V1.k (k:=Sum.inr e) O.pd,?_⟩;exists C,_,_,_,O.ins,T.cl,T.pd,QP _,_,by rw[<-Z8.pd];exact V1.k (k:=Sum.inr g) O.pd,_,_,Y
 have em:(1+(if(pg:Int) > (pe:Int)then(pg:Int)else(pe:Int)))=((1+max pe pg:Nat):Int):=by
  by_cases z:pe<pg
  .rw [Zn (by omega),Nat.max_eq_right (Zf z)];omega
  .rw [Zo (by omega),Nat.max_eq_left (by omega)];omega
 dsimp only[Vp,rI0,XQ];rw[em];exists _,Y;refine Y6 (by simp;omega) ?_;obtain⟨l1,D,w1,w2,w3⟩:=Z9.wo;obtain⟨l2,M,v1,v2,v3⟩:=Z8.wo;have G1:=w3.length;have J5:=v3.length;rw[ZA]at G1 J5;refine⟨sl 1,λp2 R6=>?_⟩;refine up_in R6 _ λH2 s2 h2=>?_;have L1:=O.mono s2;have U:=s1.trans s2;exists C,_,_,_,L1.ins,T.cl,T.wo,OP _,.ref l1,by rw[<-w1];exact V1.k (k:=Sum.inr e) L1.wo,⟨D,Z1<|U _ _ w2⟩;refine Rf D.length (λi L H'=>Same H2 H'/\L.length=i*Z.length/\i<=us.length/\HasL H' L (((us.take i).flatMap λu=>Z.map λv=>W.pair u v).map W.dat)) ⟨Z6 _,by simp,Za _,by rw[jI];exact Z4⟩
  (λi L H' z=>Yt (by rw[z.2.1];have:i*Z.length<=us.length*Z.length:=vX _ z.2.2.1;omega)) ?_ ?_ ?_ ?_
 .intro i L H' hi z
  exact⟨D,D[i],Z1<|(U.trans z.1) _ _ w2,by simp[hi]⟩
 .intro L H' z
  exact⟨D,Z1<|(U.trans z.1) _ _ w2,ZF _⟩
 .intro i L H' x H'' R hi z yl hR
  obtain⟨rfl,yy⟩:=yl;have sz:=U.trans z.1;obtain⟨dx,o,T1⟩:=w3.get<|yy D<|Z1<|sz _ _ w2;rw[ZG]at o
  cases hu1:us[i]? with
  |none=>rw[hu1]at o;cases o
  |some u=>
   rw[hu1]at o;cases o;have G2:=kd.mono sz;exists C,_,_,_,G2.ins,T.cl,T.wo,OP _,.ref l2,by rw[<-v1];exact V1.k (k:=Sum.inr g) G2.wo,⟨M,Z1<|sz _ _ v2⟩;refine BL M.length (λj ws H3=>Same H'' H3/\ws.length=i*Z.length+j/\j<=Z.length/\HasL H3 ws (((us.take i).flatMap λu=>Z.map λv=>W.pair u v).map W.dat++ ((Z.take j).map λv=>W.pair u v).map W.dat)) ⟨Z6 _,by rw[z.2.1];rfl,Za _,by rw[jI,v7,v7,vE];exact z.2.2.2⟩
    (λj ws H3 N=>Yt (by
     rw[N.2.1];have:(i+1)*Z.length<=us.length*Z.length:=vX _ (by omega);rw[v0]at this;have:=N.2.2.1;omega)) ?_ ?_ ?_ ?_
   .intro j ws H3 hj N
    exact⟨M,M[j],Z1<|(sz.trans N.1) _ _ v2,by simp[hj]⟩
   .intro ws H3 N
    exact⟨M,Z1<|(sz.trans N.1) _ _ v2,ZF _⟩
   .intro j ws H3 x2 H4 T2 hj N yl2 hT
    obtain⟨rfl,M2⟩:=yl2;have s3:=sz.trans N.1;obtain⟨dz,r,T0⟩:=v3.get<|M2 M<|Z1<|s3 _ _ v2;rw[ZG]at r
    cases hv1:Z[j]? with
    |none=>rw[hv1]at r;cases r
    |some v=>
     rw[hv1]at r;cases r;refine⟨sl 2,λt ht=>hT _ _ ?_⟩;have st:=Ye ht<|.tup [x,x2];exists N.1.trans st,by rw[ZJ,N.2.1];rfl,(ZE.mp hv1).1;rw[take_snoc hv1,ZI,ZI,<-jf];refine Z5 (N.2.2.2.mono st)<|Z3 ?_;unfold W.dat Has;exact⟨t,_,Y,Ya,Z2 ((T1.mono s3).mono st)<|Z2 ((T0.mono s3).mono st) Z4⟩
   .intro ws H3 N
    have R8:M.length=Z.length:=J5;refine hR _ _ ⟨z.1.trans N.1,by rw[N.2.1,R8,v0],(ZE.mp hu1).1,?_⟩;have y4:=N.2.2.2;have et:Z.take M.length=Z:=Ze (by omega);rw[et]at y4;rw[IX _ hu1,ZI];exact y4
 .intro L H' p3 z hp3
  have s3:=Ye hp3<|.lst L;have h3:upd H' p3 (.lst L) p3=some (.lst L):=Ya;have z4:=z.2.2.2;rw[Ze (by omega)]at z4;have z5:=z4.mono s3;generalize upd H' p3 (.lst L)=H3 at s3 h3 z5 |-;have J2:=z.1.trans s3;have lz:L.length=us.length*Z.length:=by rw[z.2.1,G1]
  refine⟨p2,p3,[V.non],L,Y,Y,J2 _ _ h2,h3,Zf (Yt (by rw[lz];simp;omega)),λp4 R5=>?_⟩;have s4:=Ye R5<|.lst<|[V.non]++ L;have h4:upd H3 p4 (.lst<|[V.non]++ L) p4=some (.lst<|[V.non]++ L):=Ya;have z6:=z5.mono s4;generalize upd H3 p4 (.lst<|[V.non]++ L)=H4 at s4 h4 z6 |-;have J4:=(U.trans J2).trans s4;have J1:=kd.mono J4;have hw:HasL H4 ([V.non]++ L) ((W.non::us.flatMap λu=>Z.map λv=>W.pair u v).map W.dat):=Z2 E6 z6;exists p4,_,Y,.inl<|Z1 h4,_,rfl;refine Y6 (by simp;omega) ?_;refine⟨C,_,_,_,J1.ins,T.cl,T.pk,Ax _,sl 2,λp5 R4=>?_⟩;refine up_in R4 _ λH5 s5 h5=>?_;have G3:=J1.mono s5;refine⟨_,Us.t (k:=[Sum.inr e,Sum.inr g]) G3.pk h5<|Yt<|by omega,?_⟩;have p:=G3.put_pk<|putK S.pk [Sum.inr e,Sum.inr g]<|.str y;have f6:KFr J H (upd H5 J.pk<|.dT<|putK S.pk [Sum.inr e,Sum.inr g]<|.str y):=KFr.put (Same.kfr<|J4.trans s5) (by simp[KA6.ds]) _;have t6:TL H4 (upd H5 J.pk<|.dT<|putK S.pk [Sum.inr e,Sum.inr g]<|.str y):=(KFr.put (Same.kfr s5) (by simp[KA6.ds]) _:KFr J H4 _).tl J1;generalize upd H5 J.pk (.dT<|putK S.pk [Sum.inr e,Sum.inr g]<|.str y)=H6 at p f6 t6 |-;refine⟨C,_,_,_,p.ins,T.cl,T.wo,OP _,_,Us.k (k:=Sum.inr y) p.wo<|Yt (by show S.wo.length<=1000;omega),?_⟩;have G:=p.put_wo<|putK S.wo (Sum.inr y)<|.ref p4;have f7:=f6.put (x:=J.wo) (by simp[KA6.ds])<|.dK<|putK S.wo (Sum.inr y)<|.ref p4;have t7:=t6.trans<|(KFr.put (KFr.refl J H6) (x:=J.wo) (by simp[KA6.ds])<|.dK<|putK S.wo (Sum.inr y)<|.ref p4).tl p;generalize upd H6 J.wo (.dK<|putK S.wo (Sum.inr y)<|.ref p4)=H7 at G f7 t7 |-;refine⟨C,_,_,_,G.ins,T.cl,T.he,QQ _,_,by rw[<-Z9.he];exact V1.k (k:=Sum.inr e) G.he,?_⟩;refine⟨C,_,_,_,G.ins,T.cl,T.he,QQ _,_,by rw[<-Z8.he];exact V1.k (k:=Sum.inr g) G.he,?_⟩;refine⟨C,_,_,_,G.ins,T.cl,T.he,QQ _,_,Us.k (k:=Sum.inr y) G.he<|Yt (by show S.he.length<=1000;omega),?_⟩;have eh:(1+(he:Int)+(hg:Int))=((1+he+hg:Nat):Int):=by push_cast;rfl
  dsimp only[rI0,rI,XQ];rw[eh];have X:=G.put_he<|putK S.he (Sum.inr y)<|.int ((1+he+hg:Nat):Int);have f8:=f7.put (x:=J.he) (by simp[KA6.ds])<|.dK<|putK S.he (Sum.inr y)<|.int ((1+he+hg:Nat):Int);have t8:=t7.trans<|(KFr.put (KFr.refl J H7) (x:=J.he) (by simp[KA6.ds])<|.dK<|putK S.he (Sum.inr y)<|.int ((1+he+hg:Nat):Int)).tl G;generalize upd H7 J.he (.dK<|putK S.he (Sum.inr y)<|.int ((1+he+hg:Nat):Int))=H8 at X f8 t8 |-;refine⟨C,_,_,_,X.ins,T.cl,T.pd,QP _,_,Us.k (k:=Sum.inr y) X.pd<|Yt (by show S.pd.length<=1000;omega),?_⟩;have R3:=X.put_pd<|putK S.pd (Sum.inr y)<|.int ((1+max pe pg:Nat):Int);have f9:=f8.put (x:=J.pd) (by simp[KA6.ds])<|.dK<|putK S.pd (Sum.inr y)<|.int ((1+max pe pg:Nat):Int);have t9:=t8.trans<|(KFr.put (KFr.refl J H8) (x:=J.pd) (by simp[KA6.ds])<|.dK<|putK S.pd (Sum.inr y)<|.int ((1+max pe pg:Nat):Int)).tl X;exact q _ p4 f9 R3 ⟨_,t9.2 _ _ h4,HasL.tl t9 _ hw⟩
end
end K4
namespace L2
open PySem
def zJ(G:KK top c d J)(L:y∈J.map (·.1)):c y<=5\/c y<=top:=by
 obtain⟨s,M⟩:=JC L;have Z:=G.at M
 cases s with
 |tags B=>obtain⟨T,R,O,_⟩:=Z;exact .inl<|by omega
 |pair a b=>obtain⟨T,R,O,N,_⟩:=Z;exact .inr N
def Nf{L:kL}(e:Z.map (·.1)=L.map (λk=>(Sum.inr k.1:Key)))(h:y∉L.map (·.1)):VI Z (Sum.inr y)=none:=by
 unfold VI
 cases q:Z.find? λJ=>decide (J.1=Sum.inr y)with
 |none=>rfl
 |some J=>
  have m:=vb q;have M:=List.find?_some q;have z:J.1=Sum.inr y:=Zr M;have G:(Sum.inr y:Key)∈Z.map (·.1):=ZU.mpr ⟨J,m,z⟩;rw[e]at G;obtain⟨k,N,O⟩:=ZU.mp G;exact Zp (ZU.mpr ⟨k,N,Sum.inr.inj O⟩) h
def Uj{Z:kL}{s:Shp}(h:z∈(Z++[(y,s)]).map (·.1))(n:z≠y):z∈Z.map (·.1):=by
 rw[ZI,ZV]at h;rcases h with h|h
 .exact h
 .exact Zp (ZO.mp h) n
def KR.snoc(k:KR H S Z d)(t:TL H A)(L:KK 30 c d Z)(P:KK1 30 c d (Z.map (·.1)) y s)(E:y∉Z.map (·.1))(M:S'.sh=putK S.sh (Sum.inr y) v)(hv:Has A v s.dat)(R:S'.wo=putK S.wo (Sum.inr y) (.ref r))(hr:∃D,A r=some (.lst D)/\HasL A D ((wOf Z 3 s).map W.dat))(B:S'.he=putK S.he (Sum.inr y) (.int (hOf Z 3 s:Nat)))(T:S'.pd=putK S.pd (Sum.inr y) (.int (d y:Nat)))(C:∀x:Str,VI S'.tk (Sum.inr x)=if Je x s=true then some (.str y)else VI S.tk (Sum.inr x))(i:S'.tk.length<=S.tk.length+4)(I:∀x,Je x s=true->JY Z x=none)(X:∀a b:Str,VI S'.pk [Sum.inr a,Sum.inr b]=if JO a b s=true then some (.str y)else VI S.pk [Sum.inr a,Sum.inr b])(h:S'.pk.length<=S.pk.length+4)(U:∀a b,JO a b s=true->JA Z a b=none):
  KR A S' (Z++[(y,s)]) d:=by
 have Q:=k.tl t;have j:=Nf k.ke E
 have hw:VG (Z++[(y,s)]) 3 y=wOf Z 3 s:=by
  rw[Wn (Tn E)]
  cases s with
  |tags m=>rfl
  |pair a b=>
   obtain⟨O,N,w,u,f,p⟩:=P;have o:=vF (d a)<|d b;have l:=vw (d a)<|d b;show(W.non::_)=(W.non::_);rw[J7 L _ 2 a O,J7 L _ 2 b N,Ue L 2 3 a O (by omega)<|by omega,Ue L 2 3 b N (by omega) (by omega)]
 have hh:WF (Z++[(y,s)]) 3 y=hOf Z 3 s:=by
  rw[We (Tn E)]
  cases s with
  |tags m=>rfl
  |pair a b=>
   obtain⟨O,N,w,u,f,p⟩:=P;have o:=vF (d a)<|d b;have l:=vw (d a)<|d b;show 1+_+_=1+_+_;rw[U0 L _ 2 a O,U0 L _ 2 b N,X1 L 2 3 a O (by omega)<|by omega,X1 L 2 3 b N (by omega) (by omega)]
 have F:∀{z:Str},z≠y->¬(Sum.inr z:Key)=Sum.inr y:=λn q=>n<|Sum.inr.inj q;obtain⟨b1,b2,b3,b4,b5,b6⟩:=k.ln;exists ?_,λz g G=>?_,λz G=>?_,λz G=>?_,λz G=>?_,λx=>?_,λa b=>?_
 .rw [M,Ux v j,ZI,ZI,k.ke];rfl
 .rw [M,UO]
  by_cases e:z=y
  .subst e
   rw[Tn E]at G;cases G;rw[Zn rfl];exact⟨v,Y,hv⟩
  .rw [Zo (F e)]
   have J:=Uj (ZU.mpr ⟨_,JU G,rfl⟩) e;rw[Wu J]at G;exact Q.sh z g G
 .rw [R,UO]
  by_cases e:z=y
  .subst e
   rw[Zn rfl,hw];obtain⟨D,g1,g2⟩:=hr;exact⟨r,D,Y,g1,g2⟩
  .rw [Zo (F e)]
   have J:=Uj G e;rw[J7 L _ 3 z J];exact Q.wo z J
 .rw [B,UO]
  by_cases e:z=y
  .subst e
   rw[Zn rfl,hh]
  .rw [Zo (F e)]
   have J:=Uj G e;rw[U0 L _ 3 z J];exact k.he z J
 .rw [T,UO]
  by_cases e:z=y
  .subst e
   rw[Zn rfl]
  .rw [Zo (F e)]
   exact k.pd z<|Uj G e
 .rw [C x]
  have e:JY (Z++[(y,s)]) x=(JY Z x).or (if Je x s=true then some y else none):=by
   unfold JY;rw[X4]
   cases Z.find? λk=>Je x k.2 with
   |some k=>rfl
   |none=>
    show Option.map _ (if Je x s=true then some (y,s)else none)=_;cases Je x s <;> rfl
  rw[e]
  cases hx:Je x s with
  |true=>rw[I x hx];rfl
  |false=>
   rw[k.tk x];cases JY Z x <;> rfl
 .rw [X a b]
  have e:JA (Z++[(y,s)]) a b=(JA Z a b).or (if JO a b s=true then some y else none):=by
   unfold JA;rw[X4]
   cases Z.find? λk=>JO a b k.2 with
   |some k=>rfl
   |none=>
    show Option.map _ (if JO a b s=true then some (y,s)else none)=_;cases JO a b s <;> rfl
  rw[e]
  cases hx:JO a b s with
  |true=>rw[U a b hx];rfl
  |false=>
   rw[k.pk a b];cases JA Z a b <;> rfl
 .rw [ZJ,yn,M,R,B,T]
  have:=JB S.sh (Sum.inr y) v;have:=JB S.wo (Sum.inr y)<|.ref r;have:=JB S.he (Sum.inr y)<|.int (hOf Z 3 s:Nat);have:=JB S.pd (Sum.inr y)<|.int (d y:Nat);exact⟨by omega,by omega,by omega,by omega,by omega,by omega⟩
end L2
namespace K4
open PySem L2
section
variable{f g C gt gp gn:Addr}
def Mc(C:Addr):Sp:=λM H Q _=>∃(A:KA6)(S:KC)(y:Str)(v:V)(s:Shp)(Z:kL)(c d:kM),M=[.ref A.t,.str y,v]/\KD H C A S/\KR H S Z d/\KK 30 c d Z/\KK1 30 c d (Z.map (·.1)) y s/\y∉Z.map (·.1)/\
 (1<=y.length/\y.length<=8/\∀c∈y.cps.toList,97<=c/\c<97+26)/\(∀G,s=.tags G->Wds 65 G)/\(∀x,Je x s=true->JY Z x=none)/\(∀a b,JO a b s=true->JA Z a b=none)/\Has H v s.dat/\Z.length<=6/\
 ∀J L,KFr A H J->KD J C A L->KR J L (Z++[(y,s)]) d->Q .non J
def yW(A:KA6):(Gq A).lookup ("take_tags":Str)=none:=rfl
def yX(A:KA6):(Gq A).lookup ("take_pair":Str)=none:=rfl
def O9:Yn ["self","name","shape"] ["self","name","shape"] (Yc DE):=Y7
def La(B:Blt mg)(T:KCl K C)(F:Fun K "take" "Kinds.take" DE f fd)(GN:Yh P w K mg base CX0 n gn nd' ["text"] (Xb 97))(bN:Binds K nd' ["text"] [])(kN:W.keepIn K (.ref gn)=true)(mN:mg "is_name"=some (.ref gn))(GT:Yh P w K mg base CX0 n gt td ["self","name","tags"] (Bq C))(bT:Binds K td ["self","name","tags"] [])(mT:Vk K C "take_tags" gt)(GP:Yh P w K mg base CX0 n gp pd' ["self","name","one","other"] (Ma C))(bP:Binds K pd' ["self","name","one","other"] [])(mP:Vk K C "take_pair" gp):
  Yh P w K mg base CX0 (n+1) f fd ["self","name","shape"] (Mc C):=by
 refine F.oq O9 λJ5 A Z8 s H vs Q E hr h=>?_;obtain⟨M,S,y,v,s,U,c,d,rfl,kd,R,o,k1,ny,⟨y1,y8,yc⟩,wt,D,I,hv,k6,q⟩:=h;have hu:=Jg hr;refine⟨_,YW (Y4 (V8<|V7<|Xx GN hr rfl mN kN bN .nil VN (pa1<|pv 1)) (YZ Jn) Ys)
  (YW (Y4 (Jy<|WC hu (pv 1)<|Y8 (pv 0) rfl) (YZ Jn) Ys)
  (YW (Y4 (PW.pt<|XG (Yq JK (Yr Yl rfl B.len Zs (pa1<|pv 2)) YX<|Yy _)<|UH<|Yq JK (Ym Yp (pv 2) YX) VA<|Yy _)
   (YZ<|Ve<|Vg (pv 0) T.cl mT GT hr bT .nil VN<|pa2 (pv 1)<|Ym Yp (pv 2) YX)
   (YZ (Y4 (PW.pt<|XG (Yq JK (Yr Yl rfl B.len Zs (pa1<|pv 2)) YX<|Yy _)<|UH<|Yq JK (Ym Yp (pv 2) YX) VA<|Yy _)
    (YZ<|Ve<|Vg (pv 0) T.cl mP GP hr bP .nil VN<|pa3 (pv 1) (Ym Yp (pv 2) YX)<|Ym Yp (pv 2) YX)
    (YZ Jn))))
  (YZ<|JP hu (Y8 (pv 0) rfl) (pv 1) (pv 2) rfl))),?_⟩
 show let a:=_;let b:=_;let c:=_;let d:=_;let e:=VJ _ c d;let f:=Yg (VJ _ b e) a;let g:=_;let h:=Yg (VJ _ g _) f;let i:=_;Yg (VJ _ i _) h _ _ _
 intros
 refine⟨y,Y,y1,y8,yc,λH1 s1=>⟨_,Y,?_⟩⟩;refine Y6 (by simp) ?_;have J:=kd.mono s1;have X:=R.tl s1.tl;have N:=hv.mono s1;have gn:V1 H1 M.sh (.str y) none:=by rw[<-Nf R.ke ny];exact V1.k (k:=Sum.inr y) J.sh
 exists C,_,_,_,J.ins,T.cl,T.sh,ED _,_,gn,_,Y;refine Y6 (by simp) ?_;obtain⟨b1,b2,b3,b4,b5,b6⟩:=R.ln
 cases s with
 |tags u=>
  obtain⟨p,l,rfl,O,hl⟩:=Xn N;have l2:([V.str "tags",V.ref l]:kF).length=2:=rfl;exists p,_,Y,.inr<|Z0 O,rfl,_,rfl;refine Vf (by simp) ?_;exists _,_,Z0 O,Y,Y,_,Y;refine Vf (by simp) ?_;obtain⟨t1,t4,_,t0,_⟩:=k1;refine⟨_,_,J.ins,yW _,_,_,Z0 O,Y,M,S,y,l,u,Y,J,hl,t1,t4,wt u Y,λx hx=>?_,by omega,by omega,by omega,by omega,λH2 J4 r f2 Z tv tl t=>?_⟩
  .rw [R.tk x,D x (by unfold Je;exact decide_eq_true hx)];rfl
  .have tl2:=f2.tl J
   refine⟨C,_,_,_,Z.ins,T.cl,T.sh,ED _,_,Us.k (k:=Sum.inr y) Z.sh<|Yt (by show S.sh.length<=1000;omega),?_⟩;have j:=Z.put_sh<|putK S.sh (Sum.inr y)<|.ref p;have f3:=f2.put (x:=M.sh) (by simp[KA6.ds])<|.dK<|putK S.sh (Sum.inr y)<|.ref p;have G:=tl2.trans<|(KFr.put (KFr.refl M H2) (x:=M.sh) (by simp[KA6.ds])<|.dK<|putK S.sh (Sum.inr y)<|.ref p).tl Z;have L:=(KFr.put (KFr.refl M H2) (x:=M.sh) (by simp[KA6.ds])<|.dK<|putK S.sh (Sum.inr y)<|.ref p).tl Z;refine q _ _ (s1.kfr.trans f3) j<|KR.snoc (v:=.ref p) (r:=r) X G o ⟨t1,t4,by assumption,t0,by assumption⟩ ny rfl (Has.tl G _ N) rfl ⟨_,L.2 _ _ t,?_⟩ rfl (by rw[t0];rfl) (λx=>?_) tl D (λa b=>rfl) (jU _ _) I
   .show HasL _ (V.non::u.map V.str) ((W.non::u.map W.tag).map W.dat)
    exact Z2 E6<|Np u
   .rw [tv x]
    unfold Je
    by_cases m:x∈u
    .rw [Zn m,Zn (decide_eq_true m)]
    .rw [Zo m,Zo (by simp[m])]
 |pair a b=>
  obtain⟨p,rfl,O⟩:=WG N;obtain⟨q1,q2,q3,q4,q5,q6⟩:=id k1;have m1:=vF (d a)<|d b;have m2:=vw (d a)<|d b;exists p,_,Y,.inr<|Z0 O,rfl,_,rfl;refine Y6 (by simp) ?_;refine Y6 (by simp) ?_;exists p,_,Y,.inr<|Z0 O,rfl,_,rfl;refine Vf (by simp) ?_;exists _,_,Z0 O,Y,Y,_,Y;refine Vf (by simp) ?_;obtain⟨la,pa,_⟩:=Ut o 3 a q1 (by omega);obtain⟨lb,pb,_⟩:=Ut o 3 b q2<|by omega
  have pt:∀z,z∈U.map (·.1)->Pt H1 S z (VG U 3 z) (WF U 3 z) (d z):=λz hz=>by
   obtain⟨s',J2⟩:=JC hz;obtain⟨v',e1,_⟩:=R.sh z s' J2;exact⟨by rw[e1];rfl,X.wo z hz,R.he z hz,R.pd z hz⟩
  have ca:c a<=30:=by rcases zJ o q1 with h|h <;> omega
  have cb:c b<=30:=by rcases zJ o q2 with h|h <;> omega
  refine⟨_,_,J.ins,yX _,_,_,Z0 O,Y,_,_,Z0 O,Y,M,S,y,a,b,VG U 3 a,VG U 3 b,WF U 3 a,WF U 3 b,d a,d b,Y,J,pt a q1,pt b q2,?_,by omega,?_,by omega,by omega,by omega,by omega,by omega,by omega,λz=>by subst z;exact ny q1,λz=>by subst z;exact ny q2,λH2 r f2 Z t=>?_⟩
  .rw [R.pk a b,I a b (by unfold JO;simp)];rfl
  .rw [la,lb];omega
  .have tl2:=f2.tl J
   refine⟨C,_,_,_,Z.ins,T.cl,T.sh,ED _,_,Us.k (k:=Sum.inr y) Z.sh<|Yt (by show S.sh.length<=1000;omega),?_⟩;have j:=Z.put_sh<|putK S.sh (Sum.inr y)<|.ref p;have f3:=f2.put (x:=M.sh) (by simp[KA6.ds])<|.dK<|putK S.sh (Sum.inr y)<|.ref p;have L:=(KFr.put (KFr.refl M H2) (x:=M.sh) (by simp[KA6.ds])<|.dK<|putK S.sh (Sum.inr y)<|.ref p).tl Z;have G:=tl2.trans L;obtain⟨xs,J1,Z9⟩:=t;refine q _ _ (s1.kfr.trans f3) j<|KR.snoc (v:=.ref p) (r:=r) X G o k1 ny rfl (Has.tl G _ N) rfl ⟨xs,L.2 _ _ J1,HasL.tl L _ Z9⟩ rfl (by rw[q5]) (λx=>rfl) (jU _ _) D (λe g=>?_) (by have:=JB S.pk [Sum.inr a,Sum.inr b]<|.str y;show(putK S.pk [Sum.inr a,Sum.inr b]<|V.str y).length<=_;omega) I;show VI (putK S.pk [Sum.inr a,Sum.inr b]<|V.str y) [Sum.inr e,Sum.inr g]=_;rw[UO];unfold JO
   by_cases h1:a=e
   .by_cases h2:b=g
    .subst h1 h2;simp
    .have z:¬([Sum.inr e,Sum.inr g]:List Key)=[Sum.inr a,Sum.inr b]:=λw=>by injection w with w1 w2;injection w2 with w2 _;exact h2 (Sum.inr.inj w2).symm
     rw[Zo z,Zo (by simp[h2])]
   .have z:¬([Sum.inr e,Sum.inr g]:List Key)=[Sum.inr a,Sum.inr b]:=λw=>by injection w with w1 _;exact h1 (Sum.inr.inj w1).symm
    rw[Zo z,Zo (by simp[h1])]
end
end K4
namespace L2
open PySem
def JX(L:H x=some (.ins C Z fs))(G:H p=none):
  upd (upd H p o) x (.ins C Z<|Vc f (.ref p) fs) x=some (.ins C Z<|Vc f (.ref p) fs)/\upd (upd H p o) x (.ins C Z<|Vc f (.ref p) fs) p=some o/\p≠x/\∀b u,b≠x->H b=some u->upd (upd H p o) x (.ins C Z<|Vc f (.ref p) fs) b=some u:=by
 have J:p≠x:=(Yj L G).symm;exact⟨Ya,(Yd J).trans Ya,J,λb u M h=>by rw[Yd M,Yd (Yj h G)];exact h⟩
def KK.take(h:KK top c d J)(i:Nat):KK top c d (J.take i):=λj y s e=>by
 have Z:j<i:=by
  have:=(ZE.mp e).1;rw[ZL]at this;omega
 rw[vz,Zn Z]at e;have q:=h j y s e;rw[jJ,vh (Zf Z)];exact q
def KG.apart(g:KG G){i j:Nat}(M:G[i]?=some (y,.tags J))(L:G[j]?=some (z,.tags Z))(O:x∈J)(N:x∈Z):i=j:=g.ap i j y z J Z x M L O N
def KG.ntk(g:KG Z)(T:Z[i]?=some (y,s))(x:Str)(h:Je x s=true):JY (Z.take i) x=none:=by
 cases s with
 |pair a b=>cases h
 |tags N=>
  have R:x∈N:=Zr h;unfold JY
  cases e:(Z.take i).find? λk=>Je x k.2 with
  |none=>rfl
  |some k=>
   have m:=vb e;have q:=List.find?_some e;obtain⟨z,O⟩:=k
   cases O with
   |pair a b=>cases q
   |tags L=>
    have J:x∈L:=Zr q;obtain⟨j,M,B⟩:=jw.mp m;have G:j<i:=by rw[ZL]at M;omega
    have D:Z[j]?=some (z,.tags L):=by
     have:=ZC M;rw[B,vz,Zn G]at this;exact this
    have:=g.apart T D R J;omega
def KG.npk(g:KG J)(N:J[i]?=some (y,s))(a b:Str)(h:JO a b s=true):JA (J.take i) a b=none:=by
 have L:∀{Z:Shp},JO a b Z=true->Z=.pair a b:=λ{Z} h=>by
  cases Z with
  |tags D=>cases h
  |pair c e=>
   unfold JO at h;rw[ZX]at h;rw[Zr h.1,Zr h.2]
 unfold JA
 cases e:(J.take i).find? λk=>JO a b k.2 with
 |none=>rfl
 |some k=>
  have m:=vb e;have q:=List.find?_some e;obtain⟨z,Z⟩:=k;have B:=L h;have R:Z=.pair a b:=L q;subst B R;obtain⟨j,M,O⟩:=jw.mp m;have G:j<i:=by rw[ZL]at M;omega
  have T:J[j]?=some (z,.pair a b):=by
   have:=ZC M;rw[O,vz,Zn G]at this;exact this
  have:=g.pr i j y z a b N T;omega
end L2
namespace K4
open PySem L2
section
variable{f g C gt:Addr}
def Bt(C:Addr):Sp:=λL H Q _=>∃(x M l:Addr)(G:kF)(Z:kL)(c d:kM),L=[.ref x,.ref l]/\H x=some (.ins C M [])/\H l=some (.lst G)/\HasL H G (Z.map Vx)/\KK 30 c d Z/\(Z.map (·.1)).Nodup/\KG Z/\0<Z.length/\Z.length<=6/\
 ∀J,(∀b o,b≠x->H b=some o->J b=some o)->KI J C x Z d->Q .non J
def zH(A:KA6):(Gq A).lookup ("take":Str)=none:=rfl
def B2:Yn ["self","told","name","shape"] ["self","told"] (Yc LC):=Y7
def P0(B:Blt mg)(T:KCl K C)(F:Fun K "__init__" "Kinds.__init__" LC f fd)(hM:mg "MOST_KINDS"=some u)(rM:RelV (.int 6) u)(GT:Yh P w K mg base CX0 n gt td ["self","name","shape"] (Mc C))(bT:Binds K td ["self","name","shape"] [])(mT:Vk K C "take" gt):
  Yh P w K mg base CX0 (n+1) f fd ["self","told"] (Bt C):=by
 refine F.oq B2 λI5 A R6 s H vs Q E hr h=>?_;obtain⟨x,M,l,xs,ks,c,d,rfl,hx,hl,J2,kk,nd,kg,k0,k6,q⟩:=h;refine⟨_,YW (Y4 (V8<|RC Gc Gc YX (Yr Yl rfl B.len Zs (pa1<|pv 1))<|JE rfl hM rM) (YZ Jn) Ys)
  (YW (Jz (pv 0) JJ rfl) (YW (Jz (pv 0) JJ rfl) (YW (Jz (pv 0) JJ rfl) (YW (Jz (pv 0) JJ rfl) (YW (Jz (pv 0) JJ rfl) (YW (Jz (pv 0) LR rfl)
  (YZ (Vq Zt rfl (VF<|pv 1) (VO (n:=2) rfl (Yi (Yb 2 B2.nd)<|Yi (Yb 3 B2.nd) VC))
   (YZ<|Ve<|Vg (pv 0) T.cl mT GT hr bT .nil VN<|pa2 (pv 2)<|pv 3))))))))),?_⟩
 show let a:=_;let b:=Jt _ _ a;let c:=Yg _ b;let d:=Yg _ c;let e:=Yg _ d;let f:=Yg _ e;let g:=Yg _ f;let h:=Yg _ g;let i:=_;Yg (VJ _ i _) h _ _ _
 intros
 have lx:=J2.length;rw[ZA]at lx;exists l,_,Y,.inl<|Z1 hl,_,rfl;refine Vf (by simp;omega) ?_;exists _,Y;refine Y6 (by simp;omega) ?_;intro X Z8;refine⟨x,C,M,_,Y,by rw[Yd (Yj hx Z8)];exact hx,T.cl,T.sh,by decide,?_⟩;obtain⟨x1,a1,n1,r⟩:=JX (f:="shapes") (o:=.dK []) hx Z8;generalize upd (upd H X<|.dK []) x (.ins C M<|Vc "shapes" (.ref X) [])=H1 at x1 a1 r |-;intro p2 N;refine⟨x,C,M,_,Y,by rw[Yd (Yj x1 N)];exact x1,T.cl,T.wo,(by show 1<1000;decide),?_⟩;obtain⟨x2,a2,n2,p⟩:=JX (f:="worths") (o:=.dK []) x1 N;generalize upd (upd H1 p2<|.dK []) x (.ins C M<|Vc "worths" (.ref p2)<|Vc "shapes" (.ref X) [])=H2 at x2 a2 p |-;intro p3 L;refine⟨x,C,M,_,Y,by rw[Yd (Yj x2 L)];exact x2,T.cl,T.he,(by show 2<1000;decide),?_⟩;obtain⟨x3,a3,n3,k⟩:=JX (f:="heights") (o:=.dK []) x2 L;generalize upd (upd H2 p3<|.dK []) x (.ins C M<|Vc "heights" (.ref p3)<|Vc "worths" (.ref p2)<|Vc "shapes" (.ref X) [])=H3 at x3 a3 k |-;intro p4 G;refine⟨x,C,M,_,Y,by rw[Yd (Yj x3 G)];exact x3,T.cl,T.pd,(by show 3<1000;decide),?_⟩;obtain⟨x4,a4,n4,m⟩:=JX (f:="pairs_deep") (o:=.dK []) x3 G;generalize upd (upd H3 p4<|.dK []) x (.ins C M<|Vc "pairs_deep" (.ref p4)<|Vc "heights" (.ref p3)<|Vc "worths" (.ref p2)<|Vc "shapes" (.ref X) [])=H4 at x4 a4 m |-;intro p5 J;refine⟨x,C,M,_,Y,by rw[Yd (Yj x4 J)];exact x4,T.cl,T.tk,(by show 4<1000;decide),?_⟩;obtain⟨x5,a5,n5,t⟩:=JX (f:="tag_kinds") (o:=.dK []) x4 J;generalize upd (upd H4 p5<|.dK []) x (.ins C M<|Vc "tag_kinds" (.ref p5)<|Vc "pairs_deep" (.ref p4)<|Vc "heights" (.ref p3)<|Vc "worths" (.ref p2)<|Vc "shapes" (.ref X) [])=H5 at x5 a5 t |-;intro p6 Z;refine⟨x,C,M,_,Y,by rw[Yd (Yj x5 Z)];exact x5,T.cl,T.pk,(by show 5<1000;decide),?_⟩;obtain⟨x6,a6,n6,j⟩:=JX (f:="pair_kinds") (o:=.dT []) x5 Z;generalize upd (upd H5 p6<|.dT []) x (.ins C M<|Vc "pair_kinds" (.ref p6)<|Vc "tag_kinds" (.ref p5)<|Vc "pairs_deep" (.ref p4)<|Vc "heights" (.ref p3)<|Vc "worths" (.ref p2)<|Vc "shapes" (.ref X) [])=H6 at x6 a6 j |-
 let D:KA6:=⟨x,M,X,p2,p3,p4,p5,p6⟩
 have frame:∀b o,b≠x->H b=some o->H6 b=some o:=λb o R h=>j b o R<|t b o R<|m b o R<|k b o R<|p b o R<|r b o R h;have R4:=p _ _ n1 a1;have R3:=k _ _ n1 R4;have R1:=m _ _ n1 R3;have N2:=t _ _ n1 R1;have I3:=j _ _ n1 N2;have M2:=k _ _ n2 a2;have L1:=m _ _ n2 M2;have G3:=t _ _ n2 L1;have I2:=j _ _ n2 G3;have G2:=m _ _ n3 a3;have G1:=t _ _ n3 G2;have I1:=j _ _ n3 G1;have J5:=t _ _ n4 a4;have I0:=j _ _ n4 J5;have F9:=j _ _ n5 a5
 have R8:D.ds.Nodup:=by
  have F8:=Yj a1 N;have F7:=Yj R4 L;have F6:=Yj R3 G;have F5:=Yj R1 J;have F4:=Yj N2 Z;have F3:=Yj a2 L;have F2:=Yj M2 G;have F1:=Yj L1 J;have D3:=Yj G3 Z;have D0:=Yj a3 G;have T9:=Yj G2 J;have T8:=Yj G1 Z;have T7:=Yj a4 J;have T6:=Yj J5 Z;have T5:=Yj a5 Z;simp[KA6.ds,D,F8,F7,F6,F5,F4,F3,F2,F1,D3,D0,T9,T8,T7,T6,T5]
 have kd:KD H6 C D ⟨[],[],[],[],[],[]⟩:=⟨x6,I3,I2,I1,I0,F9,a6,R8⟩
 have R7:∀b,b∈D.ds->H b=none:=λb R=>by
  cases e:H b with
  |none=>rfl
  |some o=>
   simp only[KA6.ds,D,Zb,vP,or_false]at R;rcases R with z|z|z|z|z|z
   .subst z;rw[Z8]at e;cases e
   .subst z;rw[r _ _ n2 e]at N;cases N
   .subst z;rw[p _ _ n3 (r _ _ n3 e)]at L;cases L
   .subst z;rw[k _ _ n4 (p _ _ n4<|r _ _ n4 e)]at G;cases G
   .subst z;rw[m _ _ n5 (k _ _ n5<|p _ _ n5<|r _ _ n5 e)]at J;cases J
   .subst z;rw[t _ _ n6 (m _ _ n6<|k _ _ n6<|p _ _ n6<|r _ _ n6 e)]at Z;cases Z
 have T0:l≠x:=JQ hl hx (by intro z;cases z);have J4:=frame _ _ T0 hl;have Z9:TL H H6:=⟨λb ys h=>frame _ _ (JQ h hx (by intro z;cases z)) h,λb ys h=>frame _ _ (JQ h hx (by intro z;cases z)) h⟩;have T2:=HasL.tl Z9 _ J2;exists ⟨_,Z1 J4⟩
 let I:kH:=λi U H'=>∃S z1 z2,KFr D H6 H'/\KD H' C D S/\KR H' S (ks.take i) d/\U=[some (.ref x),some<|.ref l,z1,z2]
 refine UK (xs:=xs) I ⟨_,_,_,KFr.refl _ _,kd,?_,Y⟩ ?_ ?_ ?_
 .rw [jI]
  exact⟨Y,λy s e=>by simp[VS]at e,λy hy=>by simp at hy,λy hy=>by simp at hy,λy hy=>by simp at hy,λy=>Y,λa b=>Y,by decide⟩
 .rintro i U H' _ ⟨S,z1,z2,fr,kd',kr',rfl⟩
  exact Z1<|(fr.tl kd).2 _ _ J4
 .rintro BB RR i v U H' hv ⟨S,z1,z2,fr,kd',kr',rfl⟩
  have I4:=(ZE.mp hv).1;obtain⟨dv,O,T4⟩:=T2.get hv;rw[ZG]at O
  cases hk:ks[i]? with
  |none=>rw[hk]at O;cases O
  |some ys=>
   rw[hk]at O;cases O;obtain⟨y,sh⟩:=ys;have R5:=fr.tl kd;obtain⟨a,v2,rfl,ha,T3⟩:=UA<|Has.tl R5 _ T4;have my:y∈ks.map (·.1):=ZU.mpr ⟨_,ZH hk,rfl⟩
   have ny:y∉(ks.take i).map (·.1):=λhm=>by
    have q':((ks.take i++[(y,sh)]).map (·.1)).Nodup:=by rw[<-take_snoc hk];exact nd.sublist<|(vm _ _).map _
    rw[ZI]at q';exact(jh.mp q').2.2 y hm y (by simp) rfl
   exists _,Z0 ha,Y;refine⟨_,_,kd'.ins,zH D,D,S,y,v2,sh,ks.take i,c,d,Y,kd',kr',kk.take i,kk i y sh hk,ny,⟨(kg.nm.len y my).1,(kg.nm.len y my).2,kg.nm.abc y my⟩,λts e=>?_,kg.ntk hk,kg.npk hk,T3,by rw[ZL];omega,λH2 S2 f2 T1 J1=>?_⟩
   .subst e
    exact kg.tags<|ZH hk
   .rw [<-take_snoc hk]at J1
    exact⟨S2,_,_,fr.trans f2,T1,J1,Y⟩
 .rintro U H' ⟨S,z1,z2,fr,kd',kr',rfl⟩
  rw[Ze (by omega)]at kr';refine q H' (λb o R h=>fr b o (λhm=>?_)<|frame b o R h) ⟨D,S,rfl,kd',kr'⟩;rw[R7 b hm]at h;cases h
end
end K4
namespace L2
open PySem
def RZ{α:Type}{p:α->Bool}{l:List α}{x:α}(h:(l.take i).find? p=none)(e:l[i]?=some x)(Z:p x=true):l.find? p=some x:=by
 have J:=(ZE.mp e).1;have G:l.drop i=x::l.drop (i+1):=by rw[List.drop_eq_getElem_cons J,(ZE.mp e).2]
 rw[<-vA i l,List.find?_append,h,G,y9,Z]
 rfl
def Qj(h:VS Z y=some s):∃i:Nat,Z[i]?=some (y,s):=yh.mp<|JU h
def Bl(g:KG Z)(h:VS Z y=some (.tags J))(m:t∈J):JY Z t=some y:=by
 obtain⟨i,L⟩:=Qj h;have G:Je t (.tags J)=true:=by unfold Je;exact decide_eq_true m
 have n:=g.ntk L t G;unfold JY at n |-
 rw[RZ (by cases e:(Z.take i).find? λk=>Je t k.2 with
  |none=>rfl
  |some k=>rw[e]at n;cases n) L G]
 rfl
def N3(g:KG Z)(h:VS Z y=some (.pair a b)):JA Z a b=some y:=by
 obtain⟨i,G⟩:=Qj h;have J:JO a b (.pair a b)=true:=by unfold JO;simp
 have n:=g.npk G a b J;unfold JA at n |-
 rw[RZ (by cases e:(Z.take i).find? λk=>JO a b k.2 with
  |none=>rfl
  |some k=>rw[e]at n;cases n) G J]
 rfl
def OB(h:Has H v (.tup [.str b,d])):∃a u,v=.ref a/\H a=some (.tup [.str b,u])/\Has H u d:=by
 obtain⟨t,R,rfl,L,M⟩:=Yz h;obtain⟨T,D,rfl,O,J⟩:=Yf M;obtain⟨G,B,rfl,N,Z⟩:=Yf J;obtain rfl:=VP Z;obtain rfl:=has_str O;exact⟨t,G,Y,L,N⟩
def Yh.sub{K:W.Frag}(F:Yh P w K N base CX k f O M L)(h:∀Z H Q E,sp' Z H Q E->L Z H Q E):Yh P w K N base CX k f O M sp':=
 ⟨λZ H Q E q=>F.len Z H Q E<|h Z H Q E q,λA J s H args G Z Q E a b c d q=>F.run A J s H args G Z Q E a b c d<|h Z H Q E q⟩
def Iu:List (Option Str)->Option (kq)
 |[]=>some []
 |none::_=>none
 |some x::r=>(Iu r).map (x:: ·)
theorem Bg:∀Z:kq,Iu (Z.map some)=some Z
 |[]=>rfl
 |z::Z=>by show(Iu<|Z.map some).map (z:: ·)=_;rw[Bg Z];rfl
theorem MP:∀{l:List (Option Str)},none∈l->Iu l=none
 |none::l,_=>rfl
 |some y::l,h=>by
  show(Iu l).map (y:: ·)=none;rw[MP ((Zb.mp h).resolve_left λe=>nomatch e)];rfl
theorem NV:∀{l:List (Option Str)},none∉l->∃Z,l=List.map some Z
 |[],_=>⟨[],rfl⟩
 |none::_,h=>Zp ZY h
 |some y::l,h=>let⟨Z,e⟩:=NV (l:=l) λm=>h<|ZK _ m;⟨y::Z,by rw[e];rfl⟩
def O2:V->Option Str
 |.str y=>some y
 |_=>none
open Classical in
noncomputable def own (ks:kL) (hd:Hds) (kv:kE):Bd->List Str->Option Str
 |.tag t,_=>JY ks t
 |.name x,_=>(VI kv<|Sum.inr x).bind O2
 |.pair _ _,zs=>match zs with|[a,b]=>JA ks a b|_=>none
 |.one _,zs=>match zs with|[z]=>(match VS ks z with|some (.pair a _)=>some a|_=>none)|_=>none
 |.other _,zs=>match zs with|[z]=>(match VS ks z with|some (.pair _ b)=>some b|_=>none)|_=>none
 |.choose _ ts _,zs=>match zs with|z::y::r=>if VS ks z=some (.tags ts)/\∀u∈r,u=y then some y else none|_=>none
 |.ask f _,zs=>match hd f with|some (ps,k)=>if ps.map (·.2)=zs then some k else none|none=>none
 |.letb _ z _ _,zs=>match zs with|[a,y]=>if a=z then some y else none|_=>none
def UC(ks:kL)(kv:kE):Bd->Prop
 |.letb x z _ _=>(VI kv<|Sum.inr x).isSome=true\/z∉ks.map (·.1)
 |_=>False
open Classical in
noncomputable def kdn (ks:kL) (hd:Hds):Nat->List (Key×V)->Bd->Option Str
 |0,_,_=>none
 |n+1,kv,b=>if UC ks kv b then none else(Iu<|b.parts.map<|kdn ks hd n<|wth kv b).bind (own ks hd kv b)
def TF(h:UC J Z b):kdn J G (n+1) Z b=none:=by unfold kdn;exact Zn h
def Wc(h:none∈b.parts.map (kdn J G n<|wth Z b)):kdn J G (n+1) Z b=none:=by
 unfold kdn;split
 .rfl
 .rw [MP h];rfl
def TD(h:¬UC ks kv b)(e:b.parts.map (kdn ks Z n<|wth kv b)=J.map some):kdn ks Z (n+1) kv b=own ks Z kv b J:=by unfold kdn;rw[Zo h,e,Bg];rfl
def NK(ns:kq)(kv:kE):Prop:=∀q∈kv,∃(x k:Str),q=(Sum.inr x,V.str k)/\k∈ns
def HK(ns:kq)(hd:Hds):Prop:=∀f Z k,hd f=some (Z,k)->k∈ns
def NK.wth(h:NK (J.map (·.1)) Z)(G:¬UC J Z b):NK (J.map (·.1)) (wth Z b):=by
 cases b with
 |letb x z e g=>
  intro q L;rcases LH L with m|rfl
  .exact h q m
  .exact ⟨x,z,rfl,Classical.not_not.mp λm=>G<|.inr m⟩
 |_=>exact h
def BS{Z:kL}{p:Str×Shp->Bool}(h:(Z.find? p).map (·.1)=some y):y∈Z.map (·.1):=by
 obtain⟨k,J,rfl⟩:=Zh.mp h;exact ZU.mpr ⟨k,vb J,Y⟩
def NK.at(h:NK Z J)(e:VI J (Sum.inr x)=some v):∃k,v=.str k/\k∈Z:=by
 obtain⟨q,m,_,rfl⟩:=KF e;obtain⟨_,k,rfl,G⟩:=h q m;exact⟨k,Y,G⟩
def Ph(G:KK 30 c d Z)(N:NK (Z.map (·.1)) J)(R:HK (Z.map (·.1)) T)(L:∀z∈M,z∈Z.map (·.1))(h:own Z T J b M=some y):y∈Z.map (·.1):=by
 cases b with
 |tag t=>exact BS h
 |name x=>
  obtain⟨v,O,e⟩:=Option.bind_eq_some_iff.mp (show(VI J<|Sum.inr x).bind O2=some y from h);obtain⟨k,rfl,m⟩:=N.at O;cases e;exact m
 |pair a b=>
  unfold own at h;dsimp only at h;split at h
  .exact BS h
  .cases h
 |one e=>
  unfold own at h;dsimp only at h;split at h
  .split at h
   .rename_i hs;cases h;exact(G.at hs).1
   .cases h
  .cases h
 |other e=>
  unfold own at h;dsimp only at h;split at h
  .split at h
   .rename_i hs;cases h;exact(G.at hs).2.1
   .cases h
  .cases h
 |choose e B D=>
  unfold own at h;dsimp only at h;split at h
  .split at h
   .cases h;exact L _<|by simp
   .cases h
  .cases h
 |ask f E=>
  unfold own at h;dsimp only at h;split at h
  .split at h
   .rename_i hf _;cases h;exact R _ _ _ hf
   .cases h
  .cases h
 |letb x z e g=>
  unfold own at h;dsimp only at h;split at h
  .split at h
   .cases h;exact L _<|by simp
   .cases h
  .cases h
theorem NH(L:KK 30 c d Z)(M:HK (Z.map (·.1)) G):∀(n:Nat)(J:kE)(b:Bd)(y:Str),NK (Z.map (·.1)) J->kdn Z G n J b=some y->y∈Z.map (·.1)
 |0,_,_,_,_,h=>nomatch h
 |n+1,J,b,y,nk,h=>by
  by_cases nb:UC Z J b
  .rw [TF nb]at h;cases h
  by_cases hn:none∈b.parts.map (kdn Z G n<|wth J b)
  .rw [Wc hn]at h;cases h
  obtain⟨R,N⟩:=NV hn;rw[TD nb N]at h;refine Ph L nk M (λz O=>?_) h;have m:some z∈b.parts.map (kdn Z G n<|wth J b):=by rw[N];exact ZU.mpr ⟨z,O,Y⟩
  obtain⟨p,_,e⟩:=ZU.mp m;exact NH L M n _ p z (nk.wth nb) e
def S6(N:KG L)(F:∀e G J,b=.choose e G J->1<=J.length)(h:Kr L D M y b R):own L D M b R=some y:=by
 cases b with
 |tag t=>obtain⟨_,G,Z,T⟩:=h;exact Bl N Z T
 |name x=>obtain⟨_,Z⟩:=h;show(VI M<|Sum.inr x).bind O2=_;rw[Z];rfl
 |pair a b=>obtain⟨U,O,rfl,Z⟩:=h;exact N3 N Z
 |one e=>obtain⟨z,O,rfl,Z⟩:=h;show(match VS L z with|some (.pair a _)=>some a|_=>none)=_;rw[Z]
 |other e=>obtain⟨z,O,rfl,Z⟩:=h;show(match VS L z with|some (.pair _ b)=>some b|_=>none)=_;rw[Z]
 |choose e G J=>
  obtain⟨z,rfl,Z,I⟩:=h;have:=F e G J rfl;obtain⟨m,E⟩:∃m,J.length=m+1:=⟨J.length-1,by omega⟩;rw[E,vg];exact Zn ⟨Z,λu B=>List.eq_of_mem_replicate B⟩
 |ask f S=>
  obtain⟨A,Z,rfl⟩:=h;unfold own;dsimp only;rw[Z];exact Zn Y
 |letb x z e g=>obtain⟨rfl,_,_⟩:=h;exact Zn Y
theorem Kd.kdn(T:KG G)(O:∀z L,VS G z=some (.tags L)->1<=L.length):∀(n:Nat)(J:kE)(b:Bd)(y:Str),Kd G D J y b->b.dep<n->L2.kdn G D n J b=some y
 |0,_,_,_,_,h=>nomatch h
 |n+1,J,b,y,h,hn=>by
  obtain⟨Z,M,R,A⟩:=h.inv
  have E:¬UC G J b:=by
   cases b with
   |letb x z e g=>obtain⟨_,N,I⟩:=M;exact λm=>m.elim (λm=>by rw[N]at m;cases m) λm=>m I
   |_=>exact id
  have e:b.parts.map (L2.kdn G D n<|L2.wth J b)=Z.map some:=by
   refine vU λi=>?_;rw[ZG,ZG]
   cases hp:b.parts[i]? with
   |none=>
    have:Z[i]?=none:=yo.mpr (by rw[R];exact yo.mp hp);rw[this];rfl
   |some p=>
    have S:i<Z.length:=by rw[R];exact(ZE.mp hp).1
    have B:Z[i]?=some Z[i]:=ZC S;have:=Bd.dep_mem<|ZH hp;rw[B];exact congrArg some<|Kd.kdn T O n _ p _ (A i p _ hp B)<|by omega
  rw[TD E e];refine S6 T (λC L X U=>?_) M;subst U;obtain⟨z,_,N,F⟩:=M;rw[F];exact O _ _ N
def wrs(f:Bd->List (kz)):Nat->List Bd->List (kz)
 |_,[]=>[]
 |k,c::cs=>(f c).map (((k:Nat):Int):: ·)++ wrs f (k+1) cs
open Classical in
noncomputable def wr (ks:kL) (hd:Hds):Nat->List (Key×V)->Bd->List (kz)
 |0,_,_=>[]
 |n+1,kv,b=>if UC ks kv b then[[]]else if none∈b.parts.map (kdn ks hd n<|wth kv b)then wrs (wr ks hd n<|wth kv b) 0 b.parts else if kdn ks hd (n+1) kv b=none then[[]]else[]
theorem MR{f:Bd->List (kz)}:∀(k:Nat)(Z ys:List Bd),wrs f k (Z++ ys)=wrs f k Z++ wrs f (k+Z.length) ys
 |k,[],ys=>by simp[wrs]
 |k,x::Z,ys=>by
  have e:k+1+Z.length=k+(Z.length+1):=by omega
  simp[wrs,MR (k+1) Z ys,e]
def Iz{f:Bd->List (kz)}{Z:List Bd}(h:Z[i]?=some c):wrs f 0 (Z.take<|i+1)=wrs f 0 (Z.take i)++ (f c).map (((i:Nat):Int):: ·):=by
 have J:=(ZE.mp h).1;rw[take_snoc h,MR];simp[wrs,ZL,vh (Zf J)]
theorem MQ{f:Bd->List (kz)}:∀(k:Nat)(Z:List Bd),wrs f k Z=[]↔∀c∈Z,f c=[]
 |k,[]=>by simp[wrs]
 |k,x::Z=>by simp[wrs,MQ (k+1) Z]
theorem MS:∀(n:Nat)(Z:kE)(b:Bd),b.dep<n->(wr J G n Z b=[]↔kdn J G n Z b≠none)
 |0,_,_,h=>Zp h<|Zu _
 |n+1,Z,b,h=>by
  unfold wr
  by_cases c1:UC J Z b
  .rw [Zn c1,TF c1];simp
  .rw [Zo c1]
   by_cases c2:none∈b.parts.map (kdn J G n<|wth Z b)
   .rw [Zn c2,Wc c2]
    refine⟨λe=>?_,λe=>Zp Y e⟩;obtain⟨c,L,M⟩:=ZU.mp c2;have N:=Bd.dep_mem L;exact Zp M<|(MS n (wth Z b) c<|by omega).mp<|(MQ 0 _).mp e c L
   .rw [Zo c2]
    by_cases c3:kdn J G (n+1) Z b=none
    .rw [Zn c3];simp[c3]
    .rw [Zo c3];simp[c3]
def Ou(h:¬UC J Z b)(e:none∈b.parts.map (kdn J G n<|wth Z b)):wr J G (n+1) Z b=wrs (wr J G n<|wth Z b) 0 b.parts:=by
 unfold wr;rw[Zo h,Zn e]
def KB(h:UC J Z b):[[]]=wr J G (n+1) Z b:=by unfold wr;rw[Zn h]
def SA(h:¬UC J Z b)(e:none∉b.parts.map (kdn J G n<|wth Z b))(k:kdn J G (n+1) Z b=none):[[]]=wr J G (n+1) Z b:=by unfold wr;rw[Zo h,Zo e,Zn k]
def KA{G:List Bd}(h:∀c∈G,c.dep<n):wrs (wr L M n J) k G=[]↔none∉G.map (kdn L M n J):=by
 rw[MQ]
 constructor
 .intro z m
  obtain⟨c,Z,e⟩:=ZU.mp m;exact(MS n J c<|h c Z).mp (z c Z) e
 .intro z c Z
  exact(MS n J c<|h c Z).mpr λe=>z<|ZU.mpr ⟨c,Z,e⟩
def FZ{f:Bd->List (kz)}{Z:List Bd}(h:Z[i]?=some c)(e:wrs f 0 (Z.take i)=[])(J:f c=w::r):∃t,wrs f 0 Z=(((i:Nat):Int)::w)::t:=by
 exists r.map (((i:Nat):Int):: ·)++ wrs f (0+(Z.take<|i+1).length) (Z.drop<|i+1)
 conv=>lhs;rw[<-vA (i+1) Z]
 rw[MR,Iz h,e,J];simp
end L2
namespace L2
open PySem PySem.Spec PyProof.Rows
section
variable{X:Cx}{CX:CXT}{k:Nat}{E:XK}{ta ti:TE}{t:TA}
def SQ(X:Cx)(CX:CXT)(k:Nat)(E:XK)(ta:TE)(t:TA):TE:=λU H Q=>ta U H λv L=>∃(f:Addr)(G:FuncData)(J:kq)(Z:Sp),v=.ref f/\Yh X.prog X.w X.K X.mg X.base CX k f G J Z/\W.keepIn X.K (.ref f)=true/\Binds X.K G J []/\Ka Z [] E t U L Q
def LT(S:PE X (.Name x p) ta)(D:Vj k X.A)(B:Ub CX X E)(j:PA X (e::J) t)(C:starEach (e::J) X.env=(false,eval e X.env)::starEach J X.env:=by rfl)(G:(backTo pos<|starEach J X.env).any (·.1)=false:=by rfl):
  PE X (.Call (.Name x p) (e::J) [] pos) (SQ X CX k E ta t):=by
 intro Z s U H Q I h;refine vI<|thn (S Z s U H _ I h) λu N ⟨v,z,M,R,f,r,w,c,y,F,A,P,q⟩=>?_;subst y;obtain rfl:u=Value.ref f:=R;refine jq (h₀:=X.base) M.ok.mod.kin A (thn (j pos Z N U z _ M q) λg d ⟨m,l,L,O,T⟩=>⟨L.kIn,?_⟩) C G;exact Mz F D P .nil B L O T
def CJ(a:Addr)(m:Key->Option Value)(ti:TE):TE:=λU H Q=>ti U H λv Z=>∃(q:Key)(u:Value)(y:V),v=kV q/\m q=some u/\RelV y u/\Q y Z
def Pb(A:Gl X x)(D:X.mg x=some (.ref a))(S:X.base.MapOf (VT X.prog X.w) a m)(f:X.A.units+1<cLine)(F:PE X i ti)(B:A8 i)(G:(x==("__debug__":Str))=false:=by decide):
  PE X (.Subscript (.Name x p) i pos) (CJ a m ti):=by
 intro Z s U H Q I h;refine EY PySem.F.slot_dict_getitem.lookup B<|Uk I A D ?_ G;refine thn (F Z s U H _ I h) λd L ⟨v,c,N,O,q,u,y,P,T,J,R⟩=>?_;subst P;have M:L.heap.MapOf (VT X.prog X.w) a m:=let⟨o,j,z,C,r⟩:=S;⟨o,j,z,N.bk _ _ C,r⟩
 have g:L.TypeIs (.ref a) "dict":=M.typeIs;exists g;exact wpAny_getItem_of (Gg O) M T ⟨y,c,N.tok _,J,R⟩
end
end L2
namespace L2
open PySem
structure BA where
 t:Addr
 dx:Addr
 so:Addr
 td:Addr
 rd:Addr
 tn:Addr
def Xp(A:BA):List (Str×V):=[("sorts",.ref A.so),("told",.ref A.td),("rows",.ref A.rd),("turns",.ref A.tn)]
def psD(ps:List (Str×Str)):Dat:=.tup<|ps.map λp=>.tup [.str p.1,.str p.2]
def Xa(x:Dd):Dat:=.tup [psD x.1.2.1,.str x.1.2.2,x.2.dat]
structure BD(H:Hp)(C CK:Addr)(A:BA)(kv:List (Key×V))(ks:List (Str×Shp))(d:Str->Nat)(ds:List Dd):Prop where
 ins:H A.t=some (.ins C A.dx (Xp A))
 so:KI H CK A.so ks d
 td:H A.td=some (.dK kv)
 ke:kv.map (·.1)=ds.map (λx=>(Sum.inr x.1.1:Key))
 va:HasL H (kv.map (·.2)) (ds.map Xa)
 nd:(ds.map λx=>x.1.1).Nodup
def BI(H:Hp)(C CK t:Addr)(ks:kL)(d:kM)(ds:List Dd):Prop:=∃A Z,A.t=t/\BD H C CK A Z ks d ds
def BI.mono(b:BI H C M t J d G)(e:Same H L):BI L C M t J d G:=by
 obtain⟨A,Z,h,k⟩:=b;exact⟨A,Z,h,e _ _ k.ins,k.so.mono e,e _ _ k.td,k.ke,k.va.mono e,k.nd⟩
structure BCl(K:W.Frag)(C:Addr):Prop where
 cl:Cls K C
 so:JG K C "sorts"
 td:JG K C "told"
 rd:JG K C "rows"
 tn:JG K C "turns"
def OJ(A:BA):(Xp A).lookup ("sorts":Str)=some (V.ref A.so):=rfl
def IV(A:BA):(Xp A).lookup ("told":Str)=some (V.ref A.td):=rfl
def zG(A:BA):(Xp A).lookup ("told_of":Str)=none:=rfl
def BD.at(b:BD H C I A J E d O)(h:x∈O):∃v,V1 H A.td (.str x.1.1) (some v)/\Has H v (Xa x):=by
 obtain⟨i,M⟩:=yh.mp h;have Z:(J.map (·.1))[i]?=(O.map λx=>(Sum.inr x.1.1:Key))[i]?:=by rw[b.ke]
 rw[ZG,ZG,M]at Z
 cases ek:J[i]? with
 |none=>rw[ek]at Z;cases Z
 |some q=>
  rw[ek]at Z;have B:q.1=Sum.inr x.1.1:=ZP Z
  have T:(J.map (·.1)).Nodup:=by
   rw[b.ke];have G:=b.nd;unfold List.Nodup at G |-;rw[vV]at G |-;exact G.imp λL z=>L<|Sum.inr.inj z
  obtain⟨F,R,D⟩:=b.va.get (show(J.map (·.2))[i]?=some q.2 by rw[ZG,ek];rfl);rw[ZG,M]at R;cases R;refine⟨q.2,?_,D⟩;have N:=Gu T<|ZH ek;rw[B]at N;rw[<-N];exact V1.k (k:=Sum.inr x.1.1) b.td
def RV(h:Has H v (Xa x)):∃a u w,v=.ref a/\H a=some (.tup [u,.str x.1.2.2,w])/\Has H u (psD x.1.2.1)/\Has H w x.2.dat:=by
 unfold Xa at h;obtain⟨t,D,rfl,N,O⟩:=Yz h;obtain⟨M,I,rfl,B,G⟩:=Yf O;obtain⟨E,A,rfl,T,J⟩:=Yf G;obtain⟨L,F,rfl,R,Z⟩:=Yf J;obtain rfl:=VP Z;obtain rfl:=has_str T;exact⟨t,M,L,Y,N,B,R⟩
end L2
namespace K4
open PySem L2
section
variable{f g C CK:Addr}
def JH(C CK:Addr):Sp:=λG H Q _=>∃(t:Addr)(J:kL)(d:kM)(L:List Dd),G=[.ref t]/\BI H C CK t J d L/\∀Z,KI H CK Z J d->Q (.ref Z) H
def K5:Yn ["self"] ["self"] (Yc Mw):=Y7
def IM(T:BCl K C)(F:Fun K "kinds" "Book.kinds" Mw f J):Yh P w K M base CX0 (n+1) f J ["self"] (JH C CK):=by
 refine F.oq K5 λG A Z s H L Q E R h=>?_;obtain⟨t,O,d,B,rfl,⟨D,N,rfl,b⟩,q⟩:=h;exists _,YZ<|Yo<|Y8 (pv 0) rfl;exact⟨C,_,_,_,b.ins,T.cl,T.so,OJ _,q _ b.so⟩
def Xe(C CK:Addr):Sp:=λG H Q _=>∃(t:Addr)(L:kL)(d:kM)(J:List Dd),G=[.ref t]/\BI H C CK t L d J/\∀l Z,Same H Z->H l=none->Z l=some (.lst<|J.map λx=>V.str x.1.1)->Q (.ref l) Z
def K3:Yn ["self"] ["self"] (Yc Mv):=Y7
def IL(B:Blt L)(T:BCl K C)(F:Fun K "names" "Book.names" Mv f M):Yh P w K L base CX0 (n+1) f M ["self"] (Xe C CK):=by
 refine F.oq K3 λN A Z s H O Q E D h=>?_;obtain⟨t,R,d,I,rfl,⟨S,J,rfl,b⟩,q⟩:=h;exists _,YZ<|Yo<|VB (Ua rfl) rfl B.list Vm (pa1<|Y8 (pv 0) rfl);refine⟨C,_,_,_,b.ins,T.cl,T.td,IV _,_,_,Y,b.td,λl G=>?_⟩;refine q l _ (Ye G _) G ?_;rw[Ya];have e:(J.map λq=>kV q.1)=(J.map (·.1)).map kV:=by rw[yg];rfl
 rw[e,b.ke,yg]
 rfl
def MX(C CK:Addr):Sp:=λJ H Q _=>∃(t:Addr)(G:kL)(d:kM)(Z:List Dd)(x:Dd),J=[.ref t,.str x.1.1]/\BI H C CK t G d Z/\x∈Z/\∀v,Has H v (Xa x)->Q v H
def PH:Yn ["self","F"] ["self","F"] (Yc DU):=Y7
def Pn(B:Blt L)(T:BCl K C)(F:Fun K "told_of" "Book.told_of" DU f R):Yh P w K L base CX0 (n+1) f R ["self","F"] (MX C CK):=by
 refine F.oq PH λD A Z s H I Q E N h=>?_;obtain⟨t,U,d,X,x,rfl,⟨j,S,rfl,b⟩,M,q⟩:=h;have J:=Jg N;obtain⟨v,G,O⟩:=b.at M;refine⟨_,YW (Y4 (PW.pt<|Jm (V8<|V7<|RG rfl B.isi rfl B.str MI (pv 1))<|Jc<|Jy<|UM J (pv 1)<|Y8 (pv 0) rfl) (YZ Jn) Ys)
  (YZ<|Yo<|JF J (Y8 (pv 0) rfl) (pv 1) λ_ _=>rfl),?_⟩
 show let a:=_;let b:=_;Yg (VJ _ b _) a _ _ _
 intros
 refine⟨_,_,_,_,Y,.str _,Wb K "str",_,Y,Y6 (by simp) ?_⟩;refine⟨C,_,_,_,b.ins,T.cl,T.td,IV _,_,G,_,Y,Y6 (by simp) ?_⟩;exact⟨C,_,_,_,b.ins,T.cl,T.td,IV _,v,G,q v O⟩
end
end K4
namespace L2
open PySem
def Up(o:Option Str):V:=(o.map V.str).getD .non
def C9{α:Type}{Z:List α}(h:Z.length=1):∃a,Z=[a]:=match Z,h with|[a],_=>⟨a,rfl⟩
def C8{α:Type}{Z:List α}(h:Z.length=2):∃a b,Z=[a,b]:=match Z,h with|[a,b],_=>⟨a,b,rfl⟩
def Bd.word:Bd->Str
 |.tag _=>"tag"
 |.name _=>"name"
 |.pair _ _=>"pair"
 |.one _=>"one"
 |.other _=>"other"
 |.choose _ _ _=>"choose"
 |.ask _ _=>"ask"
 |.letb _ _ _ _=>"let"
def BO{b:Bd}(h:Has H v b.dat):∃a ys,v=.ref a/\H a=some (.tup (.str b.word::ys)):=by
 obtain⟨Z,e⟩:∃Z,b.dat=.tup (.str b.word::Z):=by cases b <;> exact⟨_,by unfold Bd.dat;rfl⟩
 rw[e]at h;obtain⟨t,ys,rfl,G,L⟩:=Yz h;obtain⟨N,J,rfl,M,_⟩:=Yf L;obtain rfl:=has_str M;exact⟨t,J,Y,G⟩
def E7(h:Has H v (Bd.letb x k e b).dat):∃a T R,v=.ref a/\H a=some (.tup [.str "let",.str x,.str k,T,R]):=by
 unfold Bd.dat at h;obtain⟨t,I,rfl,B,D⟩:=Yz h;obtain⟨C,y,rfl,A,M⟩:=Yf D;obtain⟨U,j,rfl,F,L⟩:=Yf M;obtain⟨S,Q,rfl,E,G⟩:=Yf L;obtain⟨O,P,rfl,q,J⟩:=Yf G;obtain⟨N,X,rfl,z,Z⟩:=Yf J;obtain rfl:=VP Z;obtain rfl:=has_str A;obtain rfl:=has_str F;obtain rfl:=has_str E;exact⟨t,O,N,Y,B⟩
end L2
namespace K4
open PySem L2
section
variable{f g C CK:Addr}
def Bs(C CK:Addr):Sp:=λJ H Q _=>∃(t:Addr)(G:kL)(d:kM)(Z:List Dd)(x:Dd),J=[.ref t,.str x.1.1]/\BI H C CK t G d Z/\x∈Z/\∀v,Has H v (psD x.1.2.1)->Q v H
def Mb(C CK:Addr):Sp:=λJ H Q _=>∃(t:Addr)(G:kL)(d:kM)(Z:List Dd)(x:Dd),J=[.ref t,.str x.1.1]/\BI H C CK t G d Z/\x∈Z/\Q (.str x.1.2.2) H
def Sf:Yn ["self","F"] ["self","F"] (Yc DZ):=Y7
def O8:Yn ["self","F"] ["self","F"] (Yc Da):=Y7
def Ps(T:BCl K C)(F:Fun K "parameters" "Book.parameters" DZ f I)(m:Vk K C "told_of" g)(G:Yh P w K J base CX0 n g D ["self","F"] (MX C CK))(X:Binds K D ["self","F"] []):Yh P w K J base CX0 (n+1) f I ["self","F"] (Bs C CK):=by
 refine F.oq Sf λU A Z s H k Q E R h=>?_;obtain⟨t,L,d,S,x,rfl,b,M,q⟩:=h;obtain⟨y,p,rfl,j⟩:=id b;exists _,YZ<|Yo<|Ym Yp (Vg (pv 0) T.cl m G R X .nil VN<|pa1<|pv 1) YX;refine⟨_,_,j.ins,zG _,y.t,L,d,S,x,Y,b,M,λv N=>?_⟩;obtain⟨a,u,z,rfl,B,O,_⟩:=RV N;exact⟨_,_,Z0 B,Y,q u O⟩
def Lf(T:BCl K C)(F:Fun K "kind_of" "Book.kind_of" Da f D)(m:Vk K C "told_of" g)(G:Yh P w K J base CX0 n g B ["self","F"] (MX C CK))(U:Binds K B ["self","F"] []):Yh P w K J base CX0 (n+1) f D ["self","F"] (Mb C CK):=by
 refine F.oq O8 λS A Z s H z Q E O h=>?_;obtain⟨t,L,d,I,x,rfl,b,M,q⟩:=h;obtain⟨j,k,rfl,X⟩:=id b;exists _,YZ<|Yo<|Ym Yp (Vg (pv 0) T.cl m G O U .nil VN<|pa1<|pv 1) YX;refine⟨_,_,X.ins,zG _,j.t,L,d,I,x,Y,b,M,λv N=>?_⟩;obtain⟨a,u,y,rfl,R,p,_⟩:=RV N;exact⟨_,_,Z0 R,Y,q⟩
def WO(C CK:Addr)(p:Bd->Prop):Sp:=λO H Q _=>∃(t a M:Addr)(v:V)(Z:kL)(c d:kM)(L:List Dd)(G:kE)(b:Bd)(J:kq),
 O=[.ref t,.ref a,v,.ref M]/\BI H C CK t Z d L/\KK 30 c d Z/\NK (Z.map (·.1)) G/\(∀x∈L,x.1.2.1.length<=3)/\Rd H a (.dK G)/\Has H v b.dat/\b.ok/\p b/\H M=some (.lst<|J.map V.str)/\J.length=b.parts.length/\(∀z∈J,z∈Z.map (·.1))/\∀N,Same H N->Q (Up<|own Z (Y5<|L.map (·.1)) G b J) N
abbrev rps:kq:=["book","around","body","found"]
def Sg:Yn ["book","around","body","found"] ["book","around","body","found"] (Yc K8):=Y7
def PD:Yn ["book","around","body","found"] ["book","around","body","found"] (Yc DM):=Y7
def PB:Yn ["book","around","body","found"] ["book","around","body","found"] (Yc DJ):=Y7
def Sj:Yn ["book","around","body","found"] ["book","around","body","found"] (Yc LA):=Y7
def Pw(r:BCl K C)(TK:KCl K CK)(F:Fun K "kind_of_tag_body" "kind_of_tag_body" K8 f X)(B:Vk K C "kinds" U)(e:Yh P w K J base CX0 n U z ["self"] (JH C CK))(p:Binds K z ["self"] [])(T:Vk K CK "kind_of_tag" S)(l:Yh P w K J base CX0 n S y ["self","tag"] (Tg CK))(k:Binds K y ["self","tag"] []):Yh P w K J base CX0 (n+1) f X rps (WO C CK λb=>∃t,b=.tag t):=by
 refine F.oq Sg λm A Z s H vs Q E N h=>?_;obtain⟨t,a,fl,v,G,c,d,j,kv,b,x,rfl,O,kk,nk,pl,ha,M,ok,⟨R,rfl⟩,hf,lz,hz,q⟩:=h;obtain⟨i,kt,rfl,u⟩:=id O;exists _,YZ<|Yo<|Vg (VW (pv 0) r.cl B e N p .nil VN) TK.cl T l N k .nil VN<|pa1<|Ym Yp (pv 2) YX;unfold Bd.dat at M;obtain⟨bt,rfl,I⟩:=X2 M;refine⟨_,_,u.ins,Y,i.t,G,d,j,Y,O,λso L=>?_⟩;obtain⟨o,SK,rfl,D,kr⟩:=id L;exact⟨_,_,D.ins,Y,_,_,Z0 I,Y,o.t,G,d,R,Y,L,q H<|Z6 _⟩
def Le(F:Fun K "kind_of_name_body" "kind_of_name_body" DM f B):Yh P w K j base CX0 (n+1) f B rps (WO C CK λb=>∃x,b=.name x):=by
 refine F.oq PD λD A G s H S Q E R h=>?_;obtain⟨t,a,r,v,z,c,d,l,J,b,I,rfl,i,m,N,U,M,L,X,⟨x,rfl⟩,u,y,p,q⟩:=h;have O:=Jg R;exists _,YZ<|Yo<|RH O (pv 1) (Ym Yp (pv 2) YX) ⟨rfl,rfl,rfl,rfl⟩;unfold Bd.dat at L;obtain⟨o,rfl,T⟩:=X2 L;exists .inl ⟨J,M⟩,_,_,Z0 T,Y,_,.inl ⟨J,Sum.inr x,M,Y,Y⟩;have Z:Q (Up<|(VI J<|Sum.inr x).bind O2) H:=q H<|Z6 _
 cases e:VI J (Sum.inr x)with
 |none=>rw[e]at Z;exact Z
 |some v=>
  obtain⟨k,rfl,_⟩:=N.at e;rw[e]at Z;exact Z
def Ld(l:BCl K C)(TK:KCl K CK)(F:Fun K "kind_of_pair_body" "kind_of_pair_body" DJ f j)(D:Vk K C "kinds" X)(i:Yh P w K J base CX0 n X m ["self"] (JH C CK))(u:Binds K m ["self"] [])(B:Vk K CK "kind_of_pair" U)(o:Yh P w K J base CX0 n U z ["self","one","other"] (Ws CK))(p:Binds K z ["self","one","other"] []):Yh P w K J base CX0 (n+1) f j rps (WO C CK λb=>∃e g,b=.pair e g):=by
 refine F.oq PB λk A Z s H vs Q E M h=>?_;obtain⟨t,a,fl,v,G,c,d,y,kv,b,zs,rfl,O,kk,nk,pl,ha,hv,ok,⟨e,g,rfl⟩,N,I,hz,q⟩:=h;obtain⟨T,R,rfl⟩:=C8 I;obtain⟨A',kt,rfl,r⟩:=id O;exists _,YZ<|Yo<|Vg (VW (pv 0) l.cl D i M u .nil VN) TK.cl B o M p .nil VN<|pa2 (Ym Y3 (pv 3) YX)<|Ym Y3 (pv 3) YX;refine⟨_,_,r.ins,Y,A'.t,G,d,y,Y,O,λso L=>?_⟩;obtain⟨x,SK,rfl,S,kr⟩:=id L;exact⟨_,_,S.ins,Y,_,_,Z1 N,Y,_,_,Z1 N,Y,x.t,G,d,T,R,Y,L,q⟩
def Py(F:Fun K "kind_of_let_body" "kind_of_let_body" LA f T):Yh P w K z base CX0 (n+1) f T rps (WO C CK λb=>∃x k e g,b=.letb x k e g):=by
 refine F.oq Sj λB A J s H I Q E l h=>?_;obtain⟨t,a,i,v,p,c,d,ds,m,b,D,rfl,bi,u,y,X,o,O,j,⟨x,k,e,g,rfl⟩,L,N,r,q⟩:=h;obtain⟨G,M,rfl⟩:=C8 N;refine⟨_,YW (Y4 (Yq Uy (Ym Y3 (pv 3) YX) (Ym Yp (pv 2) YX)<|Yy _) (YZ<|Yo Vu) Ys)
  (YZ<|Yo<|Ym Y3 (pv 3) YX),?_⟩
 obtain⟨bt,U,S,rfl,R⟩:=E7 O;have Z:Q (Up<|if G=k then some M else none) H:=q H<|Z6 _;exists _,_,Z1 L,Y,_,_,Z0 R,Y,Y,_,Y
 by_cases c1:G=k
 .rw [Zn c1]at Z
  exact Y6 (by simp[c1]) ⟨_,_,Z1 L,Y,Z⟩
 .rw [Zo c1]at Z
  exact Vf (by simpa using c1) Z
def Gw(C CK:Addr):Sp:=λJ H Q _=>∃(t:Addr)(Z:kL)(d:kM)(L:List Dd)(z:Str)(s:Shp)(i:Nat),J=[.ref t,.str z,.int i]/\BI H C CK t Z d L/\VS Z z=some s/\(∀G,s=.tags G->Q .non H)/\∀a b,s=.pair a b->(i=1/\Q (.str a) H\/i=2/\Q (.str b) H)
def Ek:Yn ["book","kind","at","shape"] ["book","kind","at"] (Yc DI):=Y7
def Lc(TB:BCl K C)(TK:KCl K CK)(F:Fun K "kind_of_part" "kind_of_part" DI f p)(X:Vk K C "kinds" k)(G1:Yh P w K G base CX0 n k r ["self"] (JH C CK))(x:Binds K r ["self"] [])(U:Vk K CK "shape_of" m)(G2:Yh P w K G base CX0 n m u ["self","kind"] (Jw CK))(o:Binds K u ["self","kind"] []):Yh P w K G base CX0 (n+1) f p ["book","kind","at"] (Gw C CK):=by
 refine F.oq Ek λe A J s H vs Q E O h=>?_;obtain⟨t,L,d,c,z,B,i,rfl,R,y,D,I⟩:=h;obtain⟨A',kt,rfl,b'⟩:=id R;refine⟨_,YW (Yk 3 Ek.nd<|Vg (VW (pv 0) TB.cl X G1 O x .nil VN) TK.cl U G2 O o .nil VN<|pa1<|pv 1)
  (YW (Y4 (Yq Uy (Ym Yp (pv 3) YX) VA<|Yy _) (YZ<|Yo Vu) Ys)
  (YZ<|Yo<|Ym Yp (pv 3) (pv 2) λ_ _=>rfl)),?_⟩
 refine⟨_,_,b'.ins,Y,A'.t,L,d,c,Y,R,λso M=>?_⟩;obtain⟨AK,SK,rfl,j,kr⟩:=id M;refine⟨_,_,j.ins,Y,AK.t,L,d,z,_,Y,M,y,λv N=>?_⟩
 cases B with
 |tags T=>
  obtain⟨S,l,rfl,Z,hl⟩:=Xn N;exact⟨_,_,Z0 Z,Y,Y,_,Y,Vf (by decide +kernel)<|D T rfl⟩
 |pair a b=>
  obtain⟨S,rfl,Z⟩:=WG N;refine⟨_,_,Z0 Z,Y,Y,_,Y,Y6 (by decide +kernel) ?_⟩;rcases I a b rfl with⟨rfl,q⟩|⟨rfl,q⟩
  .exact ⟨_,_,Z0 Z,rfl,q⟩
  .exact ⟨_,_,Z0 Z,rfl,q⟩
def Sh:Yn ["book","around","body","found"] ["book","around","body","found"] (Yc K9):=Y7
def Kz:Yn ["book","around","body","found"] ["book","around","body","found"] (Yc Ms):=Y7
def Px(F:Fun K "kind_of_one_body" "kind_of_one_body" K9 f D)(X:Df P w K N base n "kind_of_part" ["book","kind","at"] (Gw C CK)):Yh P w K N base CX0 (n+1) f D rps (WO C CK λb=>∃e,b=.one e):=by
 refine F.oq Sh λS A J s H y Q E T h=>?_;obtain⟨t,a,x,v,G,c,d,I,r,b,j,rfl,U,l,u,k,i,o,p,⟨e,rfl⟩,B,O,R,q⟩:=h;obtain⟨z,rfl⟩:=C9 O;exists _,YZ<|Yo<|Yx X T<|pa3 (pv 0) (Ym Y3 (pv 3) YX) YX;obtain⟨M,L⟩:=JC (R z<|by simp);have Z:Q (Up<|match VS G z with|some (.pair a _)=>some a|_=>none) H:=q H<|Z6 _;rw[L]at Z;exact⟨_,_,Z1 B,Y,t,G,d,I,z,M,1,Y,U,L,λm e=>by rw[e]at Z;exact Z,λa b e=>.inl ⟨Y,by rw[e]at Z;exact Z⟩⟩
def IH(F:Fun K "kind_of_other_body" "kind_of_other_body" Ms f D)(X:Df P w K N base n "kind_of_part" ["book","kind","at"] (Gw C CK)):Yh P w K N base CX0 (n+1) f D rps (WO C CK λb=>∃e,b=.other e):=by
 refine F.oq Kz λS A J s H y Q E T h=>?_;obtain⟨t,a,x,v,G,c,d,I,r,b,j,rfl,U,l,u,k,i,o,p,⟨e,rfl⟩,B,O,R,q⟩:=h;obtain⟨z,rfl⟩:=C9 O;exists _,YZ<|Yo<|Yx X T<|pa3 (pv 0) (Ym Y3 (pv 3) YX) YX;obtain⟨M,L⟩:=JC (R z<|by simp);have Z:Q (Up<|match VS G z with|some (.pair _ b)=>some b|_=>none) H:=q H<|Z6 _;rw[L]at Z;exact⟨_,_,Z1 B,Y,t,G,d,I,z,M,2,Y,U,L,λm e=>by rw[e]at Z;exact Z,λa b e=>.inr ⟨Y,by rw[e]at Z;exact Z⟩⟩
end
end K4
namespace L2
open PySem
def QL(h:Has H v (Bd.ask fn B).dat):∃a u,v=.ref a/\H a=some (.tup [.str "ask",.str fn,u])/\Has H u (.tup<|Bd.dats B):=by
 unfold Bd.dat at h;obtain⟨t,D,rfl,M,N⟩:=Yz h;obtain⟨F,S,rfl,T,G⟩:=Yf N;obtain⟨E,I,rfl,R,J⟩:=Yf G;obtain⟨L,A,rfl,O,Z⟩:=Yf J;obtain rfl:=VP Z;obtain rfl:=has_str T;obtain rfl:=has_str R;exact⟨t,L,Y,M,O⟩
def TN(h:Y5 J fn=some (Z,y)):(fn,Z,y)∈J:=by
 unfold Y5 at h
 cases e:J.find? (λh=>decide<|h.1=fn)with
 |none=>rw[e]at h;cases h
 |some g=>
  rw[e]at h;have m:=vb e;have q:g.1=fn:=by simpa using List.find?_some e
  have G:g.2=(Z,y):=ZP h;obtain⟨M,L⟩:=g;dsimp only at q G;subst q G;exact m
theorem WY:∀Z J:kq,Dat.pqs (Z.map Dat.str) (J.map Dat.str)=decide (Z=J)
 |[],[]=>by unfold List.map Dat.pqs;rfl
 |[],w::J=>by unfold List.map Dat.pqs;rfl
 |z::Z,[]=>by unfold List.map Dat.pqs;rfl
 |z::Z,w::J=>by
  rw[ZT,ZT];unfold Dat.pqs;rw[WY Z J,vo];simp[Dat.pq]
def Ai{Z:List Dd}(J:(Z.map λx=>x.1.1).Nodup)(h:x∈Z):Y5 (Z.map (·.1)) x.1.1=some x.1.2:=
 Xm (h:=x.1) (by rw[yg];exact J) (ZU.mpr ⟨x,h,rfl⟩)
def Ah{Z:List Dd}(h:fn∉Z.map λx=>x.1.1):Y5 (Z.map (·.1)) fn=none:=by
 cases e:Y5 (Z.map (·.1)) fn with
 |none=>rfl
 |some p=>
  obtain⟨x,J,G⟩:=ZU.mp<|TN e;exact Zp (ZU.mpr ⟨x,J,by rw[G]⟩) h
end L2
namespace K4
open PySem L2
section
def Sk:Yn ["book","around","body","found"] ["book","around","body","found"] (Yc LB):=Y7
def Ln:List.Nodup [("name":Str),"kind"]:=by decide +kernel
def Pz(TB:BCl K C)(F:Fun K "kind_of_ask_body" "kind_of_ask_body" LB f fd)(m1:Vk K C "names" g)(G1:Yh P w K mg base CX0 (n+2) g d1 ["self"] (Xe C CK))(b1:Binds K d1 ["self"] [])(m2:Vk K C "parameters" g2)(G2:Yh P w K mg base CX0 (n+2) g2 d2 ["self","F"] (Bs C CK))(b2:Binds K d2 ["self","F"] [])(m3:Vk K C "kind_of" g3)(G3:Yh P w K mg base CX0 (n+2) g3 d3 ["self","F"] (Mb C CK))(b3:Binds K d3 ["self","F"] []):
  Yh P w K mg base CX0 (n+2+1) f fd rps (WO C CK λb=>∃p as,b=.ask p as):=by
 refine F.oq Sk λJ5 A i s H O Q E m h=>?_;obtain⟨t,a,fl,v,ks,c,d,I,kv,b,o,rfl,r,kk,nk,pl,ha,hv,ok,⟨p,as,rfl⟩,hf,lz,hz,q⟩:=h;have Z9:=m.mono (show 2<=n+2 by omega);refine⟨_,YW (Y4 (Yq JZ (Ym Yp (pv 2) YX) (VW (pv 0) TB.cl m1 G1 m b1 .nil VN) Y) (YZ<|Yo Vu) Ys)
  (YW (Y4 (Yq (Xg Z9) (VL ["name","kind"] [] (V9<|Vg (pv 0) TB.cl m2 G2 m b2 .nil VN<|pa1<|Ym Yp (pv 2) YX) UE (λcl C fp s H=>VO (n:=2) rfl (Yi (Yb 0 Ln rfl (Or.inl rfl) (Or.inr rfl))<|Yi (Yb 1 Ln rfl (Or.inl rfl) (Or.inr rfl)) VC))
    (λcl C fp s H=>pv 1)) (pv 3)<|Yy _) (YZ<|Yo Vu) Ys)
  (YZ<|Yo<|Vg (pv 0) TB.cl m3 G3 m b3 .nil VN<|pa1<|Ym Yp (pv 2) YX)),?_⟩
 show let a:=_;let b:=_;let c:=Yg (VJ _ b _) a;let d:=_;Yg (VJ _ d _) c _ _ _
 intros
 obtain⟨bt,ub,rfl,hb,_⟩:=QL hv;obtain⟨A',kt,rfl,e⟩:=id r;have T:∀N,Same H N->Q (Up<|match Y5 (I.map (·.1)) p with|some (L,k)=>if L.map (·.2)=o then some k else none|none=>none) N:=q;refine⟨_,_,Z0 hb,Y,_,_,e.ins,Y,A'.t,ks,d,I,Y,r,λl H1 S hl g=>?_⟩;have el:(I.map λx=>V.str x.1.1)=(I.map λx=>x.1.1).map V.str:=by rw[yg];rfl
 rw[el]at g;exists l,_,Y,.inl<|Z1 g,rfl,Jj _,_,rfl;rw[J9]
 by_cases mf:p∈I.map λx=>x.1.1
 case neg=>
  rw[Ah mf]at T;exact Vf (by simp only[if_true,jM,decide_eq_false_iff_not];exact mf)<|T _ S
 refine Y6 (by simp only[if_true,jM,decide_eq_false_iff_not,Classical.not_not];exact mf) ?_;obtain⟨x,X,D⟩:=ZU.mp mf;have Z:=Ai e.nd X;rw[D]at Z;rw[Z]at T;obtain⟨⟨_,L,y⟩,bx⟩:=x;dsimp only at D T;subst D;have J4:L.length<=3:=pl _ X;have J2:=r.mono S;refine⟨_,_,S _ _ e.ins,Y,_,_,Z0<|S _ _ hb,rfl,A'.t,ks,d,I,_,rfl,J2,X,λv B=>?_⟩;unfold psD at B;dsimp only at B;obtain⟨pa,G,rfl,M,U⟩:=Yz B;have lp:=U.length;rw[ZA]at lp;exists ⟨_,Z0 M⟩;refine JN G.length (Yt<|by omega) (λj O N=>Same H1 N/\O.length=j/\O=((L.map (·.2)).take j).map V.str) ⟨Z6 _,rfl,rfl⟩ (λj O N z=>z.2.1) ?_ ?_ ?_ ?_
 .intro j O N hj z
  exact⟨G,G[j],Z0<|z.1 _ _ M,by simp[hj]⟩
 .intro O N z
  exact⟨G,Z0<|z.1 _ _ M,ZF _⟩
 .intro j O N u H'' R hj z yl hR
  obtain⟨rfl,yy⟩:=yl;obtain⟨dd,Z,J1⟩:=U.get<|yy G<|Z0<|z.1 _ _ M;rw[ZG]at Z
  cases hp:L[j]? with
  |none=>rw[hp]at Z;cases Z
  |some pr=>
   rw[hp]at Z;cases Z;obtain⟨t2,rfl,Z8⟩:=X2 J1;exists _,Z0<|z.1 _ _ Z8,rfl;refine hR _ _ ⟨z.1,by rw[ZJ,z.2.1];rfl,?_⟩;rw[z.2.2,show(L.map (·.2)).take (j+1)=(L.map (·.2)).take j++[pr.2]from take_snoc (by rw[ZG,hp];rfl),ZI]
   rfl
 .intro O N l2 z hl2
  obtain⟨z1,_,rfl⟩:=z;rw[Ze (by rw[ZA];omega)];refine up_in hl2 _ λH2 s2 g2=>?_;have J:=(S.trans z1).trans s2;exists .lst<|(L.map (·.2)).map Dat.str,.lst<|o.map Dat.str,AZ g2,AZ<|J _ _ hf,Tc _,_,rfl;unfold Dat.pq;rw[WY]
  by_cases cz:L.map (·.2)=o
  .rw [Zn cz]at T
   refine Y6 (by simp[cz]) ?_;exact⟨_,_,J _ _ e.ins,Y,_,_,Z0<|J _ _ hb,rfl,A'.t,ks,d,I,_,rfl,r.mono J,X,T H2 J⟩
  .rw [Zo cz]at T
   exact Vf (by simp[cz])<|T H2 J
end
end K4
namespace L2
open PySem PySem.Spec PyProof.Rows
def Ik(S:X.calm=true):UF X (.builtin "any") (λL H Q=>∃(p:Addr)(Z:List Bool),L=[.ref p]/\SqL X.K H p (Z.map V.bl)/\Q (.bl<|Z.any id) H):=by
 intro N s U H L P Q I r h;obtain⟨p,Z,rfl,D,q⟩:=h;obtain⟨u,rfl,R⟩:=vals1 r;cases R;obtain⟨J,M,G,j⟩:=I.list D;have E:p<s.heap.objs.size:=let⟨o,_,e,_⟩:=G;ZN e
 have B:=M.length;rw[ZA]at B
 have T:((List.range J.toArray.size).any λi=>(Z[i]?).getD false)=Z.any id:=by
  rw[vo,jT,jT]
  constructor
  .rintro ⟨i,_,h⟩
   cases e:Z[i]? with
   |none=>rw[e]at h;cases h
   |some b=>rw[e]at h;exact⟨b,ZH e,h⟩
  .rintro ⟨b,hb,h⟩
   obtain⟨i,O⟩:=yh.mp hb;exact⟨i,by have:=(ZE.mp O).1;simp;omega,by rw[O];exact h⟩
 refine call_any_walk<|jo G.isList ⟨s.heap.objs.size,_,_,J.toArray.size,_,_,λi=>(Z[i]?).getD false,rfl,Walks.list (A:=X.A.in1) (I.ok.hd S) _ p (Zc E) J.toArray,⟨⟨_,ZW _ rfl,rfl,rfl⟩,G.isList.push _⟩,?_,?_⟩
 .intro i v s' Q' E' hP hQ
  obtain⟨b,e,rfl⟩:=GS M i v (by simpa using hP);dsimp only at hQ;rw[e]at hQ;exact yw hQ
 .intro h' tk hk
  rw[T];refine⟨.bl<|Z.any id,H,I.kept λb o e=>hk b o (λF=>?_)<|ZD _ e,rfl,q⟩;have C:b=s.heap.objs.size:=by simpa using F
  rw[C]at e;exact yx _<|ZN e
end L2
namespace L2
open PySem
def D9(h:Has H v (Bd.choose e N F).dat):∃a u l Z,v=.ref a/\H a=some (.tup [.str "choose",u,.ref l])/\H l=some (.tup Z)/\HasL H Z (Bd.brs F N):=by
 unfold Bd.dat at h;obtain⟨t,A,rfl,O,R⟩:=Yz h;obtain⟨S,X,rfl,E,L⟩:=Yf R;obtain⟨M,C,rfl,P,G⟩:=Yf L;obtain⟨I,U,rfl,D,J⟩:=Yf G;obtain rfl:=VP J;obtain rfl:=has_str E;obtain⟨l,Z,rfl,B,T⟩:=Yz D;exact⟨t,M,l,Z,Y,O,B,T⟩
theorem brs_len:∀{bs:List Bd}{ts:kq},bs.length=ts.length->(Bd.brs bs ts).length=ts.length
 |[],[],_=>by simp[Bd.brs]
 |[],_::_,h=>by simp at h
 |_::_,[],h=>by simp at h
 |b::bs,t::ts,h=>by
  unfold Bd.brs;have:=brs_len (bs:=bs) (ts:=ts) (by simpa using h);simp[this]
theorem brs_get:∀{bs:List Bd}{ts:kq}{i:Nat}{d:Dat},(Bd.brs bs ts)[i]?=some d->∃t b,ts[i]?=some t/\d=.tup [.str t,Bd.dat b]
 |[],ts,i,d,h=>by unfold Bd.brs at h;simp at h
 |b::bs,[],i,d,h=>by unfold Bd.brs at h;simp at h
 |b::bs,t::ts,0,d,h=>by
  unfold Bd.brs at h;exact⟨t,b,Y,(ZP h).symm⟩
 |b::bs,t::ts,i+1,d,h=>by
  unfold Bd.brs at h;exact brs_get (bs:=bs) (ts:=ts) h
def yb{z y:Str}{r:kq}:XT ((z::y::r).map V.str) (some 2) none=r.map V.str:=by
 have e:HT.sIx ((z::y::r).map V.str).length 0 (some 2)=2:=by
  unfold HT.sIx;simp
  try omega
 unfold XT;rw[e];simp[HT.sIx];exact Ze (by rw[ZA];exact ZF _)
def Pi(h:VS J z=some (.tags Z))(g:∀u∈r,u=y):own J L G (.choose e Z M) (z::y::r)=some y:=Zn ⟨h,g⟩
def M9(h:¬(VS J z=some (.tags Z)/\∀u∈r,u=y)):own J L G (.choose e Z M) (z::y::r)=none:=Zo h
def Oi(y:Str)(r:kq):((r.map λu=>!decide (V.str u=V.str y)).any id=false)↔∀u∈r,u=y:=by
 rw[List.any_eq_false]
 constructor
 .intro h u Z
  have:=h _<|ZU.mpr ⟨u,Z,rfl⟩;simpa using this
 .intro h b hb
  obtain⟨u,Z,rfl⟩:=ZU.mp hb;simp[h u Z]
end L2
namespace K4
open PySem L2
section
def Iq:bootBuiltins "any"=some (.builtin "any"):=by decide +kernel
def Ww:Yn ["book","around","body","found","shape","kind"] ["book","around","body","found"] (Yc Tv):=Y7
def NC:List.Nodup [("tag":Str),"branch"]:=by decide +kernel
def C4:List.Nodup [("other":Str),"kind"]:=by decide +kernel
def Du(B:Blt X)(ma:X "any"=none)(TB:BCl K C)(TK:KCl K p)(F:Fun K "kind_of_choose_body" "kind_of_choose_body" Tv f fd)(m1:Vk K C "kinds" g1)(G1:Yh P w K X base CX0 (n+2) g1 d1 ["self"] (JH C p))(b1:Binds K d1 ["self"] [])(m2:Vk K p "shape_of" g2)(G2:Yh P w K X base CX0 (n+2) g2 d2 ["self","kind"] (Jw p))(b2:Binds K d2 ["self","kind"] []):Yh P w K X base CX0 (n+2+1) f fd rps (WO C p λb=>∃e L k,b=.choose e L k/\1<=k.length):=by
 refine F.oq Ww λM2 A Z8 s H Z Q E hr h=>?_;obtain⟨t,a,fl,v,ks,c,d,ds,kv,b,zs,rfl,bi,kk,nk,pl,ha,hv,ok,⟨e,L,k,rfl,b0⟩,hf,lz,hz,q⟩:=h;have J2:=hr.mono (show 2<=n+2 by omega);refine⟨_,YW (Yk 4 Ww.nd<|Vg (VW (pv 0) TB.cl m1 G1 hr b1 .nil VN) TK.cl m2 G2 hr b2 .nil VN<|pa1<|Ym Y3 (pv 3) YX)
  (YW (Y4 (PW.pt<|Jm (Yq Uy (Ym Yp (pv 4) YX) VA<|Yy _)<|Jc<|Yq (Xg J2) (VB VH rfl B.tuple VY (pa1<|VL ["tag","branch"] [] (V9<|Ym Yp (pv 2) YX) UE (λcl C fp s H=>VO (n:=2) rfl (Yi (Yb 0 NC rfl (Or.inl rfl) (Or.inr rfl))<|Yi (Yb 1 NC rfl (Or.inl rfl) (Or.inr rfl)) VC)) λcl C fp s H=>pv 0)) (Ym Yp (pv 4) YX)<|Yy _) (YZ<|Yo Vu) Ys)
  (YW (Yk 5 Ww.nd (hx:=Or.inr rfl)<|Ym Y3 (pv 3) YX)
  (YW (Y4 (V7<|Yr (Ik rfl) rfl ma Iq (pa1<|VL ["other"] [5] (VF<|Vt Xt (pv 3) (V4 YX) JD) (VM (i:=0)<|by decide) (λcl C fp s H=>Yb 0 C4 rfl (Or.inl rfl) (Or.inr rfl)) λcl C fp s H=>UI Uy (pv 0) (pv 1) rfl)) (YZ<|Yo Vu) Ys)
  (YZ<|Yo<|pv 5)))),?_⟩
 dsimp only[Vi,Cx.nox,Cx.wish];show let a:=_;let b:=_;let c:=Yg (VJ _ b _) a;let d:=Yg _ c;let e:=_;let f:=Yg (VJ _ e _) d;Yg _ f _ _ _
 intros
 obtain⟨bt,ub,bl,T,rfl,hb,N,I⟩:=D9 hv;obtain⟨A',kt,rfl,b'⟩:=id bi;unfold Bd.ok at ok;obtain⟨_,lb,l7,_⟩:=ok;have lx:=I.length;rw[brs_len lb]at lx;obtain⟨z,O,rfl⟩:∃z O,zs=z::O:=match zs,lz with|z::O,_=>⟨z,O,rfl⟩
 have lr:O.length=k.length:=Nat.succ.inj lz;obtain⟨y,r,rfl⟩:∃y r,O=y::r:=match O,lr with|[],e=>by rw[<-e]at b0;exact Zp b0 (by decide)|y::r,_=>⟨y,r,rfl⟩
 rw[Zd]at lr;obtain⟨sz,M⟩:=JC (hz z<|by simp);refine⟨_,_,b'.ins,Y,A'.t,ks,d,ds,Y,bi,λso ki=>?_⟩;obtain⟨AK,SK,rfl,kd,kr⟩:=id ki;refine⟨_,_,kd.ins,Y,_,_,Z1 hf,Yw (j:=0) Y,AK.t,ks,d,z,sz,Y,ki,M,λv S=>?_⟩
 cases sz with
 |pair pa pb=>
  obtain⟨ps,rfl,m⟩:=WG S;rw[M9 (λz=>by rw[M]at z;cases z.1)]at q;exact⟨_,_,Z0 m,Y,Y,_,Y,Vf (by decide +kernel)<|q H<|Z6 _⟩
 |tags us=>
 obtain⟨ps,l,rfl,m,hl⟩:=Xn S;refine⟨_,_,Z0 m,Y,Y,_,Y,Y6 (by decide +kernel) ?_⟩;exists _,_,Z0 hb,Y,⟨_,Z0 N⟩;refine JN T.length (Yt<|by omega) (λj Z G=>Same H G/\Z.length=j/\Z=(L.take j).map V.str) ⟨Z6 _,rfl,rfl⟩ (λj Z G z=>z.2.1) ?_ ?_ ?_ ?_
 .intro j Z G hj z
  exact⟨T,T[j],Z0<|z.1 _ _ N,by simp[hj]⟩
 .intro Z G z
  exact⟨T,Z0<|z.1 _ _ N,ZF _⟩
 .intro j Z G u H'' R hj z yl hR
  obtain⟨rfl,x⟩:=yl;obtain⟨dd,G3,J5⟩:=I.get<|x T<|Z0<|z.1 _ _ N;obtain⟨tg,bb,ht,rfl⟩:=brs_get G3;obtain⟨t2,L1,rfl,J1,_⟩:=OB J5;exists _,Z0<|z.1 _ _ J1,rfl;refine hR _ _ ⟨z.1,by rw[ZJ,z.2.1];rfl,?_⟩;rw[z.2.2,take_snoc ht,ZI]
  rfl
 .intro Z H1 l2 z hl2
  obtain⟨o,_,rfl⟩:=z;rw[Ze (by omega)];refine up_in hl2 (.lst<|L.map V.str) λH2 s2 g2=>?_;refine⟨l2,_,Y,.inl ⟨Z1 g2,λt3 Z9=>?_⟩⟩;refine up_in Z9 (.tup<|L.map V.str) λH3 s3 g3=>?_;have J:=(o.trans s2).trans s3;exists _,_,Z0<|J _ _ m,rfl,.tup<|L.map Dat.str,.tup<|us.map Dat.str,Yu g3<|VE L,Yu (J _ _ hl)<|VE us,?_,_,rfl
  .have:=Tc L
   unfold Dat.dep at this |-;exact this
  unfold Dat.pq;rw[WY]
  by_cases ct:L=us
  case neg=>
   rw[M9 (λz=>ct (by have o:=M.symm.trans z.1;injection o with z2;injection z2 with z3;exact z3.symm))]at q;exact Vf (by simp[ct])<|q H3 J
  subst ct;refine Y6 (by simp) ?_;have U:=J _ _ hf;exists _,.str y,Z1 U,Yw (j:=1) Y;refine⟨2,Y,fl,_,Y,Z1 U,λl4 J4=>?_⟩;rw[yb];refine up_in J4 (.lst<|r.map V.str) λH4 s4 g=>?_;exists ⟨_,Z1 g⟩;refine JN r.length (Yt<|by omega) (λj Z G=>Same H4 G/\Z=((r.take j).map λu=>!decide (V.str u=V.str y)).map V.bl/\Z.length=j) ⟨Z6 _,rfl,rfl⟩ (λj Z G z=>z.2.2) ?_ ?_ ?_ ?_
  .intro j Z G hj z
   exact⟨_,.str r[j],Z1<|z.1 _ _ g,by rw[ZG,ZC hj];rfl⟩
  .intro Z G z
   exact⟨_,Z1<|z.1 _ _ g,by rw[ZA];exact ZF _⟩
  .intro j Z G u H'' R hj z yl hR
   obtain⟨rfl,x⟩:=yl;have e5:=x _<|Z1<|z.1 _ _ g;rw[ZG,ZC hj]at e5;cases ZP e5;refine⟨Y,hR _ _ ⟨z.1,?_,by rw[ZJ,z.2.2];rfl⟩⟩;rw[z.2.1,take_snoc<|ZC hj,ZI,ZI]
   rfl
  .intro Z H5 l6' z hl6
   obtain⟨z5,rfl,_⟩:=z;rw[vj];refine up_in hl6 (.lst<|(r.map λu=>!decide (V.str u=V.str y)).map V.bl) λH6 s6 g6=>?_;have D:=((J.trans s4).trans z5).trans s6;exists l6',_,Y,Z1 g6,_,Y
   by_cases cu:∀u∈r,u=y
   .rw [Pi M cu]at q
    exact Y6 (by rw[(Oi y r).mpr cu];simp)<|q H6 D
   .rw [M9 (λz=>cu z.2)]at q
    refine Vf ?_<|q H6 D
    cases ea:(r.map λu=>!decide (V.str u=V.str y)).any id with
    |true=>rfl
    |false=>exact Zp ((Oi y r).mp ea) cu
end
end K4
namespace L2
open PySem
def BQ{g:TG}{O:TS}{D:Ends}(Z:kH)(Q:Z 0 U H)(S:∀i U H,i<=xs.length->Z i U H->Sq K tp H a xs)(A:∀i x U H r,xs[i]?=some x->Z i U H->H r=none->g (.ref r) U (upd H r<|.tup [.int ((i:Nat):Int),x]) fun σ2 M=>O {D with nx:=Z<|i+1,ct:=Z<|i+1,bk:=D.nx} σ2 M)(P:∀U H,Z xs.length U H->D.nx U H):
  ∃W:Nat->Nat->St->Hp->Prop,(∃m,W 0 m U H)/\∀i m U H,W i m U H->
   ((Ite K tp a).stop i H/\D.nx U H)\/((Ite K tp a).go i H/\∃N:kI,(∀L J,N L J->∃R,R<m/\W (i+1) R L J)/\∀x J,(Ite K tp a).yld i H x J->g x U J fun σ2 M=>O {D with nx:=N,ct:=N,bk:=D.nx} σ2 M):=by
 refine⟨λi m U H=>m=xs.length-i/\i<=xs.length/\Z i U H,⟨xs.length,by simp,Za _,Q⟩,λi m U H z=>?_⟩;obtain⟨rfl,C,p⟩:=z;have q:=S i U H C p;rcases qw i xs.length with G|X
 .refine .inr ⟨⟨xs,xs[i],q,ZC G⟩,Z<|i+1,λL J B=>⟨xs.length-(i+1),by omega,rfl,G,B⟩,λx J y=>?_⟩
  obtain⟨r,T,rfl,I,rfl,F⟩:=y;exact A i T U H r (F xs q) p I
 .have e:i=xs.length:=by omega
  exact .inl ⟨⟨xs,q,by omega⟩,by subst e;exact P U H p⟩
def X3{g:TG}{L:TS}{D:Ends}(Z:kH)(C:Z 0 U H)(I:∀i U H,i<=xs.length->Z i U H->Sq K tp H a xs)(F:∀(B:kI)(R:VK) i x U H r,xs[i]?=some x->Z i U H->H r=none->g (.ref r) U (upd H r<|.tup [.int ((i:Nat):Int),x]) fun σ2 G=>L {nx:=Z<|i+1,rt:=R,bk:=B,ct:=Z (i+1)} σ2 G)(S:∀U H,Z xs.length U H->D.nx U H):
  ∃W:Nat->Nat->St->Hp->Prop,(∃m,W 0 m U H)/\∀i m U H,W i m U H->
   ((Ite K tp a).stop i H/\D.nx U H)\/((Ite K tp a).go i H/\∃N:kI,(∀O J,N O J->∃M,M<m/\W (i+1) M O J)/\∀x J,(Ite K tp a).yld i H x J->g x U J fun σ2 G=>L {D with nx:=N,ct:=N,bk:=D.nx} σ2 G):=
 BQ Z C I (λi x U H r E p A=>F _ _ i x U H r E p A) S
def Rd.same(r:Rd H a u)(e:Same H Z):Rd Z a u:=r.imp (λh=>e _ _ h) λ⟨o,h⟩=>⟨o,e _ _ h⟩
def Ot(Z:kE)(b:Bd):(wth Z b).length<=Z.length+1:=by
 cases b with
 |letb x z e g=>exact N0 Z _ _
 |_=>exact jr _
def W1{o:Option Str}(h:o=none):Up o=.non:=by rw[h];rfl
end L2
namespace K4
open PySem L2
section
variable{f g C CK:Addr}
def Tf(C CK:Addr)(n:Nat):Sp:=λM H Q _=>∃(t a:Addr)(v:V)(Z:kL)(c d:kM)(G:List Dd)(J:kE)(b:Bd),
 M=[.ref t,.ref a,v]/\BI H C CK t Z d G/\KK 30 c d Z/\HK (Z.map (·.1)) (Y5<|G.map (·.1))/\NK (Z.map (·.1)) J/\(∀x∈G,x.1.2.1.length<=3)/\Rd H a (.dK J)/\J.length+b.dep<=500/\Has H v b.dat/\b.ok/\b.dep<n/\n<=500/\
 ∀r p L,Same H L->L r=some (.tup [Up (kdn Z (Y5<|G.map (·.1)) n J b),p])->(kdn Z (Y5<|G.map (·.1)) n J b=none->∃l w r,p=.ref l/\L l=some (.tup<|List.map V.int w)/\w.length<=n/\wr Z (Y5<|G.map (·.1)) n J b=w::r)->Q (.ref r) L
def Rk:Yn ["book","around","body","within","found","number","part","kind","place","rule"] ["book","around","body"] (Yc sKP):=Y7
def Ee(h:U[i]?=some (some v))(k:u D (U.set j<|some v) H):Yg (Bn (Wo i)<|Vp j) u D U H:=by
 show Nd U[i]? _;rw[h];exact k
def Cm(B:Blt mg)(me:mg "enumerate"=none)(TB:BCl K C)(TC:KCl K CK)(F:Fun K "kind_or_place" "kind_or_place" sKP f fd)(G:Yh P w K mg base CX0 (L+3) f fd ["book","around","body"] (Tf C CK n))(bG:Binds K fd ["book","around","body"] [])(mG:mg "kind_or_place"=some (.ref f))(m1:Vk K C "kinds" g1)(G1:Yh P w K mg base CX0 (L+3) g1 d1 ["self"] (JH C CK))(b1:Binds K d1 ["self"] [])(m2:Vk K CK "names" g2)(G2:Yh P w K mg base CX0 (L+3) g2 d2 ["self"] (XC CK))(b2:Binds K d2 ["self"] [])(DP:Df P w K mg base (L+3) "parts" ["body"] XB)(mU:mg "RULES"=some (.ref aR))(hM:base.MapOf (VT P w) aR mR)(hR:∀b:Bd,(∀e ts bs,b=.choose e ts bs->1<=bs.length)->∃(g:Addr)(gd:FuncData)(p:Bd->Prop),mR (Sum.inr b.word)=some (.ref g)/\Yh P w K mg base CX0 (L+3) g gd rps (WO C CK p)/\p b/\W.keepIn K (.ref g)=true/\Binds K gd rps []):
  Yh P w K mg base CX0 (L+3+1) f fd ["book","around","body"] (Tf C CK<|n+1):=by
 refine F.oq Rk λD3 A R7 s H vs Q E hr h=>?_;obtain⟨t,a,v,J,c,d,T,M,b,rfl,bi,kk,hk,nk,pl,ha,kl,hv,ok,dn,n5,q⟩:=h;have hu:=Jg hr;have DG:Df P w K mg base (L+3) "kind_or_place" ["book","around","body"] (Tf C CK n):=⟨f,fd,mG,F.kp,bG,G⟩;refine⟨_,YW (Yk 3 Rk.nd<|pv 1)
  (YW (Y4 (Yq JK (Ym Yp (pv 2) YX) VA<|Yy _)
   (YW (Y4 (PW.pt<|Jm (Jy<|WC hu (Ym Yp (pv 2) YX)<|pv 1)<|Jc<|Yq JZ (Ym Yp (pv 2) YX) (VW (VW (pv 0) TB.cl m1 G1 hr b1 .nil VN) TC.cl m2 G2 hr b2 .nil VN) rfl) (YZ<|Yo<|Y0<|pa2 Vu<|Y0 Vd) Ys)
   (YW (Yk 3 Rk.nd<|VB EI rfl B.dict WI (pa1<|pv 1))
   (YZ<|JP hu (pv 3) (Ym Yp (pv 2) YX) (Ym Yp (pv 2) YX) rfl))) Ys)
  (YW (Yk 4 Rk.nd<|Vv Vd)
  (YW (Vq Zt rfl (XH rfl me (pa1<|Yx DP hr<|pa1<|pv 2)) (VO (n:=2) rfl (Yi (Yb 5 Rk.nd)<|Yi (Yb 6 Rk.nd) VC))
   (YW (V5 (Yx DG hr<|pa3 (pv 0) (pv 3)<|pv 6)<|VO (n:=2) rfl (Yi (Yb 7 Rk.nd)<|Yi (Yb 8 Rk.nd) VC))
   (YW (Y4 (Yq RM (pv 7) Vu<|Yy _) (YZ<|Yo<|Y0<|pa2 Vu<|Y1 Wa (Y0<|pa1<|pv 5)<|pv 8) Ys)
   (YZ<|Ve<|Ui Zx Zy Zz V2 (pv 4)<|pa1<|pv 7))))
  (YW (Yk 9 Rk.nd<|Pb rfl mU hM hu (Ym Yp (pv 2) YX) (λ_ _=>rfl))
  (YW (Yk 7 Rk.nd<|LT (pv 9) hr VN<|pa4 (pv 0) (pv 1) (pv 2)<|pv 4)
  (YW (Y4 (Yq RM (pv 7) Vu<|Yy _) (YZ<|Yo<|Y0<|pa2 Vu<|Y0 Vd) Ys)
  (YZ<|Yo<|Y0<|pa2 (pv 7) Vu))))))),?_⟩
 dsimp only[Vi,Cx.nox,Cx.wish];show let a:=_;let b:=_;let c:=Yg (VJ _ b _) a;let d:=Yg _ c;let e:=Yg _ d;let f:=_;let g:=_;let h:=Yg (VJ _ g _) f;let i:=Yg _ h;let j:=Yg (Jt _ _ i) e;let k:=Yg _ j;let l:=_;let m:=Yg _ l;let n:=_;let o:=Yg (VJ _ n _) m;let p:=Yg (VJ _ o _) k;Yg _ p _ _ _
 intros
 obtain⟨bt,ys,rfl,hb⟩:=BO hv;have D0:=Bd.few ok
 have G3:kdn J (Y5<|T.map (·.1)) (n+1) M b=none->[[]]=wr J (Y5<|T.map (·.1)) (n+1) M b->∀R,Same H R->∀O r0,R O=none->(upd R O<|.tup []) r0=none->Q (.ref r0) (upd (upd R O<|.tup []) r0<|.tup [.non,.ref O]):=λe T0 R D O r0 h0 h1=>by
  have s2:=Ye h0<|.tup [];have g2:upd R O (.tup []) O=some (.tup []):=Ya;refine q r0 (.ref O) _ ((D.trans s2).trans<|Ye h1 _) (by rw[W1 e];exact Ya) λ_=>⟨O,[],[],rfl,(Ye h1 _) _ _ g2,Za _,T0.symm⟩
 refine Ee Y ?_;refine Vl (λU' R=>∃wa,Same H R/\ ¬UC J M b/\Rd R wa (.dK<|wth M b)/\U'=[some (.ref t),some<|.ref a,some<|.ref bt,some<|.ref wa,none,none,none,none,none,none]) ?_ ?_
 .rintro U' R ⟨wa,D,nb,hw,rfl⟩
  have N2:=nk.wth nb;refine⟨sl 0,λfl R4=>?_⟩;refine up_in R4 _ λH2 s2 g2=>?_;refine⟨.ref bt,b,Y,(hv.mono D).mono s2,ok,λu H3 s3 T1=>?_⟩;obtain⟨pa,xs,rfl,R3,R1⟩:=Yz T1;have lx:=R1.length;rw[Z7,ZA]at lx;exists pa,true,xs,Y,Z0 R3
  let I:kH:=λi U Hi=>Same R Hi/\Hi pa=some (.tup xs)/\HasL Hi xs (Bd.dats b.parts)/\(∃zs:kq,(b.parts.take i).map (kdn J (Y5<|T.map (·.1)) n<|wth M b)=zs.map some/\Hi fl=some (.lst<|zs.map V.str))/\∃z5 z6 z7 z8,U=[some (.ref t),some<|.ref a,some<|.ref bt,some<|.ref wa,some<|.ref fl,z5,z6,z7,z8,none]
  refine BQ (tp:=true) (xs:=xs) I ⟨s2.trans s3,R3,R1,⟨[],Y,s3 _ _ g2⟩,_,_,_,_,Y⟩ (λi U Hi _ z=>Z0 z.2.1) ?_ ?_
  .rintro i x U Hi r hx ⟨si,hai,hxi,⟨zs,ez,hfi⟩,z5,z6,z7,z8,rfl⟩ hr'
   refine up_in hr' _ λHR sR gR=>?_;obtain⟨dd,Z8,T5⟩:=hxi.get hx;rw[Z7,ZG]at Z8
   cases hc:b.parts[i]? with
   |none=>rw[hc]at Z8;cases Z8
   |some c'=>
    rw[hc]at Z8;cases Z8;have J1:=ZH hc;have dc:=Bd.dep_mem J1;have il:=(ZE.mp hc).1;have wl:=Ot M b;have J2:=(D.trans si).trans sR
    have lz:zs.length<=i:=by
     have:=congrArg List.length ez;rw[ZA,ZA,ZL]at this;omega
    exists _,Z0 gR,Y;refine⟨t,wa,x,J,c,d,T,wth M b,c',Y,bi.mono J2,kk,hk,N2,pl,hw.same<|si.trans sR,by omega,T5.mono sR,Bd.ok_parts ok c' J1,by omega,by omega,λr2 p2 H4 s4 h4 hp=>?_⟩;exists _,Z0 h4,Y
    cases ek:kdn J (Y5<|T.map (·.1)) n (wth M b) c' with
    |none=>
     have en:kdn J (Y5<|T.map (·.1)) (n+1) M b=none:=Wc<|ZU.mpr ⟨c',J1,ek⟩;obtain⟨l2,ws,wt,rfl,Z9,lw,ew⟩:=hp ek;have pn:none∈b.parts.map (kdn J (Y5<|T.map (·.1)) n<|wth M b):=ZU.mpr ⟨c',J1,ek⟩;obtain⟨L1,T7⟩:=FZ (f:=wr J (Y5<|T.map (·.1)) n<|wth M b) hc ((KA λe he=>by have:=Bd.dep_mem<|Zi he;omega).mpr (by rw[ez];simp)) ew;have R6:=(Ou nb pn).trans T7;refine⟨Y,_,Y,Vf (by simp[Up]) ?_⟩;refine⟨sl 1,λt1 T3=>?_⟩;refine up_in T3 _ λH5 s5 g5=>?_;refine⟨t1,l2,_,_,Y,Y,Z0 g5,Z0<|s5 _ _ Z9,by simp,Zf<|Yt (by show 1+(ws.map V.int).length<=1000;rw[ZA];omega),λe0=>?_,λe0 t2 T2=>?_⟩
     .refine ⟨sl 2,λS Z=>?_⟩
      exact q S _ _ (((J2.trans s4).trans s5).trans<|Ye Z _) (by rw[W1 en];exact Ya) λ_=>⟨t1,[((i:Nat):Int)],L1,rfl,(Ye Z _) _ _ g5,by show 1<=n+1;omega,by rw[R6];cases ws with|nil=>rfl|cons _ _=>cases e0⟩
     .refine up_in T2 _ λH6 s6 g6=>?_
      refine⟨sl 2,λS Z=>?_⟩;exact q S _ _ ((((J2.trans s4).trans s5).trans s6).trans<|Ye Z _) (by rw[W1 en];exact Ya) λ_=>⟨t2,((i:Nat):Int)::ws,L1,rfl,(Ye Z _) _ _ g6,by rw[Zd];omega,R6⟩
    |some zk=>
     refine⟨Y,_,Y,Y6 (by simp[Up]) ?_⟩;have J4:=s4 _ _<|sR _ _ hfi;refine⟨.inl ⟨Y,_,Z1 J4⟩,fl,_,_,Y,Y,J4,Yt (by rw[ZA];omega),?_⟩;have T4:=s4 _ _<|sR _ _ hai;have tk:TK H4 (upd H4 fl<|.lst<|zs.map V.str++[Up (some zk)]):=λb us h=>by rw[Yd (λe=>by rw[e,J4]at h;cases h)];exact h
     refine⟨((si.trans sR).trans s4).putN R4,tk _ _ T4,VU tk _ (Bd.sts _)<|(hxi.mono sR).mono s4,⟨zs++[zk],?_,?_⟩,_,_,_,_,rfl⟩
     .rw [take_snoc hc,ZI,ZI,ez]
      show _++[kdn _ _ _ _ _]=_;rw[ek];rfl
     .rw [Ya,ZI];rfl
  .rintro U Hi ⟨si,hai,hxi,⟨zs,ez,hfi⟩,z5,z6,z7,z8,rfl⟩
   rw[Ze (by omega)]at ez;have sH:=D.trans si;have a0:atI (V.str b.word::ys) 0=some (.str b.word):=Yw (j:=0) rfl
   obtain⟨gr,T6,pr,r1,r2,r3,r4,r5⟩:=hR b (λe' T8 F2 eb=>by
    subst eb;unfold Bd.ok at ok;rw[ok.2.1];exact ok.2.2.1.1)
   have lz:zs.length=b.parts.length:=by
    have:=congrArg List.length ez;rw[ZA,ZA]at this;exact this.symm
   have mz:∀z∈zs,z∈J.map (·.1):=λz hz=>by
    have m:some z∈b.parts.map (kdn J (Y5<|T.map (·.1)) n<|wth M b):=by rw[ez];exact ZU.mpr ⟨z,hz,Y⟩
    obtain⟨p,_,e⟩:=ZU.mp m;exact NH kk hk n _ p z N2 e
   have eo:=TD nb ez;exists _,_,Z0<|sH _ _ hb,a0,Sum.inr b.word,_,.ref gr,rfl,r1,rfl;refine⟨gr,T6,rps,WO C CK pr,Y,r2,r4,r5,t,a,fl,.ref bt,J,c,d,T,M,b,zs,Y,bi.mono sH,kk,nk,pl,ha.same sH,hv.mono sH,ok,r3,hfi,lz,mz,λH5 s5=>?_⟩;rw[<-eo];have M2:=sH.trans s5
   cases ek:kdn J (Y5<|T.map (·.1)) (n+1) M b with
   |none=>exact⟨Y,_,Y,Vf (by simp[Up]) ⟨sl 0,λO X=>⟨sl 2,λS Z=>G3 ek (SA nb (by rw[ez];simp) ek) H5 M2 O S X Z⟩⟩⟩
   |some y=>
    refine⟨Y,_,Y,Y6 (by simp[Up]) ⟨sl 2,λS Z=>?_⟩⟩;exact q S _ _ (M2.trans<|Ye Z _) (by rw[ek];exact Ya) λe=>by rw[ek]at e;cases e
 .intro N key
  have a0:atI (V.str b.word::ys) 0=some (.str b.word):=Yw (j:=0) rfl;exists _,_,Z0 hb,a0,Y,_,Y
  cases b with
  |letb x k e g=>
   obtain⟨F1,u1,u2,e1,J5⟩:=E7 hv;cases e1;obtain⟨A',kt,rfl,b'⟩:=id bi;refine Vf (decide_eq_true Y) ?_;exists _,_,Z0 J5,Y,_,.inl ⟨M,Sum.inr x,ha,Y,Y⟩,_,Y
   by_cases kn:(VI M<|Sum.inr x).isSome=true
   .exact Vf (by rw[kn]) ⟨sl 0,λO X=>⟨sl 2,λS Z=>G3 (TF<|.inl kn) (KB<|.inl kn) H (Z6 _) O S X Z⟩⟩
   refine Y6 (by simpa using kn) ?_;refine⟨_,_,Z0 J5,Y,_,_,b'.ins,Y,A'.t,J,d,T,Y,bi,λso ki=>?_⟩;obtain⟨AK,SK,rfl,R8,T9⟩:=id ki;refine⟨_,_,R8.ins,Y,AK.t,J,d,Y,ki,λl R D hl g1=>?_⟩;have el:(J.map λk=>V.str k.1)=(J.map (·.1)).map V.str:=by rw[yg];rfl
   rw[el]at g1;exists l,_,Y,.inl<|Z1 g1,rfl,Jj _,_,rfl;rw[J9]
   by_cases km:k∈J.map (·.1)
   case neg=>exact Vf (by simp only[if_true,jM,decide_eq_false_iff_not];exact km) ⟨sl 0,λO X=>⟨sl 2,λS Z=>G3 (TF<|.inr km) (KB<|.inr km) R D O S X Z⟩⟩
   refine Y6 (by simp only[if_true,jM,decide_eq_false_iff_not,Classical.not_not];exact km) ?_;refine⟨a,M,Y,ha.same D,λl2 Z9=>?_⟩;refine up_in Z9 _ λH2 s2 g2=>?_;have R5:=s2 _ _<|D _ _ J5;refine⟨_,_,Z0 R5,Y,_,_,Z0 R5,Y,_,Us.k (k:=Sum.inr x) g2<|Yt<|by omega,?_⟩;exact key _ _ ⟨l2,(D.trans s2).putN<|D.free Z9,λz=>z.elim (λz=>kn z) λz=>z km,.inl Ya,rfl⟩
  |_=>exact Y6 (λz=>by have z1:=Zr z;injection z1 with z2;exact Zp z2 (by dsimp only[Bd.word];decide +kernel))<|key _ _ ⟨a,Z6 _,λz=>z,ha,rfl⟩
end
end K4
namespace L2
open PySem
def XY(ks:kL)(ps:List (Str×Str)):List (List W):=ps.foldl (λrows p=>rows.flatMap λr=>(VG ks 3 p.2).map λu=>r++[u]) [[]]
def W0(r:List W):Dat:=.tup<|r.map W.dat
def Dh(Z:kL)(J:List (Str×Str))(p:Str×Str):XY Z (J++[p])=(XY Z J).flatMap λr=>(VG Z 3 p.2).map λu=>r++[u]:=by
 unfold XY;rw[qB]
 rfl
theorem MF{α β:Type}(f:α->List β)(k:Nat):∀l:List α,(∀a∈l,(f a).length=k)->(l.flatMap f).length=l.length*k
 |[],_=>by simp
 |a::l,h=>by
  rw[qz,ZJ,h a ZY,MF f k l λb Z=>h b<|ZK _ Z,Zd,v0,Nat.add_comm]
theorem XF(c:kM):∀(Z:List (Str×Str))(n:Nat),Z.foldl (λr p=>r*c p.2) n=n*Vs c Z
 |[],n=>by unfold Vs;simp
 |p::Z,n=>by
  unfold Vs;rw[v8,v8,XF c Z<|n*c p.2,XF c Z<|1*c p.2,Nat.one_mul,Nat.mul_assoc]
def Tw(h:∀p∈ps,0<c p.2)(i:Nat):Vs c (ps.take i)<=Vs c ps/\0<Vs c ps:=by
 have pos:∀Z:List (Str×Str),(∀p∈Z,0<c p.2)->0<Vs c Z:=λZ=>by
  induction Z with
  |nil=>intro _;exact Nat.one_pos
  |cons q Z ih=>
   intro G;unfold Vs;rw[v8,XF,Nat.one_mul];exact Nat.mul_pos (G q ZY)<|ih λp J=>G p<|ZK _ J
 refine⟨?_,pos ps h⟩
 have e:Vs c ps=Vs c (ps.take i)*Vs c (ps.drop i):=by
  conv=>lhs;rw[<-vA i ps]
  unfold Vs;rw[qB,XF]
  rfl
 rw[e];exact Nat.le_mul_of_pos_right _<|pos _ λp J=>h p<|j8 J
def KK.c0(h:KK 30 c d Z)(J:y∈Z.map (·.1)):(VG Z 3 y).length=c y/\0<c y:=by
 have s:=h.small J;obtain⟨a,b,_⟩:=Ut h 3 y J (by omega);exact⟨a,b⟩
def Fn(h:KK 30 c d J)(Z:List (Str×Str))(L:∀p∈Z,p.2∈J.map (·.1)):(XY J Z).length=Vs c Z:=by
 have M:∀(Z:List (Str×Str))(rows:List (List W)),(∀p∈Z,p.2∈J.map (·.1))->(Z.foldl (λrows p=>rows.flatMap λr=>(VG J 3 p.2).map λu=>r++[u]) rows).length=Z.foldl (λr p=>r*c p.2) rows.length:=λZ=>by
  induction Z with
  |nil=>intro rows _;rfl
  |cons p Z ih=>
   intro rows G;rw[v8,v8,ih _ λq m=>G q<|ZK _ m,MF _ (c p.2) rows λa _=>by rw[ZA];exact(h.c0<|G p ZY).1]
 exact M Z [[]] L
def Di(Z:List (Str×Str)):∀r∈XY ks Z,r.length=Z.length:=by
 have N:∀(Z:List (Str×Str))(n:Nat)(rows:List (List W)),(∀r∈rows,r.length=n)->∀r∈Z.foldl (λrows p=>rows.flatMap λr=>(VG ks 3 p.2).map λu=>r++[u]) rows,r.length=n+Z.length:=λZ=>by
  induction Z with
  |nil=>intro n rows h r J;exact h r J
  |cons p Z ih=>
   intro n rows h r J
   have:=ih (n+1) _ (λr J=>by
    obtain⟨G,M,L⟩:=List.mem_flatMap.mp J;obtain⟨u,_,rfl⟩:=ZU.mp L;rw[ZJ,h G M];rfl) r J
   rw[this,Zd];omega
 intro r J;have:=N Z 0 [[]] (λr J=>by rw[ZO.mp J];rfl) r J;omega
def QW(N:Has H x (W0 r))(J:H b=some (.tup [wv]))(O:Has H wv u.dat)(B:r.length<=3)(q:∀v G,Same H G->Has G v (W0<|r++[u])->Q v G):
  Ry K x (.ref b) H Q\/WX K x (.ref b) H Q:=by
 unfold W0 at N q;obtain⟨a,L,rfl,R,Z⟩:=Yz N;have M:=Z.length;rw[ZA]at M
 cases r with
 |nil=>
  obtain rfl:=VP Z;exact .inl ⟨a,b,[wv],Y,Y,Z0 R,Z0 J,q _ _ (Z6 _)<|Yu J<|Z3 O⟩
 |cons y r=>
  refine .inr ⟨a,b,L,[wv],Y,Y,Z0 R,Z0 J,(λz=>by subst z;cases M),Zf (Yt (by simp only[yn];omega)),(λz=>nomatch z),λ_ p T=>?_⟩;have s:=Ye T<|.tup<|L++[wv];refine q _ _ s<|Yu Ya ?_;rw[ZI];exact Z5 (Z.mono s)<|Z3<|O.mono s
def Dn{J:List (Str×Str)}{i:Nat}(h:HasL H G (J.map λp=>.tup [.str p.1,.str p.2]))(L:G[i]?=some x):∃p t,J[i]?=some p/\x=.ref t/\H t=some (.tup [.str p.1,.str p.2]):=by
 obtain⟨d,Z,N⟩:=h.get L;rw[ZG]at Z
 cases e:J[i]? with
 |none=>rw[e]at Z;cases Z
 |some p=>
  rw[e]at Z;cases Z;obtain⟨t,rfl,M⟩:=X2 N;exact⟨p,t,Y,Y,M⟩
end L2
namespace K4
open PySem L2
section
variable{f g C CK:Addr}
def Mf(CK:Addr):Sp:=λM H Q _=>∃(G:Addr)(J:kL)(d:kM)(Z:List (Str×Str))(v:V),M=[.ref G,v]/\KI H CK G J d/\J.length<=6/\Has H v (psD Z)/\Z.length<=3/\(∀p∈Z,p.2∈J.map (·.1))/\(Z.map (·.1)).Nodup/\(∀p∈Z,WdS p.1)/\
 ∀L,Same H L->Q (.bl true) L
def G0:Yn ["kinds","parameters","seen","name","kind"] ["kinds","parameters"] (Yc Dg):=Y7
def U9(CK:Addr):Sp:=λM H Q _=>∃(G:Addr)(J:kL)(c d:kM)(Z:List (Str×Str))(v:V),M=[.ref G,v]/\KI H CK G J d/\KK 30 c d J/\Has H v (psD Z)/\(∀p∈Z,p.2∈J.map (·.1))/\Vs c Z<=1000/\
 ∀L,Same H L->Q (.int (Vs c Z:Nat)) L
def UT:Yn ["kinds","parameters","count","name","kind"] ["kinds","parameters"] (Yc Wz):=Y7
def N7(B:Blt S)(TC:KCl K CK)(F:Fun K "row_count" "row_count" Wz f fd)(o:Vk K CK "worths_of" g)(G2:Yh P w K S base CX0 n g gd ["self","kind"] (UP CK))(b2:Binds K gd ["self","kind"] []):Yh P w K S base CX0 (n+1) f fd ["kinds","parameters"] (U9 CK):=by
 refine F.oq UT λZ8 A R s H vs Q E hr h=>?_;obtain⟨T,ks,c,d,ps,v,rfl,ki,j,y,D,top,q⟩:=h;unfold psD at y;obtain⟨r,xs,rfl,G,J⟩:=Yz y;have lx:=J.length;rw[ZA]at lx;refine⟨_,YW (Yk 2 UT.nd YX)
  (YW (Vq Zt rfl (V9<|pv 1) (VO (n:=2) rfl (Yi (Yb 3 UT.nd)<|Yi (Yb 4 UT.nd) VC))
   (YZ<|Dk (i:=2) UT.nd rfl (Or.inl rfl) (Yr Yl rfl B.len Zs (pa1<|Vg (pv 0) TC.cl o G2 hr b2 .nil VN<|pa1<|pv 4)) QH))
  (YZ<|Yo<|pv 2)),?_⟩
 dsimp only[Vi,Cx.nox,Cx.wish];show let a:=_;let b:=_;let c:=Yg (Jt _ _ b) a;Yg _ c _ _ _
 intros
 refine X7 ?_;exists ⟨_,Z0 G⟩
 let I:kH:=λi U L=>Same H L/\∃O N,U=[some (.ref T),some<|.ref r,some<|.int (Vs c (ps.take i):Nat),O,N]
 refine RX (xs:=xs) I ⟨Z6 _,_,_,Y⟩ (λi U L _ z=>Z0<|z.1 _ _ G) ?_ ?_
 .rintro BB RR i x U L hx ⟨si,O,N,rfl⟩
  obtain⟨p,t,M,rfl,ht⟩:=Dn J hx;have m:=D p<|ZH M;exists _,Z0<|si _ _ ht,rfl;have Z:=ki.mono si;obtain⟨AK,SK,e1,kd,kr⟩:=id Z;refine⟨_,Y,_,_,by rw[<-e1];exact kd.ins,Y,T,ks,d,p.2,Y,Z,m,λl k H3 u hl g3 hy=>?_⟩;have X:=hy.length;obtain⟨c1,c2⟩:=j.c0 m;rw[ZA,c1]at X;have le:=(Tw (c:=c) (ps:=ps) (λp M=>(j.c0<|D p M).2) i).1;refine⟨l,_,Y,.inl<|Z1 g3,.inl ⟨by omega,by omega⟩,?_⟩;have e:((Vs c (ps.take i):Nat):Int)*((k.length:Nat):Int)=((Vs c (ps.take<|i+1):Nat):Int):=by rw[take_snoc M,XE,X,ja]
  exact⟨si.trans u,some<|.str p.1,some<|.str p.2,by rw[<-e];rfl⟩
 .rintro U L ⟨si,O,N,rfl⟩
  rw[Ze (by omega)];exact q L si
def X9(CK:Addr):Sp:=λN H Q _=>∃(M:Addr)(J:kL)(c d:kM)(Z:List (Str×Str))(v:V),N=[.ref M,v]/\KI H CK M J d/\KK 30 c d J/\Has H v (psD Z)/\(∀p∈Z,p.2∈J.map (·.1))/\Z.length<=3/\Vs c Z<=1000/\
 ∀l L G,Same H G->H l=none->G l=some (.lst L)->HasL G L ((XY J Z).map W0)->Q (.ref l) G
def US:Yn ["kinds","parameters","rows","name","kind"] ["kinds","parameters"] (Yc Wy):=Y7
def Qs:List.Nodup [("row":Str),"worth","kinds","kind"]:=by decide +kernel
def N6(B:Blt mg)(TC:KCl K CK)(F:Fun K "rows_over" "rows_over" Wy f fd)(m2:Vk K CK "worths_of" g)(G2:Yh P w K mg base CX0 n g gd ["self","kind"] (UP CK))(b2:Binds K gd ["self","kind"] []):Yh P w K mg base CX0 (n+1) f fd ["kinds","parameters"] (X9 CK):=by
 refine F.oq US λR3 A G3 s H vs Q E hr h=>?_;obtain⟨so,ks,c,d,ps,v,rfl,ki,kk,hv,pk,l3,top,q⟩:=h;unfold psD at hv;obtain⟨pa,xs,rfl,J4,J2⟩:=Yz hv;have lx:=J2.length;rw[ZA]at lx;refine⟨_,YW (Yk 2 US.nd<|Vv<|pa1<|Y0 Vd)
  (YW (Vq Zt rfl (V9<|pv 1) (VO (n:=2) rfl (Yi (Yb 3 US.nd)<|Yi (Yb 4 US.nd rfl (Or.inr rfl)) VC))
   (YZ (PX (i0:=2) (wi2:=L6 K<|KQ CK "worths_of" (UP CK) [] E (Wo 2)<|V6 (Wo 3) Gn) [0,4] US.nd rfl (Or.inl rfl) (VF<|pv 2)
    (λcl C fp s H=>Yb 0 Qs rfl (Or.inl rfl) (Or.inr rfl)) (λcl C fp s H=>VF<|Vg (pv 2) TC.cl m2 G2 hr b2 .nil VN<|pa1<|pv 3) (λcl C fp s H=>Yb 1 Qs rfl (Or.inl rfl) (Or.inr rfl))
    (λcl C fp s H=>Y1 (r:=λx y H Q=>Ry K x y H Q\/WX K x y H Q) Xy (pv 0)<|Y0<|pa1<|pv 1))))
  (YZ<|Yo<|pv 2)),?_⟩
 dsimp only[Vi,Cx.nox,Cx.wish];show let a:=_;let b:=_;let c:=Yg (Jt _ _ b) a;Yg _ c _ _ _
 intros
 refine⟨sl 0,λt0 L1=>⟨sl 1,λl0 S=>?_⟩⟩;have s1:=Ye L1<|.tup [];have g1:upd H t0 (.tup []) t0=some (.tup []):=Ya;generalize upd H t0 (.tup [])=H1 at s1 g1 S |-;refine up_in S _ λH2 s2 g2=>?_;have Z8:=s1.trans s2;exists ⟨_,Z0<|Z8 _ _ J4⟩;refine RX (xs:=xs) (λi U T=>Same H T/\∃l G z3 k,H l=none/\T l=some (.lst G)/\HasL T G ((XY ks<|ps.take i).map W0)/\U=[some (.ref so),some<|.ref pa,some<|.ref l,z3,k]) ⟨Z8,l0,_,_,_,s1.free S,g2,Z3<|Yu (s2 _ _ g1) Z4,rfl⟩ (λi U T _ z=>Z0<|z.1 _ _ J4) ?_ ?_
 .rintro BB RR i x U T hx ⟨si,l,G,z3,k,fl,hl,hy,rfl⟩
  obtain⟨p,t,O,rfl,ht⟩:=Dn J2 hx;have hk:=pk p<|ZH O;obtain⟨c1,c2⟩:=kk.c0 hk;have i3:=(ZE.mp O).1;have lR:=Fn kk (ps.take i) λp O=>pk p<|Zi O;have rl:=Di (ks:=ks)<|ps.take i;have le:=(Tw (c:=c) (ps:=ps) (λp O=>(kk.c0<|pk p O).2)<|i+1).1;have eR:XY ks (ps.take<|i+1)=(XY ks<|ps.take i).flatMap λr=>(VG ks 3 p.2).map λu=>r++[u]:=by rw[take_snoc O,Dh]
  rw[take_snoc O,XE,<-lR,<-c1]at le;rw[eR];have ly:=hy.length;rw[ZA]at ly;rw[ZL]at rl;generalize XY ks (ps.take i)=R at lR rl le hy ly |-;generalize hus:VG ks 3 p.2=us at le |-;exists _,Z0<|si _ _ ht,rfl;exists ⟨G,Z1 hl⟩;refine Rf G.length (λJ N m=>Same T m/\N.length=J*us.length/\J<=R.length/\HasL m N (((R.take J).flatMap λr=>us.map λu=>r++[u]).map W0)) ⟨Z6 _,by simp,Za _,by rw[jI];exact Z4⟩
   (λJ N m z=>Yt (by rw[z.2.1];have:J*us.length<=R.length*us.length:=vX _ z.2.2.1;omega)) ?_ ?_ ?_ ?_
  .intro J N m hi z
   exact⟨G,G[J],Z1<|z.1 _ _ hl,by simp[hi]⟩
  .intro N m z
   exact⟨G,Z1<|z.1 _ _ hl,ZF _⟩
  .intro J N m x H'' RR' hi z yl hR
   obtain⟨rfl,yy⟩:=yl;obtain⟨dx,M,N2⟩:=hy.get<|yy G<|Z1<|z.1 _ _ hl;rw[ZG]at M
   cases hr1:R[J]? with
   |none=>rw[hr1]at M;cases M
   |some r=>
    rw[hr1]at M;cases M;have ri:=rl r<|ZH hr1;have J1:=ki.mono<|si.trans z.1;obtain⟨AK,SK,e1,kd,kr⟩:=id J1;refine⟨_,_,by rw[<-e1];exact kd.ins,Y,so,ks,d,p.2,Y,J1,hk,λlw D H3 e R1 gw hw=>⟨⟨D,Z1 gw⟩,?_⟩⟩;rw[hus]at hw;have Z9:=hw.length;rw[ZA]at Z9;have J5:=(N2.mono z.1).mono e;refine BL D.length (λj I X=>Same H3 X/\I.length=J*us.length+j/\j<=us.length/\HasL X I (((R.take J).flatMap λr=>us.map λu=>r++[u]).map W0++ ((us.take j).map λu=>r++[u]).map W0)) ⟨Z6 _,by rw[z.2.1];rfl,Za _,by rw[jI,v7,v7,vE];exact z.2.2.2.mono e⟩
     (λj I X Z=>Yt (by
      rw[Z.2.1];have:(J+1)*us.length<=R.length*us.length:=vX _ (by omega);rw[v0]at this;have:=Z.2.2.1;omega)) ?_ ?_ ?_ ?_
    .intro j I X hj Z
     exact⟨D,D[j],Z1<|Z.1 _ _ gw,by simp[hj]⟩
    .intro I X Z
     exact⟨D,Z1<|Z.1 _ _ gw,ZF _⟩
    .intro j I X x2 H5 T2 hj Z yl2 hT
     obtain⟨rfl,G1⟩:=yl2;obtain⟨dz,L,M2⟩:=hw.get<|G1 D<|Z1<|Z.1 _ _ gw;rw[ZG]at L
     cases hv1:us[j]? with
     |none=>rw[hv1]at L;cases L
     |some v=>
      rw[hv1]at L;cases L;refine⟨sl 1,λb hb=>?_⟩;have sb:=Ye hb<|.tup [x2];have gb:upd H5 b (.tup [x2]) b=some (.tup [x2]):=Ya;refine QW ((J5.mono Z.1).mono sb) gb ((M2.mono Z.1).mono sb) (by omega) λv' H6 s6 h6=>hT _ _ ?_;have o:=sb.trans s6;exists Z.1.trans o,by rw[ZJ,Z.2.1];rfl,(ZE.mp hv1).1;rw[take_snoc hv1,ZI,ZI,<-jf];exact Z5 (Z.2.2.2.mono o)<|Z3 h6
    .intro I X Z
     refine hR _ _ ⟨z.1.trans<|e.trans Z.1,by rw[Z.2.1,Z9,v0],(ZE.mp hr1).1,?_⟩;have y4:=Z.2.2.2;rw[show us.take D.length=us from Ze (by omega)]at y4;rw[take_snoc hr1,List.flatMap_append,ZI];simp only[qz,List.flatMap_nil,vE];exact y4
  .intro N m p3 z hp3
   have e:=Ye hp3<|.lst N;have k:=z.2.2.2;rw[Ze (by omega)]at k;exact⟨si.trans<|z.1.trans e,p3,N,_,_,(si.trans z.1).free hp3,Ya,k.mono e,rfl⟩
 .rintro U T ⟨si,l,G,z3,k,fl,hl,hy,rfl⟩
  rw[Ze (by omega)]at hy;exact q l G T si fl hl hy
end
end K4
namespace L2
open PySem
def WZ(H:Hp)(x:Addr):Hp:=λb=>if b=x then none else H b
structure BB(Hm H:Hp)(C CK:Addr)(A:BA)(ks:List (Str×Shp))(d:Str->Nat):Prop where
 ins:H A.t=some (.ins C A.dx (Xp A))
 sm:Same Hm H
 so:KI Hm CK A.so ks d
 nd:Hm A.td=none
 nr:Hm A.rd=none
 ne:A.td≠A.rd
 n1:A.t≠A.td
 n2:A.t≠A.rd
def BB.same(b:BB J H C L A Z d)(s:Same H G):BB J G C L A Z d:=⟨s _ _ b.ins,b.sm.trans s,b.so,b.nd,b.nr,b.ne,b.n1,b.n2⟩
def BB.td(b:BB J H C G A Z d)(o:HO):BB J (upd H A.td o) C G A Z d:=⟨by rw[Yd b.n1];exact b.ins,b.sm.putN b.nd,b.so,b.nd,b.nr,b.ne,b.n1,b.n2⟩
def BB.rd(b:BB J H C G A Z d)(o:HO):BB J (upd H A.rd o) C G A Z d:=⟨by rw[Yd b.n2];exact b.ins,b.sm.putN b.nr,b.so,b.nd,b.nr,b.ne,b.n1,b.n2⟩
structure BT(H:Hp)(A:BA)(kv rv:List (Key×V))(ks:List (Str×Shp))(ds:List Dd):Prop where
 td:H A.td=some (.dK kv)
 rd:H A.rd=some (.dK rv)
 ke:kv.map (·.1)=ds.map (λx=>(Sum.inr x.1.1:Key))
 va:HasL H (kv.map (·.2)) (ds.map Xa)
 ro:∀x∈ds,∃l xs,VI rv (Sum.inr x.1.1)=some (.ref l)/\H l=some (.lst xs)/\HasL H xs ((XY ks x.1.2.1).map W0)
 ln:rv.length<=ds.length
def BT.same(b:BT H A G J L T)(s:Same H B):BT B A G J L T:=
 ⟨s _ _ b.td,s _ _ b.rd,b.ke,b.va.mono s,λx M=>let⟨l,Z,R,O,N⟩:=b.ro x M;⟨l,Z,R,s _ _ O,N.mono s⟩,b.ln⟩
theorem NM(e:TK H L):∀(u:W){v:V},Has H v u.dat->Has L v u.dat
 |.non,_,h=>by unfold W.dat Has at h |-;exact h
 |.tag _,_,h=>by unfold W.dat Has at h |-;exact h
 |.pair a b,_,h=>by
  obtain⟨p,N,M,rfl,Z,G,J⟩:=OD h;unfold W.dat Has;exact⟨p,_,Y,e _ _ Z,Z2 (NM e a G)<|Z3<|NM e b J⟩
theorem TQ{α:Type}{D:α->Dat}(e:∀u {v:V},Has H v (D u)->Has G v (D u)):∀{J:List α}{Z:kF},HasL H Z (J.map D)->HasL G Z (J.map D)
 |[],[],_=>Z4
 |[],_::_,h=>by rw[v7]at h;unfold HasL at h;exact h.elim
 |_::_,[],h=>by rw[ZT]at h;unfold HasL at h;exact h.elim
 |u::J,x::Z,h=>by
  rw[ZT]at h |-;unfold HasL at h;exact Z2 (e u h.1)<|TQ e h.2
def E8(e:TK H R){Z:List (List W)}(h:HasL H L (Z.map W0)):HasL R L (Z.map W0):=TQ (λu v J=>by
 unfold W0 Has at J |-;obtain⟨a,G,O,N,M⟩:=J;exact⟨a,G,O,e _ _ N,TQ (λu {v}=>NM e u) M⟩) h
def Nl(x:Dd):(Xa x).st=true:=by
 unfold Xa psD;simp[Dat.st,Dat.sts,G6,Bd.st]
theorem TZ:∀Z:List Dd,Dat.sts (Z.map Xa)=true
 |[]=>by unfold List.map Dat.sts;rfl
 |x::Z=>by rw[ZT];unfold Dat.sts;rw[TZ Z,Nl];rfl
def QK(h:Has H v (BZ x)):∃a u w,v=.ref a/\H a=some (.tup [.str x.1.1,u,.str x.1.2.2,w])/\Has H u (psD x.1.2.1)/\Has H w x.2.dat:=by
 unfold BZ at h;obtain⟨t,F,rfl,O,R⟩:=Yz h;obtain⟨I,X,rfl,E,L⟩:=Yf R;obtain⟨N,C,rfl,D,G⟩:=Yf L;obtain⟨A,U,rfl,B,J⟩:=Yf G;obtain⟨M,S,rfl,T,Z⟩:=Yf J;obtain rfl:=VP Z;obtain rfl:=has_str E;obtain rfl:=has_str B;exact⟨t,N,M,Y,O,D,T⟩
def yT(A:BA):(Xp A).lookup ("is_head":Str)=none:=rfl
def yR(A:BA):(Xp A).lookup ("rows":Str)=some (V.ref A.rd):=rfl
def M6(Z:X.calm=true)(M:PG X (.Name x1 p1) t1)(L:PG X (.Name x2 p2) t2)(G:PG X (.Name x3 p3) t3)(J:PG X (.Name x4 p4) t4):
  PG X (.Tuple [.Name x1 p1,.Name x2 p2,.Name x3 p3,.Name x4 p4] k pos) (QO X.K 4<|XZ t1<|XZ t2<|XZ t3<|XZ t4 BP):=
 VO (n:=4) Z (Yi M<|Yi L<|Yi G<|Yi J VC)
def BT.put(b:BT H0 A N M Q S)(P:A.td≠A.rd)(C:x.1.1∉S.map λy=>y.1.1)(R:U=upd H0 A.td (.dK<|putK N (Sum.inr x.1.1) v))(r:Has H0 v (Xa x))(s:Same U Hb)(j:Hb l=some (.lst B))(w:HasL Hb B ((XY Q x.1.2.1).map W0))(L:H4=upd Hb A.rd (.dK<|putK M (Sum.inr x.1.1)<|.ref l)):
  BT H4 A (putK N (Sum.inr x.1.1) v) (putK M (Sum.inr x.1.1)<|.ref l) Q (S++[x]):=by
 have X:VI N (Sum.inr x.1.1)=none:=U7 (by
  rw[b.ke];intro z;obtain⟨t,I,i⟩:=ZU.mp z;exact C<|ZU.mpr ⟨t,I,Sum.inr.inj i⟩)
 have F:U A.td=some (.dK<|putK N (Sum.inr x.1.1) v):=by rw[R];exact Ya
 have Z:Hb A.rd=some (.dK M):=s _ _ (by rw[R,Yd (Zq P)];exact b.rd);have D:TK H0 U:=by rw[R];exact Jv b.td λq z=>nomatch z
 have G:TK Hb H4:=by rw[L];exact Jv Z λq z=>nomatch z
 have E:TK H0 H4:=λb J h=>G _ _<|s _ _<|D _ _ h
 have p:∀b J,H0 b=some (.lst J)->H4 b=some (.lst J):=λc J h=>by
  have k:c≠A.td:=JQ h b.td (by intro z;cases z);have O:Hb c=some (.lst J):=s _ _ (by rw[R,Yd k];exact h);have g:c≠A.rd:=JQ O Z (by intro z;cases z);rw[L,Yd g];exact O
 have d:H4 l=some (.lst B):=by
  rw[L,Yd (JQ j Z (by intro z;cases z))];exact j
 exists by rw[L,Yd P];exact s _ _ F,by rw[L];exact Ya,by rw[Ux _ X,ZI,b.ke,ZI];rfl,?_,λy u=>?_
 .rw [Ux _ X,ZI,ZI]
  exact Z5 (VU E _ (TZ S) b.va)<|Z3<|UD E _ (Nl x) r
 .rw [UO]
  rcases ZV.mp u with m|m
  .have ny:¬(Sum.inr y.1.1:Key)=Sum.inr x.1.1:=λz=>C<|ZU.mpr ⟨y,m,Sum.inr.inj z⟩
   rw[Zo ny];obtain⟨f,T,o,O,e⟩:=b.ro y m;exact⟨f,T,o,p _ _ O,E8 E e⟩
  .cases ZO.mp m
   rw[Zn rfl];exact⟨l,B,Y,d,E8 G w⟩
 .have:=N0 M (Sum.inr x.1.1)<|.ref l
  have:=b.ln;rw[ZJ,yn];omega
end L2
namespace K4
open PySem L2
section
variable{f g C CK:Addr}
def Me(C CK:Addr):Sp:=λM H Q _=>∃(A:BA)(G:kE)(J:kL)(d:kM)(y k:Str)(Z:List (Str×Str))(v:V),M=[.ref A.t,.str y,v,.str k]/\H A.t=some (.ins C A.dx<|Xp A)/\H A.td=some (.dK G)/\KI H CK A.so J d/\J.length<=6/\VI G (Sum.inr y)=none/\WdS y/\
 Has H v (psD Z)/\Z.length<=3/\(∀p∈Z,p.2∈J.map (·.1))/\(Z.map (·.1)).Nodup/\(∀p∈Z,WdS p.1)/\k∈J.map (·.1)/\∀L,Same H L->Q (.bl true) L
def PK:Yn ["self","name","parameters","kind"] ["self","name","parameters","kind"] (Yc De):=Y7
def Li(G:BCl K C)(TC:KCl K CK)(F:Fun K "is_head" "Book.is_head" De f fd)(DN:Df P w K T base n "is_name" ["text"] (Xb 97))(DA:Df P w K T base n "are_parameters" ["kinds","parameters"] (Mf CK))(r:Vk K CK "names" g)(G2:Yh P w K T base CX0 n g gd ["self"] (XC CK))(b2:Binds K gd ["self"] []):Yh P w K T base CX0 (n+1) f fd ["self","name","parameters","kind"] (Me C CK):=by
 refine F.oq PK λZ8 A R s H vs Q E N h=>?_;obtain⟨D,kv,L,d,y,k,m,v,rfl,B,ht,I,i,c,⟨j,X,U⟩,a,b,p,u,O,hk,q⟩:=h;have x:=Jg N;refine⟨_,YW (Y4 (PW.pt<|Jm (V8<|V7<|Yx DN N<|pa1<|pv 1)<|Jc<|Jy<|WC x (pv 1)<|Y8 (pv 0) rfl) (YZ Jn) Ys)
  (YZ<|Yo<|WB (Yx DA N<|pa2 (Y8 (pv 0) rfl)<|pv 2)<|WA<|UI W3 (pv 3) (VW (Y8 (pv 0) rfl) TC.cl r G2 N b2 .nil VN) rfl),?_⟩
 dsimp only[Vi,Cx.nox,Cx.wish];refine⟨y,Y,j,X,U,λH1 J=>⟨_,Y,Y6 (by simp) ?_⟩⟩;refine⟨C,_,_,_,J _ _ B,G.cl,G.td,IV _,_,(show V1 H1 D.td (.str y) none by rw[<-c];exact V1.k (k:=Sum.inr y)<|J _ _ ht),_,Y,Y6 (by simp) ?_⟩;refine⟨C,_,_,_,J _ _ B,G.cl,G.so,OJ _,D.so,L,d,m,v,Y,I.mono J,i,a.mono J,b,p,u,O,λH2 t=>⟨true,Y,Vf Y ?_⟩⟩;have Z:=J.trans t;have M:=I.mono Z;obtain⟨AK,SK,e1,o,kr⟩:=id M;refine⟨C,_,_,_,Z _ _ B,G.cl,G.so,OJ _,_,_,by rw[<-e1];exact o.ins,Y,D.so,L,d,Y,M,λl H3 z hl S=>?_⟩;have el:(L.map λk=>V.str k.1)=(L.map (·.1)).map V.str:=by rw[yg];rfl
 rw[el]at S;exists l,_,Y,.inl<|Z1 S,rfl,Jj _;rw[J9];have e:decide (k∈L.map (·.1))=true:=decide_eq_true hk;dsimp only[rI0,rI,XQ];rw[e];exact q H3<|Z.trans z
end
section
variable{f g C CK:Addr}
def Ko(C CK:Addr):Sp:=λO H Q _=>∃(G:Hp)(A:BA)(N:Addr)(M:kF)(Z:kL)(c d:kM)(J:List Dd),O=[.ref A.t,.ref N]/\BB G H C CK A Z d/\BT H A [] [] Z []/\KK 30 c d Z/\Z.length<=6/\G N=some (.lst M)/\HasL G M (J.map BZ)/\0<J.length/\J.length<=8/\
 Wds 97 (J.map λx=>x.1.1)/\(∀x∈J,Ur (Z.map (·.1)) c 40 x.1)/\∀L T R,BB G L C CK A Z d->BT L A T R Z J->Q .non L
def WU:Yn ["self","definitions","in_all","number","name","parameters","kind","body","count"] ["self","definitions"] (Yc DV):=Y7
def Lh(B:Blt T)(me:T "enumerate"=none)(R:BCl K C)(F:Fun K "take_heads" "Book.take_heads" DV f fd)(h1:T "MOST_DEFINITIONS"=some u1)(r1:RelV (.int 8) u1)(h2:T "MOST_ROWS_books"=some u2)(r2:RelV (.int 200) u2)(h3:T "MOST_ROWS_IN_ALL"=some u3)(r3:RelV (.int 400) u3)(mH:Vk K C "is_head" g)(GH:Yh P w K T base CX0 n g gd ["self","name","parameters","kind"] (Me C CK))(bH:Binds K gd ["self","name","parameters","kind"] [])(DC:Df P w K T base n "row_count" ["kinds","parameters"] (U9 CK))(DO:Df P w K T base n "rows_over" ["kinds","parameters"] (X9 CK)):Yh P w K T base CX0 (n+1) f fd ["self","definitions"] (Ko C CK):=by
 refine F.oq WU λT3 A M2 s H vs Q E hr h=>?_;obtain⟨Hm,D,dl,zs,o,c,d,ds,rfl,bb,bt,kk,k6,X,Z8,d0,d8,wd,ho,q⟩:=h;have hu:=Jg hr;have lz:=Z8.length;rw[ZA]at lz;refine⟨_,YW (Y4 (Yq JK (Yr Yl Y B.len Zs (pa1<|pv 1)) YX<|Yy _) (YZ Jn) Ys)
  (YW (Yk 2 WU.nd YX)
  (YZ (Vq Zt rfl (XH rfl me (pa1<|pv 1)) (VO (n:=2) rfl (Yi (Yb 3 WU.nd)<|Yi (M6 rfl (Yb 4 WU.nd) (Yb 5 WU.nd) (Yb 6 WU.nd) (Yb 7 WU.nd)) VC))
   (YW (Y4 (PW.pt<|Jm (Yq Qo (pv 3) (JE rfl h1 r1)<|Yy _)<|Jc<|V8<|V7<|Vg (pv 0) R.cl mH GH hr bH .nil VN<|pa3 (pv 4) (pv 5)<|pv 6) (YZ Jn) Ys)
   (YW (Yk 8 WU.nd<|Yx DC hr<|pa2 (Y8 (pv 0) rfl)<|pv 5)
   (YW (Dk (i:=2) WU.nd rfl (Or.inl rfl) (pv 8) E4)
   (YW (Y4 (PW.pt<|Jm (Yq Uz (pv 8) (JE rfl h2 r2)<|Yy _)<|Jc<|Yq Uz (pv 2) (JE rfl h3 r3)<|Yy _) (YZ Jn) Ys)
   (YW (JP hu (Y8 (pv 0) rfl) (pv 4) (Y0<|pa3 (pv 5) (pv 6)<|pv 7) rfl)
   (YZ<|JP hu (Y8 (pv 0) rfl) (pv 4) (Yx DO hr<|pa2 (Y8 (pv 0) rfl)<|pv 5) rfl))))))))),?_⟩
 dsimp only[Vi,Cx.nox,Cx.wish];show let a:=_;let b:=Yg _ a;let c:=_;let d:=Yg (VJ _ c _) b;let e:=Yg _ d;let f:=Yg _ e;let g:=_;let h:=Yg (VJ _ g _) f;let i:=Jt _ _ h;let j:=Yg _ i;let k:=_;Yg (VJ _ k _) j _ _ _
 intros
 refine⟨dl,_,Y,.inl<|Z1<|bb.sm _ _ X,rfl,_,rfl,Y6 (λz=>by have z1:=Zr z;injection z1 with z2;omega) ?_⟩;refine X7 ?_;exists dl,false,zs,Y,Z1<|bb.sm _ _ X
 let I:kH:=λi U t=>BB Hm t C CK D o d/\∃(M v:kE)(n:Nat)(z3 z4 z5 z6 z7 z8:kJ),BT t D M v o (ds.take i)/\n<=40*i/\U=[some (.ref D.t),some<|.ref dl,some<|.int (n:Nat),z3,z4,z5,z6,z7,z8]
 refine X3 (tp:=false) (xs:=zs) I
  ⟨bb,[],[],0,_,_,_,_,_,_,bt,ZF _,rfl⟩ (λi U t _ z=>Z1<|z.1.sm _ _ X) ?_ ?_
 .rintro BB' RR i x U t r hx ⟨bbi,M,v,n',z3,z4,z5,z6,z7,z8,bti,n40,rfl⟩ hr'
  obtain⟨dd,G,R7⟩:=Z8.get hx;rw[ZG]at G
  cases hc:ds[i]? with
  |none=>rw[hc]at G;cases G
  |some Z=>
   rw[hc]at G;cases G;have i8:=(ZE.mp hc).1;have hm:=ZH hc;obtain⟨p3,pk,hk,L1,G3,T2⟩:=ho Z hm;refine up_in hr' _ λHR sR gR=>?_;have J:=bbi.same sR;have J2:=bti.same sR;obtain⟨ta,u,wv,rfl,R5,Z9,R1⟩:=QK<|R7.mono J.sm
   have nx:Z.1.1∉(ds.take i).map λy=>y.1.1:=by
    rw[vd];exact X0 wd.nd (show(ds.map λy:Dd=>y.1.1)[i]?=some Z.1.1 by rw[ZG,hc];rfl)
   have nk:VI M (Sum.inr Z.1.1)=none:=U7 (by
    rw[bti.ke];intro z;obtain⟨q1,R6,e1⟩:=ZU.mp z;exact nx<|ZU.mpr ⟨q1,R6,Sum.inr.inj e1⟩)
   have lk:M.length<=8:=by
    have:=congrArg List.length bti.ke;rw[ZA,ZA,ZL]at this;omega
   have lr:=bti.ln;rw[ZL]at lr;refine⟨_,Z0 gR,Y,⟨_,Z0 R5,Y,?_⟩⟩;refine⟨_,Y,Y6 (by simp;omega) ?_⟩;refine⟨_,_,J.ins,yT _,D,M,o,d,Z.1.1,Z.1.2.2,Z.1.2.1,u,Y,J.ins,J2.td,J.so.mono J.sm,k6,nk,wd.wdS<|ZU.mpr ⟨Z,hm,rfl⟩,Z9,p3,pk,L1,G3,hk,λH1 s1=>⟨_,rfl,Y6 (by simp) ?_⟩⟩;have O:=J.same s1;have T0:=J2.same s1;have S:=Z9.mono s1;refine⟨C,_,_,_,O.ins,R.cl,R.so,OJ _,D.so,o,c,d,Z.1.2.1,u,Y,O.so.mono O.sm,kk,S,pk,by omega,λH2 p=>?_⟩;have T1:=O.same p;have R8:=T0.same p;exists _,Y;refine⟨_,Y,Y6 (by simp;omega) ?_⟩;refine⟨_,Y,Y6 (by simp;omega) ?_⟩;refine⟨sl 3,λtt R4=>?_⟩;refine up_in R4 _ λH3 m g3=>?_;have J5:=T1.same m;have N:=R8.same m;have R3:Has H3 (.ref tt) (Xa Z):=Yu g3<|Z2 ((S.mono p).mono m)<|Z2 Yv<|Z3<|((R1.mono s1).mono p).mono m;refine⟨C,_,_,_,J5.ins,R.cl,R.td,IV _,_,Us.k (k:=Sum.inr Z.1.1) N.td<|Yt<|by omega,?_⟩;have L:=J5.td<|.dK<|putK M (Sum.inr Z.1.1)<|.ref tt;obtain⟨H4,e4⟩:∃H4,H4=upd H3 D.td (.dK<|putK M (Sum.inr Z.1.1)<|.ref tt):=⟨_,rfl⟩;have G1:TK H3 H4:=by rw[e4];exact Jv N.td λys z=>nomatch z
   have G2:H4 D.rd=some (.dK v):=by rw[e4,Yd (Zq bb.ne)];exact N.rd
   rw[<-e4]at L;dsimp only[rI0,rI,XQ];rw[<-e4];refine⟨C,_,_,_,L.ins,R.cl,R.so,OJ _,D.so,o,c,d,Z.1.2.1,u,Y,L.so.mono L.sm,kk,UD G1 _ (by unfold psD;unfold Dat.st;exact G6 _)<|(S.mono p).mono m,pk,p3,by omega,λl xs H5 s5 fl hl N2=>?_⟩;have J4:=L.same s5;refine⟨C,_,_,_,J4.ins,R.cl,R.rd,yR _,_,Us.k (k:=Sum.inr Z.1.1) (s5 _ _ G2)<|Yt<|by omega,?_⟩;have J1:=N.put bb.ne nx e4 R3 s5 hl N2 rfl;rw[<-take_snoc hc]at J1;exact⟨J4.rd _,_,_,n'+Vs c Z.1.2.1,_,_,_,_,_,_,J1,by omega,Y⟩
 .rintro U t ⟨bbi,M,v,n',z3,z4,z5,z6,z7,z8,bti,n40,rfl⟩
  rw[Ze (by omega)]at bti;exact q t M v bbi bti
end
end K4
namespace L2
open PySem
def BD.mono(k:BD H C M A Z J d G)(e:Same H L):BD L C M A Z J d G:=⟨e _ _ k.ins,k.so.mono e,e _ _ k.td,k.ke,k.va.mono e,k.nd⟩
def Dp(n:b≠x)(h:H b=some o):WZ H x b=some o:=by unfold WZ;rw[Zo n];exact h
def KI.out(k:KI H T t M d)(O:H x=some (.ins C R [])):KI (WZ H x) T t M d:=by
 obtain⟨A,S,rfl,J,N⟩:=k;have Z:∀{b:Addr}{o:HO},H b=some o->o≠.ins C R []->WZ H x b=some o:=λ{b o} h n=>Dp (JQ h O n) h;have L:TL H (WZ H x):=⟨λb G h=>Z h (by intro z;cases z),λb G h=>Z h (by intro z;cases z)⟩;refine⟨A,S,Y,⟨Z J.ins λz=>?_,Z J.sh (λz=>by cases z),Z J.wo (λz=>by cases z),Z J.he (λz=>by cases z),Z J.pd (λz=>by cases z),Z J.tk (λz=>by cases z),Z J.pk (λz=>by cases z),J.nd⟩,N.tl L⟩;injection z with _ _ z;unfold Gq at z;cases z
end L2
namespace K4
open PySem L2
section
variable{f g C CK N fI:Addr}
def J8:Yn ["self","number","name","parameters","kind","body","found","place"] ["self"] (Yc Mx):=Y7
def yS(A:BA):(Xp A).lookup ("names":Str)=none:=rfl
def PJ:Yn ["self","kinds","definitions"] ["self","kinds","definitions"] (Yc Dc):=Y7
def yQ(A:BA):(Xp A).lookup ("take_heads":Str)=none:=rfl
def yU(A:BA):(Xp A).lookup ("check_bodies":Str)=none:=rfl
end
end K4
namespace L2
open PySem
def DW(m:Nat)(d:Dat):Prop:=d.dep<=m/\d.wid<=1000
def DW.up(h:DW m d)(l:m<=n):DW n d:=⟨ZZ h.1 l,h.2⟩
theorem NP:∀{Z:kK},(∀d∈Z,DW m d)->Dat.deps Z<=m/\Dat.wids Z<=1000
 |[],_=>by unfold Dat.deps Dat.wids;exact⟨Za _,Za _⟩
 |d::Z,h=>by
  have q:=NP λe G=>h e<|ZK _ G;have J:=h d ZY;unfold Dat.deps Dat.wids;exact⟨qm.mpr ⟨J.1,q.1⟩,qm.mpr ⟨J.2,q.2⟩⟩
def OS(h:∀d∈Z,DW m d)(l:Z.length<=1000):DW (1+m) (.lst Z):=by
 have q:=NP h;unfold DW Dat.dep Dat.wid;exact⟨by omega,qm.mpr ⟨l,q.2⟩⟩
def UX(h:∀d∈Z,DW m d)(l:Z.length<=1000):DW (1+m) (.tup Z):=by
 have q:=NP h;unfold DW Dat.dep Dat.wid;exact⟨by omega,qm.mpr ⟨l,q.2⟩⟩
def Jf(x:Str):DW 0 (.str x):=by unfold DW Dat.dep Dat.wid;exact⟨ZF _,Za _⟩
def NO(G:DW m d)(J:DW m e):DW (1+m) (.tup [d,e]):=UX (λx Z=>by
 rcases Zb.mp Z with rfl|Z
 .exact G
 .cases ZO.mp Z
  exact J)<|by simp
theorem FN:∀{J:List Bd}{Z:kq}{d:Dat},d∈Bd.brs J Z->∃b∈J,∃t,d=.tup [.str t,b.dat]
 |[],Z,d,h=>by cases Z <;> (unfold Bd.brs at h;cases h)
 |b::J,[],d,h=>by unfold Bd.brs at h;cases h
 |b::J,t::Z,d,h=>by
  unfold Bd.brs at h;rcases Zb.mp h with e|e
  .exact ⟨b,ZY,t,e⟩
  .obtain ⟨b',m,t',e'⟩:=FN e
   exact⟨b',ZK _ m,t',e'⟩
theorem Oe:∀(J:List Bd)(Z:kq),(Bd.brs J Z).length<=J.length
 |[],Z=>by cases Z <;> (unfold Bd.brs;exact ZF _)
 |b::J,[]=>by unfold Bd.brs;exact Za _
 |b::J,t::Z=>by unfold Bd.brs;exact Nat.succ_le_succ<|Oe J Z
set_option tactic.hygienic true in
def FF{b:Bd}(N:b.ok)(L:∀c∈b.parts,DW m c.dat):DW (3+m) b.dat:=by
 have T:=Bd.few N;have w:∀x,DW (2+m) (.str x):=λx=>(Jf x).up<|Za _;have R:∀{G:kK},G.length<=5->(∀d∈G,DW (2+m) d)->DW (3+m) (.tup G):=λ{G} l h=>(UX h<|by omega).up (by omega);have J:∀c∈b.parts,DW (2+m) c.dat:=λc O=>(L c O).up<|Nat.le_add_left _ _;cases b <;> unfold Bd.dat <;> refine R (by simp) λd Z=>?_ <;> simp only[Zb,vP,or_false]at Z
 case tag=>rcases Z with rfl|rfl <;> exact w _
 case name=>rcases Z with rfl|rfl <;> exact w _
 case one e=>rcases Z with rfl|rfl <;> first|exact w _|exact J _<|by simp[Bd.parts]
 case other e=>rcases Z with rfl|rfl <;> first|exact w _|exact J _<|by simp[Bd.parts]
 case pair e g=>
  rcases Z with rfl|rfl|rfl
  .exact w _
  .exact J e (by simp[Bd.parts])
  .exact J g (by simp[Bd.parts])
 case choose e ts bs=>
  rcases Z with rfl|rfl|rfl
  .exact w _
  .exact J e (by simp[Bd.parts])
  .refine (UX (m:=1+m) (λd Z=>?_) ?_).up (by omega)
   .obtain ⟨b,M,t,rfl⟩:=FN Z
    exact NO ((Jf _).up<|Za _)<|L b<|by simp[Bd.parts,M]
   .have:=Oe bs ts
    have:bs.length<=(Bd.choose e ts bs).parts.length:=by simp[Bd.parts]
    omega
 case ask f as=>
  rcases Z with rfl|rfl|rfl
  .exact w _
  .exact w _
  .refine (UX (m:=m) (λd Z=>?_) ?_).up (by omega)
   .rw [Z7]at Z
    obtain⟨b,M,rfl⟩:=ZU.mp Z;exact L b<|by simp[Bd.parts,M]
   .rw [Z7,ZA]
    have:as.length<=(Bd.ask f as).parts.length:=by simp[Bd.parts]
    omega
 case letb x z e g=>
  rcases Z with rfl|rfl|rfl|rfl|rfl
  .exact w _
  .exact w _
  .exact w _
  .exact J e (by simp[Bd.parts])
  .exact J g (by simp[Bd.parts])
def Bd.dw(n:Nat):∀b:Bd,b.dep<=n->b.ok->DW (3*n+3) b.dat:=by
 induction n with
 |zero=>exact λb h Z=>(FF (m:=0) Z λc J=>by have:=Bd.dep_mem J;omega).up<|by omega
 |succ n ih=>exact λb h Z=>(FF Z λc J=>ih c (by have:=Bd.dep_mem J;omega)<|Bd.ok_parts Z c J).up<|by omega
end L2
namespace L2
open PySem PySem.Spec PyProof.Rows
section
variable{X:Cx}{CX:CXT}{k:Nat}{f C:Addr}{fd:FuncData}{ps:kq}{sp:Sp}{dvs:kF}{ds:kj}{E:St->XK}{x:Str}{p pos:Pos}{e:Expr}{es:kP}{t:TA}
def KS(C:Addr)(sp:Sp)(dvs:kF)(E:St->XK)(t:TA):TE:=λU H Q=>t U H λG J=>∀x Z,J x=none->J Z=none->Z≠x->sp (.ref x::(G++ dvs)) (upd (upd J Z<|.own x) x<|.ins C Z []) (λv L=>v=.non/\Q (.ref x) L) (E U)
def Fm{Z:kb}{U:St}{H:Hp}{s:Shared}{Q:VK}{G:kj}{N:kF}(M:Mk X.K C f)(F:Yh X.prog X.w X.K X.mg X.base CX k f fd ps sp)(S:Vj (k+1) X.A)(y:Binds X.K fd ps ds)(j:Vals dvs ds)(A:∀U,X6 CX X U<|E U)(I:Inv X Z U H s)(r:Vals N G)(h:∀x L,H x=none->H L=none->L≠x->sp (.ref x::(N++ dvs)) (upd (upd H L<|.own x) x<|.ins C L []) (λv d=>v=.non/\Q (.ref x) d) (E U)):
  wpAny (model X.prog X.w) X.A (call (.ref C) G) (EP X Z U Q) X.xe s:=by
 have R:=h (s.heap.objs.size+1) s.heap.objs.size (I.hok.fresh<|jr _) (I.hok.fresh<|ZF _)<|Zc<|vZ _;have J:=Inv.made (C:=C) I;have O:Vals (V.ref (s.heap.objs.size+1)::(N++ dvs)) (Value.ref (s.heap.objs.size+1)::(G++ ds)):=.cons rfl (r.append j)
 have P:(Value.ref (s.heap.objs.size+1)::G++ ds).length=ps.length:=by
  have q:=O.length;rw[F.len _ _ _ _ R]at q;exact q.symm
 refine wpAny_call<|BG (f:=f) I.kIn M.makes M.init (beq_iff_eq.mp M.fn)<|jb (F.run _ X.stack _ _ ⟨Value.ref (s.heap.objs.size+1)::G,[]⟩ (Value.ref (s.heap.objs.size+1)::(G++ ds)) _ _ (E U) (S.make C G []) (J.env0.make C G []) (y _ (Value.ref (s.heap.objs.size+1)::G) J.kIn P) O R) λr T z=>?_
 cases r with
 |error e=>exact A U Z _ _ e T J z
 |ok m=>
  cases m with
  |ret u=>
   obtain⟨v,w,c,B,g,D⟩:=J.after z;subst g;exact⟨B,⟨V.ref<|s.heap.objs.size+1,w,c,rfl,D⟩⟩
  |next=>exact False.elim z
  |brk=>exact False.elim z
  |cont=>exact False.elim z
def LP(M:Mk X.K C f)(F:Yh X.prog X.w X.K X.mg X.base CX k f fd ps sp)(O:Vj (k+1) X.A)(T:Gl X x)(R:X.mg x=some (.ref C))(A:Binds X.K fd ps ds)(D:Vals dvs ds)(N:∀U,X6 CX X U<|E U)(S:PA X (e::es) t)(G:(x==("__debug__":Str))=false:=by decide)(B:starEach (e::es) X.env=(false,eval e X.env)::starEach es X.env:=by rfl)(J:(backTo pos<|starEach es X.env).any (·.1)=false:=by rfl):
  PE X (.Call (.Name x p) (e::es) [] pos) (KS C sp dvs E t):=by
 intro Z s U H Q I h;refine vI<|Uk I T R ?_ G;refine jq (h₀:=X.base) I.ok.mod.kin M.kp (thn (S pos Z s U H _ I h) λj y ⟨P,z,L,r,q⟩=>⟨L.kIn,?_⟩) B J;exact Fm M F O A D N L r q
end
def RF(K:W.Frag)(h:X.K=K)(Z:PE X e ta)(J:attributeBase e f X.env (eval e X.env)=eval e X.env):PE X (.Attribute e f pos) (Qe K ta f):=h ▸ PZ Z J
def Jd(J:Gl X x)(Z:X.mg x=some (.ref C))(G:(x==("__debug__":Str))=false:=by decide):PE X (.Name x pos) (tC<|.ref C):=JE (v:=.ref C) J Z rfl G
end L2
namespace K4
open PySem L2
end K4
namespace L2
open PySem
end L2
namespace K4
open PySem L2
end K4
namespace L2
open PySem
end L2
namespace K4
open PySem L2
end K4
namespace L2
open PySem
theorem Bd.pls_app:∀(Z ys:List Bd)(k:Nat),Bd.pls k (Z++ ys)=Bd.pls k Z++ Bd.pls (k+Z.length) ys
 |[],ys,k=>by simp[Bd.pls]
 |x::Z,ys,k=>by
  rw[jS];rw[Bd.pls,Bd.pls,Bd.pls_app Z ys<|k+1,jf,Zd,show k+1+Z.length=k+(Z.length+1) by omega]
def Bd.pls_snoc{Z:List Bd}{i:Nat}{c:Bd}(h:Z[i]?=some c):Bd.pls 0 (Z.take<|i+1)=Bd.pls 0 (Z.take i)++ c.places.map λw=>((i:Nat):Int)::w:=by
 have J:=(ZE.mp h).1;rw[show Z.take (i+1)=Z.take i++[c]from take_snoc h,Bd.pls_app];rw[ZL,Nat.zero_add,vh (Zf J)];simp[Bd.pls]
def Bd.pls_le(Z:List Bd)(i:Nat):(Bd.pls 0<|Z.take i).length<=(Bd.pls 0 Z).length:=by
 have e:Z=Z.take i++ Z.drop i:=(vA i Z).symm
 have J:Bd.pls 0 Z=Bd.pls 0 (Z.take i)++ Bd.pls (0+(Z.take i).length) (Z.drop i):=by
  conv=>lhs;rw[e]
  exact Bd.pls_app _ _ _
 rw[J,ZJ];omega
def Bd.part_le{b c:Bd}{i:Nat}(h:b.parts[i]?=some c):1+(Bd.pls 0<|b.parts.take i).length+c.places.length<=b.places.length:=by
 have e:=congrArg List.length<|Bd.pls_snoc h;rw[ZJ,ZA]at e;have l:=Bd.pls_le b.parts<|i+1;rw[Bd.places_eq b,Zd];omega
theorem Bd.pls_mem:∀{Z:List Bd}{k:Nat}{w:kz},w∈Bd.pls k Z->∃c∈Z,∃(m:Nat)(r:kz),r∈c.places/\w=((m:Nat):Int)::r
 |[],_,_,h=>by unfold Bd.pls at h;cases h
 |b::Z,k,w,h=>by
  unfold Bd.pls at h;rcases ZV.mp h with h|h
  .obtain ⟨r,hr,e⟩:=ZU.mp h
   exact⟨b,ZY,k,r,hr,e.symm⟩
  .obtain ⟨c,hc,m,r,h1,h2⟩:=Bd.pls_mem h
   exact⟨c,ZK _ hc,m,r,h1,h2⟩
theorem Bd.way_len:∀(n:Nat)(b:Bd),b.dep<=n->∀w∈b.places,w.length<=n
 |n,b,h,w,Z=>by
  rw[Bd.places_eq]at Z;rcases Zb.mp Z with e|Z
  .rw [e];exact Za _
  .obtain ⟨c,hc,m,r,h1,rfl⟩:=Bd.pls_mem Z
   have:=Bd.dep_mem hc
   cases n with
   |zero=>omega
   |succ n=>
    have:=Bd.way_len n c (by omega) r h1;simp;omega
theorem Bd.pls_len:∀{Z:List Bd}{k:Nat},(∀c∈Z,c.places.length=c.size)->(Bd.pls k Z).length=Bd.sizes Z
 |[],k,_=>by simp[Bd.pls,Bd.sizes]
 |b::Z,k,h=>by
  rw[Bd.pls,ZJ,ZA,h b ZY,Bd.pls_len (k:=k+1) λc J=>h c (ZK _ J)];simp[Bd.sizes]
theorem Bd.places_len:∀(n:Nat)(b:Bd),b.dep<=n->b.places.length=b.size
 |n,b,h=>by
  rw[Bd.places_eq,Bd.size_eq,Zd]
  have:(Bd.pls 0 b.parts).length=Bd.sizes b.parts:=Bd.pls_len λc Z=>by
   have:=Bd.dep_mem Z
   cases n with
   |zero=>omega
   |succ n=>exact Bd.places_len n c<|by omega
  omega
theorem Bd.pls_at:∀{Z:List Bd}{k:Nat}{w:kz},w∈Bd.pls k Z->∃(m:Nat)(c:Bd)(r:kz),Z[m]?=some c/\r∈c.places/\w=((k+m:Nat):Int)::r
 |[],_,_,h=>by unfold Bd.pls at h;cases h
 |b::Z,k,w,h=>by
  rw[Bd.pls]at h;rcases ZV.mp h with h|h
  .obtain ⟨r,hr,e⟩:=ZU.mp h
   exact⟨0,b,r,Y,hr,e.symm⟩
  .obtain ⟨m,c,r,h1,h2,h3⟩:=Bd.pls_at h
   exact⟨m+1,c,r,h1,h2,by rw[h3];congr 2;omega⟩
theorem Bd.at_places:∀(n:Nat)(b:Bd),b.dep<=n->∀w∈b.places,∃c,b.at w=some c
 |n,b,h,w,Z=>by
  rw[Bd.places_eq]at Z;rcases Zb.mp Z with e|Z
  .rw [e];exact⟨b,by unfold Bd.at;rfl⟩
  .obtain ⟨m,c,r,h1,h2,rfl⟩:=Bd.pls_at Z
   have:=Bd.dep_mem<|ZH h1
   cases n with
   |zero=>omega
   |succ n=>
    obtain⟨d,J⟩:=Bd.at_places n c (by omega) r h2;exists d;unfold Bd.at;rw[Zn (by omega),show(((0+m:Nat):Int)).toNat=m by omega,h1];exact J
end L2
namespace K4
open PySem L2
section
def QX{Q:VK}{i:Int}{w:kz}(N:H pw=some (.tup<|w.map V.int))(l:w.length<=20)(q:∀t L,Same H L->L t=some (.tup<|(i::w).map V.int)->Q (.ref t) L):
  ∀Z,H Z=none->WX K (.ref Z) (.ref pw) (upd H Z<|.tup [.int i]) Q:=λZ G=>by
 have J:=Ye G<|.tup [.int i];have M:upd H Z (.tup [.int i]) Z=some (.tup [.int i]):=Ya;refine⟨Z,pw,_,_,Y,Y,Z0 M,Z0<|J _ _ N,by simp,Zf (Yt (by simp;omega)),λe=>?_,λR p O=>?_⟩
 .have e':w=[]:=by cases w with|nil=>rfl|cons _ _=>cases e
  subst e';exact q Z _ J M
 .exact q p _ (J.trans<|Ye O _) Ya
end
end K4
namespace L2
open PySem PySem.Spec PyProof.Rows
end L2
namespace L2
open PySem
def QE{K:W.Frag}(X:K.In h)(L:K.lookup a=some ⟨.type "dict",none,.dict Z n,#[]⟩)(M:W.KeysLit w.params Z.toList):h.MapOf (VT P w) a λk=>findBy Ju Z k:=by
 have keys:KeysOf (VT P w) Z:=λd N=>by
  have⟨x,t,J,G⟩:=W.KeysLit.all M d (by simpa using N);refine⟨Sum.inr x,?_,G⟩;show Ju (Sum.inr x) d.key=true;rw[J,R9]
 exact⟨_,Z,n,X a _ L,⟨Y,Y,Y⟩,Y,keys,λk=>Y⟩
def Xi(Z:K.lookup a=some ⟨.type "dict",none,.dict J n,#[]⟩)(e:W.nsIn K a x=some (some v)):findBy Ju J (Sum.inr x)=some v:=by
 have q:=W.find_K Z e;exact q
end L2
namespace K4
open PySem L2
section
variable{f g C CK:Addr}
abbrev wps:kq:=["book","around","body"]
def RA(P:Program)(w:World)(K:W.Frag)(mg:Str->Option Value)(base:Heap)(C CK:Addr)(mR:Key->Option Value)(x:Str)(p:Bd->Prop):Prop:=∃g Z,mR (Sum.inr x)=some (.ref g)/\Yh P w K mg base CX0 3 g Z rps (WO C CK p)/\W.keepIn K (.ref g)=true/\Binds K Z rps []
def RA.at(r:RA P w K J base C CK G x p)(L:Nat)(e:b.word=x)(h:p b):∃(g:Addr)(Z:FuncData)(p:Bd->Prop),G (Sum.inr b.word)=some (.ref g)/\Yh P w K J base CX0 (L+3) g Z rps (WO C CK p)/\p b/\W.keepIn K (.ref g)=true/\Binds K Z rps []:=by
 obtain⟨g,Z,R,O,N,M⟩:=r;exact⟨g,Z,p,by rw[e];exact R,O.mono<|by omega,h,N,M⟩
theorem LE(L:Nat)(S:RA P w K Z base C CK J "tag" λb=>∃t,b=.tag t)(I:RA P w K Z base C CK J "name" λb=>∃x,b=.name x)(A:RA P w K Z base C CK J "pair" λb=>∃e g,b=.pair e g)(F:RA P w K Z base C CK J "one" λb=>∃e,b=.one e)(E:RA P w K Z base C CK J "other" λb=>∃e,b=.other e)(D:RA P w K Z base C CK J "choose" λb=>∃e M G,b=.choose e M G/\1<=G.length)(B:RA P w K Z base C CK J "ask" λb=>∃N O,b=.ask N O)(T:RA P w K Z base C CK J "let" λb=>∃x k e g,b=.letb x k e g):
  ∀b:Bd,(∀e M G,b=.choose e M G->1<=G.length)->∃(g:Addr)(R:FuncData)(p:Bd->Prop),J (Sum.inr b.word)=some (.ref g)/\Yh P w K Z base CX0 (L+3) g R rps (WO C CK p)/\p b/\W.keepIn K (.ref g)=true/\Binds K R rps []
 |.tag t,_=>S.at L rfl ⟨t,rfl⟩
 |.name x,_=>I.at L rfl ⟨x,rfl⟩
 |.pair e g,_=>A.at L rfl ⟨e,g,rfl⟩
 |.one e,_=>F.at L rfl ⟨e,rfl⟩
 |.other e,_=>E.at L rfl ⟨e,rfl⟩
 |.choose e M G,h=>D.at L rfl ⟨e,M,G,rfl,h e M G rfl⟩
 |.ask N O,_=>B.at L rfl ⟨N,O,rfl⟩
 |.letb x k e g,_=>T.at L rfl ⟨x,k,e,g,rfl⟩
theorem Q0(B:Blt Z)(J:Z "enumerate"=none)(y:BCl K C)(j:KCl K CK)(F:Fun K "kind_or_place" "kind_or_place" sKP f A)(S:Binds K A wps [])(M:Z "kind_or_place"=some (.ref f))(O:Vk K C "kinds" u)(q:Yh P w K Z base CX0 3 u r ["self"] (JH C CK))(X:Binds K r ["self"] [])(N:Vk K CK "names" d)(z:Yh P w K Z base CX0 3 d v ["self"] (XC CK))(U:Binds K v ["self"] [])(t:Df P w K Z base 3 "parts" ["body"] XB)(G:Z "RULES"=some (.ref l))(T:base.MapOf (VT P w) l k)(R:∀(L:Nat)(b:Bd),(∀e m I,b=.choose e m I->1<=I.length)->∃(g:Addr)(D:FuncData)(p:Bd->Prop),k (Sum.inr b.word)=some (.ref g)/\Yh P w K Z base CX0 (L+3) g D rps (WO C CK p)/\p b/\W.keepIn K (.ref g)=true/\Binds K D rps []):
  ∀n,Yh P w K Z base CX0 (n+3) f A wps<|Tf C CK n
 |0=>.none λo H Q E h=>by
  obtain⟨_,_,_,_,_,_,_,_,_,_,_,_,_,_,_,_,_,_,_,c,_⟩:=h;exact Zu _ c
 |n+1=>(Cm (L:=n) B J y j F (Q0 B J y j F S M O q X N z U t G T R n) S M O (q.mono<|by omega) X N (z.mono<|by omega) U (t.up<|by omega) G T<|R n).mono<|by omega
end
end K4
namespace L2
open PySem
structure Pen(K:W.Frag)(sa:Addr)(H:Hp)(p:Addr):Prop where
 ex:∃(ns:List Int)(k x:Nat),SqL K H sa (ns.map V.int)/\H p=some (.lst [.ref sa,.int (k:Nat),.int (x:Nat)])/\sa≠p
def SqL.sb{K:W.Frag}(h:SqL K H a Z)(s:SameB p H J)(n:a≠p):SqL K J a Z:=
 h.imp (λh=>h.imp (λh=>s _ _ n h) λ⟨o,h⟩=>⟨o,s _ _ n h⟩) id
def Fun.oi{K:W.Frag}{L:Stmt}(F:Fun K x qual L f D)(S:Yn N T (Yc L))(J:∀(M:Value)(A:Around)(Z:List Env)(s:Shared)(H:Hp)(G:kF)(Q:VK)(E:XK),Vj k (A.deeper<|PyProof.Rows.envOfC qual (Yc L) s.heap.objs.size f M)->R G H Q E->
   ∃t,PSs (Vi CX0 P w K B base N qual (Yc L) f M A Z s H E).nox (Ja L) t/\t {nx:=λ_ I=>Q .non I,rt:=Q} (start N G) H)(O:∀G H Q E,R G H Q E->G.length=T.length:=by intro G H Q E h;cases h;rfl):Yh P w K B base CX0 (k+1) f D T R:=F.ok S O J
def Pen.same(h:Pen K sa H p)(s:Same H M):Pen K sa M p:=let⟨Z,k,x,L,G,J⟩:=h.ex;⟨Z,k,x,s.seq L,s _ _ G,J⟩
def Pen.put(h:Pen K sa H p)(s:SameB p H J)(N:Pen K sa J p)(e:H a=none)(n:a≠p):Pen K sa (upd J a o) p:=by
 obtain⟨G,_,_,M,_,Z⟩:=h.ex;obtain⟨_,k,x,_,L,_⟩:=N.ex;exact⟨G,k,x,M.sb (s.put e) Z,by rw[Yd (Zq n)];exact L,Z⟩
def Pen.ne(h:Pen K sa H p)(e:H r=none):r≠p:=λz=>by
 obtain⟨J,k,x,L,Z,G⟩:=h.ex;rw[<-z,e]at Z;cases Z
def Pen.tup(h:Pen K sa H p)(e:H r=some (.tup J)):r≠p:=λz=>by
 obtain⟨G,k,x,M,Z,L⟩:=h.ex;rw[<-z,e]at Z;cases Z
def Pen.tk(h:Pen K sa H p)(s:SameB p H Z):TK H Z:=λb J e=>s b _ (h.tup e) e
mutual
def Dat.ni:Dat->Bool
 |.int _=>false
 |.tup ds=>Dat.nis ds
 |.lst ds=>Dat.nis ds
 |_=>true
def Dat.nis:List Dat->Bool
 |[]=>true
 |d::ds=>d.ni && Dat.nis ds
end
theorem Ey:∀{Z:kK},(∀d∈Z,d.ni=true)->Dat.nis Z=true
 |[],_=>by unfold Dat.nis;rfl
 |d::Z,h=>by unfold Dat.nis;rw[h d ZY,Ey λe J=>h e (ZK _ J)];rfl
def P8{α:Type}{f:α->Dat}(h:∀a,(f a).ni=true)(l:List α):Dat.nis (l.map f)=true:=Ey λd Z=>by
 obtain⟨a,_,rfl⟩:=ZU.mp Z;exact h a
mutual
theorem Dat.ni_of:∀{d:Dat},d.st=true->d.ni=true
 |.str _,_=>by unfold Dat.ni;rfl
 |.tup ds,t=>by
  unfold Dat.st at t;unfold Dat.ni;exact Dat.nis_of t
 |.non,_=>by unfold Dat.ni;rfl
 |.bl _,_=>by unfold Dat.ni;rfl
 |.int _,t=>by unfold Dat.st at t;cases t
 |.lst _,t=>by unfold Dat.st at t;cases t
theorem Dat.nis_of:∀{Z:kK},Dat.sts Z=true->Dat.nis Z=true
 |[],_=>by unfold Dat.nis;rfl
 |d::Z,t=>by
  unfold Dat.sts at t;have J:=ju.mp t;unfold Dat.nis;rw[Dat.ni_of J.1,Dat.nis_of J.2];rfl
end
mutual
theorem VV{K:W.Frag}{H R:Hp}(s:SameB p H R)(J:Pen K sa H p):∀(d:Dat){v:V},d.ni=true->Has H v d->Has R v d
 |.non,_,_,h=>by unfold Has at h |-;exact h
 |.bl _,_,_,h=>by unfold Has at h |-;exact h
 |.int _,_,t,_=>by unfold Dat.ni at t;cases t
 |.str _,_,_,h=>by unfold Has at h |-;exact h
 |.tup ds,_,t,h=>by
  unfold Has at h |-;obtain⟨a,L,M,Z,G⟩:=h;unfold Dat.ni at t;exact⟨a,L,M,s _ _ (J.tup Z) Z,Vo s J ds t G⟩
 |.lst ds,_,t,h=>by
  unfold Has at h |-;obtain⟨a,L,M,Z,G⟩:=h;unfold Dat.ni at t;refine⟨a,L,M,s _ _ (λz=>?_) Z,Vo s J ds t G⟩;obtain⟨D,k,x,_,e,_⟩:=J.ex;rw[z,e]at Z;cases Z;obtain⟨B,N,T⟩:=G.get (i:=1) rfl;have:B=.int (k:Nat):=Has.inj _ _ T (by unfold Has;rfl);subst this
  match ds,N,t with
  |_::_::_,N,t=>
   cases N;unfold Dat.nis at t;rw[ZX]at t;have O:=t.2;unfold Dat.nis Dat.ni at O;cases O
theorem Vo{K:W.Frag}{H M:Hp}(s:SameB p H M)(L:Pen K sa H p):∀(Z:kK){J:kF},Dat.nis Z=true->HasL H J Z->HasL M J Z
 |[],[],_,h=>Z4
 |[],_::_,_,h=>by unfold HasL at h;exact h.elim
 |_::_,[],_,h=>by unfold HasL at h;exact h.elim
 |d::Z,x::J,t,h=>by
  unfold HasL at h;unfold Dat.nis at t;have G:=ju.mp t;exact Z2 (VV s L d G.1 h.1)<|Vo s L Z G.2 h.2
end
def Pen.lst(M:Pen K sa H p)(h:H a=some (.lst L))(g:HasL H L G)(t:Dat.nis G=true):a≠p:=λz=>by
 obtain⟨R,k,x,_,e,_⟩:=M.ex;rw[z,e]at h;cases h;obtain⟨O,Z,N⟩:=g.get (i:=1) rfl;have:O=.int (k:Nat):=Has.inj _ _ N (by unfold Has;rfl);subst this
 match G,Z,t with
 |_::_::_,Z,t=>
  cases Z;unfold Dat.nis at t;rw[ZX]at t;have J:=t.2;unfold Dat.nis Dat.ni at J;cases J
end L2
namespace K4
open PySem L2
section
def B3:Yn ["_law_cell","_law_at","_law_x"] ["_law_cell","_law_at"] (Yc Lx):=Y7
inductive Q7(H:Hp)(Q:VK):List V->Prop
 |mk (c:Int) (k:Nat) (q:∀r:Nat,Q (.int (r:Nat)) H):Q7 H Q [.int c,.int (k:Nat)]
def Bv:Sp:=λZ H Q _=>Q7 H Q Z
def P3(F:Fun K "_law_fill" "_law_fill" Lx f G):Yh P w K I base CX0 (n+1) f G ["_law_cell","_law_at"] Bv:=by
 refine F.oi B3 λM A Z s H D Q E C h=>?_;obtain⟨c,k,q⟩:=h
 have J:∀r:Int,0<=r->Q (.int r) H:=λr h=>by
  have:=q r.toNat
  rwa [Int.toNat_of_nonneg h]at this
 refine⟨_,YW (Y4 (Yq Qo (pv 0) (Y1 AC YX YX)<|Yy _) (YZ<|Yo<|pv 0) Ys)
  (YW (Yk 2 B3.nd<|Y1 Xh (Y1 Vr (Y1 Vr (Y1 JV (Y1 Xh (pv 0) YX) YX)<|Y1 JV (pv 1) YX) YX) YX)
  (YW (Yk 2 B3.nd<|Y1 Xh (Y1 Vr (Y1 Vr (Y1 JV (pv 2)<|pv 2)<|Y1 JV YX<|pv 2)<|pv 1) YX)
  (YZ<|Yo<|Y1 Vr (Y1 JV (pv 2) YX)<|Y1 Xh (Y1 Vr (Y1 JV (pv 2)<|pv 2)<|Y1 JV YX<|pv 1) YX))),?_⟩
 show let a:=_;let b:=Yg _ a;let c:=Yg _ b;let d:=_;Yg (VJ _ d _) c _ _ _
 intros
 have L:zX 10 18:=⟨by decide,by decide,by decide⟩;exists L,_,Y;refine UJ (λN=>J c<|Int.le_trans (by decide)<|Zr N) λ_=>?_;have U:=jA c (show(2147483647:Int)≠0 by decide);have S:=qr c (show(0:Int)<2147483647 by decide);refine⟨(by show(0:Int)<_;decide),.inl ⟨by omega,by omega⟩,.inr ⟨by decide,by decide⟩,(by show(0:Int)<_;decide),?_⟩;generalize hx:(c % 2147483647*48271+(k:Int)*69621+11) % 2147483629=x;have B:0<=x:=by rw[<-hx];exact jA _<|by decide
 have T:x<2147483629:=by rw[<-hx];exact qr _<|by decide
 refine⟨.inl ⟨by omega,by omega⟩,.inl ⟨by decide,by decide⟩,(by show(0:Int)<_;decide),?_⟩;generalize hy:(x*x+48271*x+(k:Int)) % 2147483587=y;have R:0<=y:=by rw[<-hy];exact jA _<|by decide
 have O:y<2147483587:=by rw[<-hy];exact qr _<|by decide
 refine⟨.inl ⟨by omega,by omega⟩,.inl ⟨by omega,by omega⟩,.inl ⟨by decide,by decide⟩,(by show(0:Int)<_;decide),?_⟩;exact J _<|Int.add_nonneg (Int.mul_nonneg (jA _<|by decide)<|by decide)<|jA _<|by decide
def Wv:Yn ["_law_pen","_law_many","_law_at","_law_cell","_law_found"] ["_law_pen","_law_many"] (Yc Lu):=Y7
abbrev pnm:kq:=["_law_pen","_law_many"]
inductive Om(K:W.Frag)(H:Hp)(Q:VK):List V->Prop
 |mk (p sa:Addr) (many:Nat) (pn:Pen K sa H p) (m0:0<many) (m1:many<1000) (q:∀(r:Nat)(H':Hp),r<many->But p H H'->Pen K sa H' p->Q (.int (r:Nat)) H'):Om K H Q [.ref p,.int (many:Nat)]
def Jx(K:W.Frag):Sp:=λZ H Q _=>Om K H Q Z
def Pu(B:Blt X)(F:Fun K "_law_next" "_law_next" Lu f o)(DF:Df P w K X base n "_law_fill" ["_law_cell","_law_at"] Bv):Yh P w K X base CX0 (n+1) f o pnm (Jx K):=by
 refine F.oi Wv λZ8 A D s H vs Q E l h=>?_;obtain⟨p,L,many,t,m,m1,q⟩:=h;refine⟨_,YW (Y4 (Yq RJ (Ym Y3 (pv 0) YX) (pv 1)<|Yy _)
   (YW (Yk 2 Wv.nd<|Ym Y3 (pv 0) YX)
   (YW (Yk 3 Wv.nd YX)
   (YW (Y4 (Yq RJ (pv 2) (Yr Yl rfl B.len Zs (pa1<|Ym Y3 (pv 0) YX))<|Yy _)
    (YZ<|Yk 3 Wv.nd<|Ym Y3 (Ym Y3 (pv 0) YX)<|pv 2)
    (YZ (Y4 (Yq Uz (Yr Yl rfl B.len Zs (pa1<|Ym Y3 (pv 0) YX)) YX<|Yy _)
     (YZ<|Yk 3 Wv.nd<|Y1 Vr (Y1 Xh (Ym Y3 (Ym Y3 (pv 0) YX)<|Y1 Xh (Y1 JV (pv 2) YX)<|Yr Yl rfl B.len Zs (pa1<|Ym Y3 (pv 0) YX)) YX)<|Y1 JV (pv 2) YX) Ys)))
   (YW (V5 (Y1 Vr (pv 2) YX)<|XI (pv 0) YX set_list)
   (YZ<|V5 (Yx DF l<|pa2 (pv 3)<|pv 2)<|XI (pv 0) YX set_list))))) Ys)
  (YW (Yk 4 Wv.nd<|Y1 Xh (Ym Y3 (pv 0) YX)<|pv 1)
  (YW (V5 (Y1 G8 (Ym Y3 (pv 0) YX)<|pv 1)<|XI (pv 0) YX set_list)
  (YZ<|Yo<|pv 4))),?_⟩
 dsimp only[Vi,Cx.nox,Cx.wish];show let a:=_;let b:=Yg _ a;let c:=Yg _ b;let d:=_;let e:=Yg _ d;let f:=_;let g:=_;let h:=VJ _ g _;let i:=Yg (VJ _ f h) e;let j:=Yg _ i;let k:=Yg _ j;Yg (VJ _ k _) c _ _ _
 intros
 obtain⟨Z,k,x,M,J,y⟩:=t.ex;refine Vl (λT G=>But p H G/\∃(k x:Nat)(C U:kJ),G p=some (.lst [.ref L,.int (k:Nat),.int (x:Nat)])/\T=[some (.ref p),some<|.int (many:Nat),C,U,none]) ?_ ?_
 .rintro T G ⟨b',v,O,C,U,hp',rfl⟩
  refine⟨_,_,Z1 hp',Y,(by show(0:Int)<_;omega),?_⟩;exists _,_,Z1 hp',Y,⟨(by show(0:Int)<_;omega),(by show(many:Int)<1073741824;omega)⟩,p,_,2,2,Y,Y,hp',Y;have e:((O:Int) % (many:Int))=((O % many:Nat):Int):=by omega
  have e2:((O:Int) / (many:Int))=((O / many:Nat):Int):=by omega
  dsimp only[List.set];rw[e,e2];have z:=b'.trans<|But.upd (p:=p) (H:=G)<|.lst [.ref L,.int (v:Nat),.int ((O / many:Nat):Int)];exact q _ _ (Nat.mod_lt _ m) z ⟨Z,_,_,M.sb z.sb y,Ya,y⟩
 .intro N key
  exists _,_,Z1 J,Y,_,Y;refine UJ (λ_=>?_) λ_=>key _ _ ⟨But.refl _ _,k,x,_,_,J,Y⟩;exists _,_,Z1 J,Y;dsimp only[Vp];refine X7 ?_;refine Vl (λT G=>G=H/\∃c:Int,T=[some (.ref p),some<|.int (many:Nat),some<|.int (k:Nat),some<|.int c,none]) ?_ ?_
  .rintro T G ⟨rfl,c,rfl⟩
   exists p,_,1,1,Y,Y,J,Y;have I:upd G p (.lst [.ref L,.int<|(k:Int)+1,.int (x:Nat)]) p=some (.lst [.ref L,.int<|(k:Int)+1,.int (x:Nat)]):=Ya;exact⟨c,k,λr=>⟨p,_,2,2,Y,Y,I,Y,key _ _ ⟨(But.upd _).trans<|But.upd _,k+1,r,_,_,Ya,rfl⟩⟩⟩
  .intro N2 key2
   exists _,_,Z1 J,Y,L,_,Y,.inl M,_,Y;refine UJ (λc=>?_) λc=>?_
   .have S:(k:Int)<((Z.map V.int).length:Nat):=Zr c
    rw[ZA]at S;have R:k<Z.length:=by omega
    exact⟨_,_,Z1 J,Y,_,_,M,Yw (by rw[ZG,ZC R];rfl),key2 _ _ ⟨Y,Z[k],Y⟩⟩
   .refine ⟨_,_,Z1 J,rfl,L,_,rfl,.inl M,_,rfl,?_⟩
    refine UJ (λc=>?_) λc=>key2 _ _ ⟨Y,0,Y⟩;have S:(0:Int)<((Z.map V.int).length:Nat):=Zr c;have u:(Z.map V.int).length=Z.length:=ZA _;have R:k*7 % Z.length<Z.length:=Nat.mod_lt _ (by omega);have e:((k:Int)*7 % (((Z.map V.int).length:Nat):Int))=((k*7 % Z.length:Nat):Int):=by rw[u,Int.natCast_emod,ja];rfl
    exists _,_,Z1 J,Y,.inr ⟨by decide,by decide⟩,_,_,Z1 J,Y,L,_,Y,.inl M,S;exact⟨_,.int<|Z[k*7 % Z.length]'(R),M,(by rw[e];exact Yw (by rw[ZG,ZC R];rfl)),(by show(0:Int)<_;decide),.inr ⟨by decide,by decide⟩,key2 _ _ ⟨rfl,(Z[k*7 % Z.length]'(R)) % 1000003+(k:Int)*1000003,rfl⟩⟩
end
end K4
namespace L2
open PySem PySem.Builtin.Str PySem.Builtin
theorem RW(Z:List Nat)(a:Nat):∀n,a+n<=Z.length->((List.range n).map (a + ·)).filterMap ((txt Z).cps[·]?)=(Z.drop a).take n
 |0,_=>by simp
 |n+1,h=>by
  have e:(txt Z).cps[a+n]?=some (Z[a+n]'(by omega)):=by
   show Z.toArray[a+n]?=_;rw[List.getElem?_toArray,ZC (by omega)]
  rw[List.range_succ,ZI,List.filterMap_append,RW Z a n<|by omega,qA,jd,ZC (show a+n<Z.length by omega)];simp[e]
def SR{j n:Nat}(h:j<=n):strSliceIndices none (some (j:Int)) 1 n=(List.range j).map (0 + ·):=by
 unfold strSliceIndices sliceRange;simp only[show(1:Int) > 0 by decide,if_true,show ¬((j:Int)<0) by omega,if_false];have e:(if(0:Int)<max 0 (min (j:Int) (n:Int))then(max 0 (min (j:Int) (n:Int))-0+1-1) / 1 else 0).toNat=j:=by split <;> omega
 rw[e];refine qd λk _=>by omega
def Kc{j n:Nat}(h:j<=n):strSliceIndices (some (j:Int)) none 1 n=(List.range<|n-j).map (j + ·):=by
 unfold strSliceIndices sliceRange;simp only[show(1:Int) > 0 by decide,if_true,show ¬((j:Int)<0) by omega,if_false];have e:(if max 0 (min (j:Int) (n:Int))<(n:Int)then((n:Int)-max 0 (min (j:Int) (n:Int))+1-1) / 1 else 0).toNat=n-j:=by split <;> omega
 rw[e];refine qd λk _=>by omega
def Nw{Z:List Nat}{j:Nat}(h:j<=Z.length):Txt.slice (txt Z) none (some (j:Int))=txt (Z.take j):=by
 unfold Txt.slice;rw[Xs,SR h,RW Z 0 j (by omega)]
 split
 .rename_i e
  have:j=Z.length:=by simpa using e
  rw[this,vj]
 .rfl
def Bx{Z:List Nat}{j:Nat}(h:j<=Z.length):Txt.slice (txt Z) (some (j:Int)) none=txt (Z.drop j):=by
 unfold Txt.slice;rw[Xs,Kc h,RW Z j _ (by omega)]
 split
 .rename_i e
  have:j=0:=by
   have J:Z.length-j=Z.length:=by simpa using e
   omega
  rw[this,j7]
 .rw [Ze (by rw[vN];omega)];rfl
def atW(way r:Nat):Nat:=if way=0 then 0 else if way=1 then r else r / 2
def EM(Z r:Nat):atW Z r<=r:=by unfold atW;split <;> (try split) <;> omega
def wd7(o:Nat)(cs:List Nat)(way t k r:Nat):List Nat:=(cs.take r).take (atW way r)++[o+(t+7*k) % 26]++ (cs.take r).drop (atW way r)
def MT(h:cs.length=7)(Z:r<=7):(wd7 o cs way t k r).length=r+1:=by
 have:=EM way r;unfold wd7;rw[ZJ,ZJ,ZL,vN,ZL,h,yn];omega
def CM(Z:k<l)(h:l<26):(i+7*k) % 26≠(i+7*l) % 26:=λe=>by
 have q:=Nat.sub_mod_eq_zero_of_mod_eq e.symm;have f:∀d:Fin 26,d.val≠0->7*d.val % 26≠0:=by decide
 refine f ⟨l-k,by omega⟩ (by show l-k≠0;omega) ?_;show 7*(l-k) % 26=0;rw[Nat.mul_sub,<-Nat.add_sub_add_left i (7*l) (7*k)];exact q
def SD(h:cs.length=7)(L:r<=7)(Z:r'<=7)(J:k<l)(M:l<26):wd7 o cs way t k r≠wd7 o cs way t l r':=λe=>by
 have q:=congrArg List.length e;rw[MT h L,MT h Z]at q;have N:r=r':=by omega
 subst N
 have G:((cs.take r).take<|atW way r).length=atW way r:=by
  have:=EM way r;rw[ZL,ZL,h];omega
 have g:∀x:Nat,((cs.take r).take (atW way r)++[x]++ (cs.take r).drop (atW way r))[atW way r]?=some x:=λx=>by
  rw[jf,yp<|vY G,G];simp
 have z:=congrArg (λx:List Nat=>x[atW way r]?) e;exact CM (i:=t) J M<|Nat.add_left_cancel<|ZP<|(g _).symm.trans<|z.trans<|g _
def SE(Z:∀c∈cs,o<=c/\c<o+26):∀c∈wd7 o cs way t k r,o<=c/\c<o+26:=by
 intro c h;unfold wd7 at h;simp only[ZV,ZO]at h;rcases h with(h|h)|h
 .exact Z c (Zi<|Zi h)
 .rw [h];omega
 .exact Z c (Zi<|j8 h)
def Nb(o:Nat)(cs:List Nat)(way t:Nat)(rs:List Nat):kq:=(List.range rs.length).map λk=>txt<|wd7 o cs way t k<|rs.getD k 0
def Fb(o:Nat)(G:List Nat)(Z t:Nat)(J:List Nat)(r:Nat):Nb o G Z t (J++[r])=Nb o G Z t J++[txt (wd7 o G Z t J.length r)]:=by
 unfold Nb;rw[ZJ,yn,List.range_succ,ZI]
 congr 1
 .refine qd λk L=>?_
  have:=jF.mp L;rw[yj,yj,yk this]
 .simp
def Ov(h:cs.length=7)(M:∀r∈rs,r<=7)(T:rs.length<=26)(N:∀c∈cs,o<=c/\c<o+26):Wds o (Nb o cs way t rs):=by
 have Z:∀k,rs.getD k 0<=7:=λk=>by
  rw[yj]
  cases e:rs[k]? with
  |none=>exact Za _
  |some r=>exact M r<|ZH e
 refine⟨?_,λy J=>?_,λy J c G=>?_⟩
 .show List.Pairwise _ _
  unfold Nb;rw[vV];refine List.Pairwise.imp_of_mem ?_<|List.pairwise_lt_range (n:=rs.length);intro a b R O L e;exact SD h (Z a) (Z b) L (by have:=jF.mp O;omega)<|Ow e
 .obtain ⟨k,_,rfl⟩:=ZU.mp J
  have:=Z k;rw[Xs,MT h this];omega
 .obtain ⟨k,_,rfl⟩:=ZU.mp J
  exact SE N c<|by simpa[txt]using G
def Qk{Z:List Nat}(h:Z.length=7):∃a b c d e f g,Z=[a,b,c,d,e,f,g]:=by
 match Z,h with
 |[a,b,c,d,e,f,g],_=>exact⟨a,b,c,d,e,f,g,Y⟩
def zC(h:cs.length=7):Txt.join (Str.ofString "") (cs.map one)=txt cs:=by
 obtain⟨a,b,c,d,e,f,g,rfl⟩:=Qk h
 rfl
end L2
namespace L2
open PySem
def R0(o:Nat){r:Nat}(h:r<26):atI (alpha o).cps.toList ((r:Nat):Int)=some (o+r):=by
 have:=Oj o (r:Int) (by omega)<|by omega
 rwa [je]at this
def A5{Z r:Nat}(h:Z<3):atI [V.int 0,.int (r:Nat),.int ((r / 2:Nat):Int)] ((Z:Nat):Int)=some (.int (atW Z r:Nat)):=by
 match Z,h with
 |0,_|1,_|2,_=>rfl
end L2
namespace K4
open PySem L2
section
def WT:Yn ["_law_pen","_law_many","_law_letters","_law_k","_law_base","_law_turn","_law_way","_law_found","_law_part","_law_at","_law_sign"] ["_law_pen","_law_many","_law_letters"] (Yc D1):=Y7
def AV:List.Nodup [("_law_k":Str),"_law_letters","_law_pen"]:=by decide +kernel
def WQ(K:W.Frag)(sa:Addr)(o:Nat)(p:Addr)(many:Nat)(H:Hp)(Q:VK):Prop:=∀(r:Addr)(J:kq)(Z:Hp),SameB p H Z->Pen K sa Z p->H r=none->Z r=some (.lst<|J.map V.str)->J.length=many->Wds o J->Q (.ref r) Z
inductive Qb(K:W.Frag)(H:Hp)(Q:VK):List V->Prop
 |mk (p sa:Addr) (many o:Nat) (pn:Pen K sa H p) (m26:many<=26) (q:WQ K sa o p many H Q):Qb K H Q [.ref p,.int (many:Nat),.str (alpha o)]
def Nu(K:W.Frag):Sp:=λZ H Q _=>Qb K H Q Z
def AL(B:Blt mg)(F:Fun K "_law_spelt" "_law_spelt" D1 f fd)(DN:Df P w K mg base n "_law_next" pnm (Jx K)):Yh P w K mg base CX0 (n+1) f fd ["_law_pen","_law_many","_law_letters"] (Nu K):=by
 refine F.oi WT λJ2 A Z9 s H T Q E hr h=>?_;obtain⟨p,j,many,o,pn,J1,q⟩:=h;refine⟨_,YW (Yk 4 WT.nd (Ui PySem.F.plainAttrs_str PySem.F.slot_str_join PySem.F.type_str_join QC VA (pa1 (VL ["_law_k"] [2,0] (Xw Y B.range (pa1 YX)) (VM (i:=0)<|by decide)
   (λcl C fp s H=>Yb 0 AV rfl (Or.inl rfl) (Or.inr rfl)) (λcl C fp s H=>Ym (r:=CS) L4 (pv 1) (Yx DN hr<|pa2 (pv 2) YX) λ_ _=>rfl)))))
  (YW (Yk 5 WT.nd<|Yx DN hr<|pa2 (pv 0) YX)
  (YW (Yk 6 WT.nd<|Yx DN hr<|pa2 (pv 0) YX)
  (YW (Yk 7 WT.nd<|Vv Vd)
  (YW (Vq Zt rfl (Xw rfl B.range (pa1<|pv 1)) (Yb 3 WT.nd)
   (YW (Yk 8 WT.nd<|Vt By (pv 4) JD<|V4<|Yx DN hr<|pa2 (pv 0) YX)
   (YW (Yk 9 WT.nd<|Ym Y3 (Vv<|pa3 YX (Yr XU rfl B.len Zs (pa1<|pv 8))<|Y1 G8 (Yr XU rfl B.len Zs (pa1<|pv 8)) YX) (pv 6) λ_ _=>rfl)
   (YW (Yk 10 WT.nd<|Ym L4 (pv 2) (Y1 Xh (Y1 Vr (pv 5)<|Y1 JV YX<|pv 3) YX) λ_ _=>rfl)
   (YZ<|Ve<|Ui Zx Zy Zz V2 (pv 7)<|pa1<|Y1 XJ (Y1 XJ (Vt By (pv 8) JD<|V4<|pv 9)<|pv 10)<|Vt By (pv 8) (V4<|pv 9) JD)))))
  (YZ<|Yo<|pv 7))))),?_⟩
 dsimp only[Vi,Cx.nox,Cx.wish];show let T0:=_;let T1:=_;let T2:=Yg _ T1;let T3:=Yg _ T2;let T4:=Yg _ T3;let T5:=Yg (Jt _ _ T4) T0;let T6:=Yg _ T5;let T7:=Yg _ T6;let T8:=Yg _ T7;Yg _ T8 _ _ _
 intros
 show let a:=_;let b:=_;let c:=Yg _ b;let d:=Yg _ c;let e:=Yg _ d;let f:=Yg (Jt _ _ e) a;let g:=Yg _ f;let h:=Yg _ g;let i:=Yg _ h;Yg _ i _ _ _
 intros
 have em:((many:Nat):Int).toNat=many:=je _;refine⟨Y,7,Y,by decide,by decide,?_⟩;refine JN 7 (Yt<|by decide) (λi T G=>SameB p H G/\Pen K j G p/\∃Z:List Nat,T=Z.map (λc=>V.str<|one c)/\Z.length=i/\∀c∈Z,o<=c/\c<o+26) ⟨SameB.refl _ _,pn,[],rfl,rfl,λc h=>nomatch h⟩
  (λi T G z=>by obtain⟨_,_,Z,e,l,_⟩:=z;rw[e,ZA,l]) (λi T G hi z=>hi) (λT G z=>ZF _) ?_ ?_
 .intro i T G x H'' R hi z yl hR
  obtain⟨rfl,rfl⟩:=yl;obtain⟨O,N,Z,rfl,zl,zc⟩:=z;refine⟨p,j,26,N,by decide,by decide,λr H3 r1 b s3=>?_⟩;refine⟨alpha o,(r:Nat),o+r,Y,Y,by rw[MO];decide,R0 o r1,hR _ _ ⟨O.trans b.sb,s3,Z++[o+r],by rw[ZI];rfl,by rw[ZJ,zl];rfl,λc hc=>?_⟩⟩;rcases ZV.mp hc with h|h
  .exact zc c h
  .rw [ZO.mp h];omega
 intro T H1 pl z v;obtain⟨O,N,Z,rfl,k,zc⟩:=z;have e1:Z.map (λc=>V.str<|one c)=(Z.map one).map V.str:=by rw[yg];rfl
 exists _,pl,Z.map one,Y,Y,Z1 (by rw[Ya,e1]),?_
 .obtain ⟨a,b,c,d,e,f,g,rfl⟩:=Qk k
  show(7:Nat)+7*0<=16777216
  decide
 rw[zC k];have s1:=N.same<|Ye v<|.lst<|Z.map λc=>V.str<|one c;have b1:SameB p H (upd H1 pl<|.lst<|Z.map λc=>V.str<|one c):=O.trans (Ye v _).sb;generalize upd H1 pl (.lst<|Z.map λc=>V.str<|one c)=H2 at s1 b1;refine⟨p,j,26,s1,by decide,by decide,λL H3 t1 b3 s3=>?_⟩;refine⟨p,j,3,s3,by decide,by decide,λJ H4 w1 b4 s4=>?_⟩;refine⟨sl 0,λX M=>?_⟩;have b5:SameB p H H4:=(b1.trans b3.sb).trans b4.sb;have D:X≠p:=s4.ne M;have S:H X=none:=b5.free D M;exists many,Y,by omega,by omega
 let I:kH:=λi U G=>SameB p H G/\Pen K j G p/\∃(y:List Nat)(O N z3 z4:kJ),G X=some (.lst<|(Nb o Z J L y).map V.str)/\y.length=i/\(∀r∈y,r<=7)/\
  U=[some (.ref p),some<|.int (many:Nat),some<|.str<|alpha o,O,some<|.str<|txt Z,some<|.int (L:Nat),some<|.int (J:Nat),some<|.ref X,N,z3,z4]
 refine ON (n:=((many:Nat):Int).toNat) I ⟨b5.trans (Ye M _).sb,s4.same<|Ye M _,[],_,_,_,_,Ya,rfl,(λr h=>nomatch h),rfl⟩ ?_ ?_
 .rintro BB RR i U G hi ⟨y1,y2,y,O,N,z3,z4,y3,lr,r7,rfl⟩
  rw[em]at hi;have tl:(txt Z).length<=sizeLine:=by rw[Xs,k];decide
  have e0:((L:Int)+7*(0+(i:Int))) % 26=(((L+7*i) % 26:Nat):Int):=by rw[show(L:Int)+7*(0+(i:Int))=((L+7*i:Nat):Int) by omega];rfl
  refine⟨p,j,8,y2,by decide,by decide,λr H5 r8 b6 s6=>⟨_,Y,txt Z,Y,tl,?_⟩⟩;rw[Nw (by omega)];have lt:(txt<|Z.take r).length=r:=by rw[Xs,ZL,k];omega
  have ll:(Z.take r).length=r:=by rw[<-Xs];exact lt
  have tr:(txt<|Z.take r).length<=sizeLine:=by rw[lt];exact Zf<|Yt<|by omega
  refine⟨txt<|Z.take r,rfl,tr,txt<|Z.take r,rfl,tr,⟨by decide,by decide⟩,sl 3,λt ht=>?_⟩;refine up_in ht _ λH6 s7 g7=>?_;refine⟨_,.int (atW J r:Nat),Z1 g7,(by rw[lt];exact A5 w1),?_⟩;refine⟨.inl ⟨by decide,by decide⟩,(by show(0:Int)<_;decide),alpha o,_,_,Y,Y,by rw[MO];decide,(by rw[e0];exact R0 o<|Nat.mod_lt _<|by decide),?_⟩;have sg:(⟨#[o+(L+7*i) % 26]⟩:Str)=txt [o+(L+7*i) % 26]:=rfl;rw[sg];have aw:=EM J r;have u:=s7 _ _<|b6.sb _ _ D y3;have small:∀m:Nat,m<=100->m<=sizeLine:=λm h=>Zf (Yt<|by omega);have x1:(txt [o+(L+7*i) % 26]).length=1:=rfl;exists .inl ⟨Y,_,Z1 u⟩,_,Y,txt<|Z.take r,rfl,tr,_,_,rfl,rfl,small _ (by have:=Txt.slice_le (txt<|Z.take r) none<|some (atW J r:Int);omega),_,rfl,txt<|Z.take r,rfl,tr,_,_,rfl,rfl,small _ (by have:=Txt.slice_le (txt<|Z.take r) none<|some (atW J r:Int);have:=Txt.slice_le (txt<|Z.take r) (some (atW J r:Int)) none;rw[Ug];omega),X,_,_,rfl,rfl,u,?_
  .rw [ZA];unfold Nb;rw[ZA,jN];exact Yt<|by omega
  rw[Nw (by omega),Bx<|by omega,EV,EV];have Z8:=s6.same s7;refine⟨λb o' n e=>?_,?_,y++[r],_,_,_,_,?_,by rw[ZJ,lr];rfl,λx hx=>?_,Y⟩
  .rw [Yd (Yj e S)];exact s7 _ _<|b6.sb b o' n<|y1 b o' n e
  .exact pn.put ((y1.trans b6.sb).trans s7.sb) Z8 S D
  .rw [Ya,Fb,ZI,lr];rfl
  .rcases ZV.mp hx with h|h
   .exact r7 x h
   .rw [ZO.mp h];omega
 .rintro U G ⟨y1,y2,y,O,N,z3,z4,y3,lr,r7,rfl⟩
  rw[em]at lr;refine q X _ G y1 y2 S y3 (by unfold Nb;simp[lr])<|Ov k r7 (by omega) zc
end
end K4
namespace L2
open PySem
def Ti(h:n<=10000):n<sizeLine:=qi h<|by decide
structure Itx(J:It)(H:Hp)(xs:List V):Prop where
 go:∀i,i<xs.length->J.go i H
 stop:J.stop xs.length H
 yld:∀i x H',J.yld i H x H'->H'=H/\xs[i]?=some x
def itl(h:SqL K H a Z):Itx (Itl K a) H Z:=⟨λi J=>⟨Z,Z[i],h,ZC J⟩,⟨Z,h,ZF _⟩,λi x G y=>⟨y.1,y.2 Z h⟩⟩
def itt(h:SqT K H a Z):Itx (Itt K a) H Z:=⟨λi J=>⟨Z,Z[i],h,ZC J⟩,⟨Z,h,ZF _⟩,λi x G y=>⟨y.1,y.2 Z h⟩⟩
def getD{α:Type}{J:List α}{D:α->Dat}{H:Hp}{Z:kF}{i:Nat}{x:V}(h:HasL H Z (J.map D))(e:Z[i]?=some x):∃u,J[i]?=some u/\Has H x (D u):=by
 obtain⟨d,G,M⟩:=h.get e;rw[ZG]at G;obtain⟨u,L,rfl⟩:=Zh.mp G;exact⟨u,L,M⟩
def Gh{α:Type}{t:α->Bool}{Z:List α}{i:Nat}{u:α}(h:Z[i]?=some u):(Z.take<|i+1).filter t=(Z.take i).filter t++ if t u=true then[u]else[]:=by
 rw[take_snoc h,List.filter_append]
 congr 1
 cases e:t u <;> simp[e]
def UY{α:Type}{us:List α}{D E:α->Dat}(t:α->Bool)(N:Itx J H O)(F:HasL H O (us.map D))(P:us.length<=10000)(U:∀u x (R:Bool->V->Hp->Prop),u∈us->Has H x (D u)->(∀v,t u=true->Has H v (E u)->R true v H)->(t u=false->R false .non H)->g x s0 H λT X=>tc T X λb A=>if b=true then te T A (R true)else R false .non A)(C:∀Z p G,H p=none->Same H G->G p=some (.lst Z)->HasL G Z ((us.filter t).map E)->Q (.ref p) G):NX J g tc te s0 Q H:=by
 have B:=F.length;rw[ZA]at B;refine EF O.length (Ti<|by omega) (λi Z G=>G=H/\Z.length<=i/\HasL H Z (((us.take i).filter t).map E)) ⟨rfl,ZF _,Z4⟩ (λi Z G z=>z.2.1) ?_ ?_ ?_ ?_
 .rintro i Z G hi ⟨rfl,_⟩
  exact N.go i hi
 .rintro Z G ⟨rfl,_⟩
  exact N.stop
 .rintro i Z G x H'' R hi ⟨rfl,z2,z3⟩ yl rT rF
  obtain⟨rfl,y⟩:=N.yld i x H'' yl;obtain⟨u,M,S⟩:=getD F y;refine U u x R (ZH M) S (λv L I=>rT _ _ ⟨Y,by rw[ZJ];exact Nat.succ_le_succ z2,?_⟩) λL=>rF _ ⟨Y,Nat.le_succ_of_le z2,?_⟩
  .rw [Gh M,Zn L,ZI]
   exact Z5 z3<|Z3 I
  .rw [Gh M,Zo (by rw[L];exact Zg),vE]
   exact z3
 .rintro Z G p ⟨rfl,z2,z3⟩ hp
  rw[Ze (vY B.symm)]at z3;exact C Z p _ hp (Ye hp _) Ya<|z3.mono<|Ye hp _
def JM{α:Type}{us:List α}{D E:α->Dat}(L:Itx J H M)(O:HasL H M (us.map D))(C:us.length<=10000)(I:∀u x (R:V->Hp->Prop),u∈us->Has H x (D u)->(∀v,Has H v (E u)->R v H)->g x s0 H λB U=>te B U R)(S:∀Z p G,H p=none->Same H G->G p=some (.lst Z)->HasL G Z (us.map E)->Q (.ref p) G):Rh J g te s0 Q H:=by
 have N:=O.length;rw[ZA]at N;refine JN M.length (Ti<|by omega) (λi Z G=>G=H/\Z.length=i/\HasL H Z ((us.take i).map E)) ⟨rfl,rfl,Z4⟩ (λi Z G z=>z.2.1) ?_ ?_ ?_ ?_
 .rintro i Z G hi ⟨rfl,_⟩
  exact L.go i hi
 .rintro Z G ⟨rfl,_⟩
  exact L.stop
 .rintro i Z G x H'' R hi ⟨rfl,z2,z3⟩ yl rT
  obtain⟨rfl,y⟩:=L.yld i x H'' yl;obtain⟨u,T,A⟩:=getD O y;refine I u x R (ZH T) A λv F=>rT _ _ ⟨Y,by rw[ZJ,z2];rfl,?_⟩;rw[take_snoc T,ZI];exact Z5 z3<|Z3 F
 .rintro Z G p ⟨rfl,z2,z3⟩ hp
  rw[Ze (vY N.symm)]at z3;exact S Z p _ hp (Ye hp _) Ya<|z3.mono<|Ye hp _
def Each{α β:Type}(E:α->β->Prop)(us:List α)(bs:List β):Prop:=bs.length=us.length/\∀(i:Nat) u b,us[i]?=some u->bs[i]?=some b->E u b
def Each.nil{α β:Type}{E:α->β->Prop}:Each E [] []:=⟨rfl,λi u b h=>by simp at h⟩
def Each.snoc{α β:Type}{E:α->β->Prop}{G:List α}{L:List β}{i:Nat}{u:α}{b:β}(h:Each E (G.take i) L)(N:G[i]?=some u)(e:E u b):Each E (G.take<|i+1) (L++[b]):=by
 have R:=(ZE.mp N).1;have M:(G.take i).length=i:=by rw[ZL];exact vh<|Zf R
 have O:L.length=i:=h.1.trans M;rw[take_snoc N];refine⟨by rw[ZJ,ZJ,h.1];rfl,λj v c J Z=>?_⟩
 by_cases hj:j<i
 .rw [yk (by omega)]at J Z
  exact h.2 j v c J Z
 .have:j=i:=by
   have:=(ZE.mp Z).1;rw[ZJ,yn]at this;omega
  subst this;rw[yp (by omega)]at J Z;rw[M,Nat.sub_self]at J;rw[O,Nat.sub_self]at Z;cases J;cases Z;exact e
def Each.mem{α β:Type}{E:α->β->Prop}{Z:List α}{L:List β}{b:β}(h:Each E Z L)(M:b∈L):∃u∈Z,E u b:=by
 obtain⟨i,G⟩:=yh.mp M;have J:i<Z.length:=by rw[<-h.1];exact(ZE.mp G).1
 exact⟨Z[i],jn J,h.2 i _ b (ZC J) G⟩
structure Itp(J:It)(p:Addr)(H:Hp)(xs:List V):Prop where
 at_:∀H',SameB p H H'->Itx J H' xs
def yM{H:Hp}(h:H a=some (.lst Z))(n:a≠p):Itp (Itl K a) p H Z:=⟨λJ s=>itl<|Z1<|s _ _ n h⟩
def QG{H:Hp}(h:H a=some (.tup Z))(J:Pen K' sa H p):Itp (Itt K a) p H Z:=⟨λG s=>itt<|Z0<|s _ _ (J.tup h) h⟩
def U4{α β:Type}{us:List α}{D:α->Dat}{F:β->Dat}(E:α->β->Prop)(T:Itp J p H B)(I:Pen K sa H p)(U:HasL H B (us.map D))(j:∀u,(D u).ni=true)(X:∀b,(F b).st=true)(w:us.length<=10000)(m:∀u x O (R:V->Hp->Prop),u∈us->SameB p H O->Pen K sa O p->Has O x (D u)->(∀v b N,SameB p O N->Pen K sa N p->Has N v (F b)->E u b->R v N)->g x s0 O λM f=>te M f R)(k:∀L G q Z,H q=none->SameB p H Z->Pen K sa Z p->Z q=some (.lst L)->HasL Z L (G.map F)->Each E us G->Q (.ref q) Z):Rh J g te s0 Q H:=by
 have S:=U.length;rw[ZA]at S
 have d:∀G:List β,Dat.sts (G.map F)=true:=λG=>by
  induction G with
  |nil=>unfold List.map Dat.sts;rfl
  |cons b G ih=>rw[ZT];unfold Dat.sts;rw[X b,ih];rfl
 refine JN B.length (Ti<|by omega) (λi L Z=>SameB p H Z/\Pen K sa Z p/\L.length=i/\∃G,HasL Z L (G.map F)/\Each E (us.take i) G) ⟨SameB.refl _ _,I,rfl,[],Z4,Each.nil⟩ (λi L Z z=>z.2.2.1) ?_ ?_ ?_ ?_
 .rintro i L Z hi ⟨s,_⟩
  exact(T.at_ Z s).go i hi
 .rintro L Z ⟨s,_⟩
  exact(T.at_ Z s).stop
 .rintro i L Z x H'' R hi ⟨s,pn',z2,G,z3,z4⟩ yl rT
  obtain⟨rfl,y⟩:=(T.at_ Z s).yld i x H'' yl;obtain⟨u,C,t⟩:=getD U y;refine m u x _ R (ZH C) s pn' (VV s I _ (j u) t) λv b N A P c e=>rT _ _ ⟨s.trans A,P,by rw[ZJ,z2];rfl,G++[b],?_,z4.snoc C e⟩;rw[ZI];exact Z5 (VU (pn'.tk A) _ (d G) z3)<|Z3 c
 .rintro L Z q ⟨s,pn',z2,G,z3,z4⟩ hq
  rw[Ze (vY S.symm)]at z4;have M:=Ye hq<|.lst L;exact k L G q _ (s.free (pn'.ne hq) hq) (s.trans M.sb) (pn'.same M) Ya (z3.mono M) z4
def zD:Str×Shp->Bool
 |(_,.tags _)=>true
 |(_,.pair _ _)=>false
def flat(ks:kL):kL:=ks.filter zD
def shW:Shp->Str
 |.tags _=>"tags"
 |.pair _ _=>"pair"
def Tl{s:Shp}(h:Has H v s.dat):∃a ys,v=.ref a/\H a=some (.tup (.str (shW s)::ys)):=by
 cases s <;> (unfold Shp.dat at h;obtain⟨t,ys,rfl,J,G⟩:=Yz h;obtain⟨M,Z,rfl,L,_⟩:=Yf G;obtain rfl:=has_str L;exact⟨t,Z,Y,J⟩)
def Fu:¬decide (V.str (shW<|.pair a b)=V.str "tags")=true:=by show ¬decide (V.str "pair"=V.str "tags")=true;decide +kernel
def JW(k:Str×Shp):(Vx k).st=true:=by
 have e:=Shp.st k.2;simp[Vx,Dat.st,Dat.sts,e]
end L2
namespace K4
open PySem L2
section
def Ku:Yn pnm pnm (Yc NF):=Y7
inductive FR(K:W.Frag)(H:Hp)(Q:VK):List V->Prop
 |mk (p sa:Addr) (many:Nat) (pn:Pen K sa H p) (m26:many<=26) (q:WQ K sa 97 p many H Q):FR K H Q [.ref p,.int (many:Nat)]
def Uv(K:W.Frag):Sp:=λZ H Q _=>FR K H Q Z
def Fy(F:Fun K "_law_small_words" "_law_small_words" NF f O)(T:Df P w K M base n "_law_spelt" ["_law_pen","_law_many","_law_letters"] (Nu K)):Yh P w K M base CX0 (n+1) f O pnm (Uv K):=by
 refine F.oi Ku λR A Z s H B Q E N h=>?_;obtain⟨p,G,many,L,J,q⟩:=h;exists _,YZ<|Yo<|Yx T N<|pa3 (pv 0) (pv 1) VA;have z:=Qb.mk (K:=K) (H:=H) p G many 97 L J q;rw[<-Wt]at z;exact z
def Sm:Yn ["_law_kinds_here"] ["_law_kinds_here"] (Yc Lw):=Y7
def C6:List.Nodup [("_law_kind":Str)]:=by decide +kernel
inductive Q6(H:Hp)(Q:VK):List V->Prop
 |mk (v:V) (ks:List (Str×Shp)) (hv:Has H v (.lst (ks.map Vx))) (hn:ks.length<=900) (q:∀l ys H',H l=none->Same H H'->H' l=some (.lst ys)->HasL H' ys ((flat ks).map Vx)->Q (.ref l) H'):Q6 H Q [v]
def Md:Sp:=λZ H Q _=>Q6 H Q Z
def P2(F:Fun K "_law_flat_kinds" "_law_flat_kinds" Lw f d):Yh P w K mg base CX0 (n+1) f d ["_law_kinds_here"] Md:=by
 refine F.oi Sm λl A Z s H J Q E hr h=>?_;obtain⟨v,ks,I,z,q⟩:=h;refine⟨_,YZ (Yo (M8 ["_law_kind"] [] (VF<|pv 0) (VM (i:=0)<|by decide) (λN C M s H=>Yb 0 C6 rfl (Or.inl rfl) (Or.inr rfl))
  (λN C M s H=>Yq JK (Ym (r:=UG K) Yp (Ym (r:=UG K) Yp (pv 0) YX) YX) VA<|Yy _) (λN C M s H=>pv 0))),?_⟩
 obtain⟨a,xs,rfl,L,D⟩:=VR I;exists ⟨_,Z1 L⟩;refine UY (E:=Vx) zD (itl<|Z1 L) D (ZZ z<|by decide) (λu x R hm G T B=>?_) λJ p o X s m k=>q p J o X s m k;obtain⟨y,O⟩:=u;obtain⟨t,v,rfl,S,U⟩:=UA G;obtain⟨b,zs,rfl,c⟩:=Tl U;exists _,_,Z0 S,Y,_,_,Z0 c,Yw (j:=0) Y,Y,_,Y
 cases O with
 |tags ts=>exact Vf Y (T _ Y G)
 |pair e g=>exact Y6 Fu<|B rfl
def Ks:Yn ["_law_kinds_here","_law_kind"] ["_law_kinds_here","_law_kind"] (Yc NE):=Y7
def Ll:List.Nodup [("_law_name":Str),"_law_shape","_law_kind"]:=by decide +kernel
inductive FP(H:Hp)(Q:VK):List V->Prop
 |mk (v:V) (y:Str) (ks:List (Str×Shp)) (ts:List Str) (hv:Has H v (.lst (ks.map Vx))) (hn:ks.length<=900) (hs:VS ks y=some (.tags ts)) (q:∀r H',Same H H'->Has H' r (.tup (ts.map Dat.str))->Q r H'):FP H Q [v,.str y]
def UQ:Sp:=λZ H Q _=>FP H Q Z
def tgD(k:Str×Shp):Dat:=match k.2 with|.tags ts=>.tup (ts.map Dat.str)|.pair a _=>.str a
def QJ{s:Shp}(h:Has H v s.dat):∃a u ys,v=.ref a/\H a=some (.tup (.str (shW s)::u::ys))/\Has H u (tgD (y,s)):=by
 cases s <;> (unfold Shp.dat at h;obtain⟨t,ys,rfl,L,N⟩:=Yz h;obtain⟨T,B,rfl,R,Z⟩:=Yf N;obtain⟨J,G,rfl,O,M⟩:=Yf Z;obtain rfl:=has_str R;exact⟨t,J,G,Y,L,O⟩)
def BU{α:Type}{t:α->Bool}{l:List α}{x:α}(h:l.find? t=some x):∃r,l.filter t=x::r:=by
 induction l with
 |nil=>cases h
 |cons a l ih=>
  rw[y9]at h;rw[List.filter_cons]
  cases e:t a with
  |true=>rw[e]at h;cases h;exact⟨_,by rw[Zn rfl]⟩
  |false=>rw[e]at h;rw[Zo Zg];exact ih h
def Fw(F:Fun K "_law_tags_of" "_law_tags_of" NE f fd):Yh P w K mg base CX0 (n+1) f fd ["_law_kinds_here","_law_kind"] UQ:=by
 refine F.oi Ks λZ8 A Z s H B Q E hr h=>?_;obtain⟨v,y,ks,ts,X,d,L,q⟩:=h;refine⟨_,YZ (Yo (Ym Y3 (M8 ["_law_name","_law_shape"] [1] (VF<|pv 0) UE (λT C O s H=>VO (n:=2) rfl (Yi (Yb 0 Ll rfl (Or.inl rfl) (Or.inr rfl))<|Yi (Yb 1 Ll rfl (Or.inl rfl) (Or.inr rfl)) VC))
  (λT C O s H=>Yq JK (pv 0) (pv 2)<|Yy _) (λT C O s H=>Ym (r:=UG K) Yp (pv 1) YX)) YX)),?_⟩
 obtain⟨a,xs,rfl,N,S⟩:=VR X;exists ⟨_,Z1 N⟩;refine UY (E:=tgD) (λk=>decide<|k.1=y) (itl<|Z1 N) S (ZZ d<|by decide) (λu x R hm m D I=>?_) λB p H' hp s l M=>?_
 .obtain ⟨z,s'⟩:=u
  obtain⟨t,v,rfl,g,J⟩:=UA m;obtain⟨b,w,zs,rfl,i,U⟩:=QJ (y:=z) J;exists _,Z0 g,Y,Y,_,Y;refine UJ (λc=>⟨_,_,Z0 i,Yw (j:=1) Y,D _ (decide_eq_true<|V.str.inj<|Zr c) U⟩) λc=>I<|Zw λe=>c<|decide_eq_true<|congrArg V.str e
 .unfold VS at L
  obtain⟨k,o,e⟩:=Zh.mp L;obtain⟨r,er⟩:=BU o;rw[er,ZT]at M;obtain⟨x1,r1,rfl,G,_⟩:=Yf M;refine⟨_,_,Z1 l,Yw (j:=0) Y,q _ _ s ?_⟩;unfold tgD at G;rw[e]at G;exact G
end
end K4
namespace L2
open PySem
structure Lb(K:W.Frag)(sa:Addr)(H0:Hp)(p l:Addr)(ds:List Dat)(H:Hp):Prop where
 p0:Pen K sa H0 p
 fl:H0 l=none
 sb:SameB p H0 H
 pn:Pen K sa H p
 zs:∃zs,H l=some (.lst zs)/\HasL H zs ds/\Dat.sts ds=true
def Lb.np(b:Lb K sa H0 p l Z H):l≠p:=b.p0.ne b.fl
def Lb.new(J:Pen K sa H p)(Z:H l=none):Lb K sa H p l [] (upd H l<|.lst []):=⟨J,Z,(Ye Z _).sb,J.same<|Ye Z _,[],Ya,Z4,by unfold Dat.sts;rfl⟩
def Lb.mv(b:Lb K sa H0 p l O H)(s:SameB p H J)(L:Pen K sa J p):Lb K sa H0 p l O J:=
 let⟨G,N,M,Z⟩:=b.zs;⟨b.p0,b.fl,b.sb.trans s,L,G,s _ _ b.np N,VU (b.pn.tk s) _ Z M,Z⟩
def Lb.sm(b:Lb K sa H0 p l Z H)(s:Same H J):Lb K sa H0 p l Z J:=b.mv s.sb<|b.pn.same s
def Kb(h:Dat.sts Z=true)(e:d.st=true):Dat.sts (Z++[d])=true:=by
 induction Z with
 |nil=>rw[List.nil_append];unfold Dat.sts;rw[e];unfold Dat.sts;rfl
 |cons a Z ih=>
  unfold Dat.sts at h;have t:=ju.mp h;rw[jS];unfold Dat.sts;rw[t.1,ih t.2];rfl
def Lb.ap{Z:kF}(b:Lb K sa H0 p l R H)(h:H l=some (.lst Z))(N:Has H v d)(e:d.st=true):Lb K sa H0 p l (R++[d]) (upd H l<|.lst<|Z++[v]):=by
 obtain⟨M,L,O,G⟩:=b.zs;rw[h]at L;cases L;have J:TK H (upd H l<|.lst<|Z++[v]):=Jv h λT z=>nomatch z
 exact⟨b.p0,b.fl,b.sb.put b.fl,b.p0.put b.sb b.pn b.fl b.np,_,Ya,Z5 (VU J _ G O)<|Z3<|UD J _ e N,Kb G e⟩
def Av{K:PySem.W.Frag}{g:TG}{F:TS}{D:Ends}(n:Nat)(Z:kH)(f:Z 0 U H)(t:∀i U H,i<=n->Z i U H->Sq K t1 H a G/\Sq K t2 H b ys)(v:n<=G.length)(u:n=ys.length)(j:∀(B:kI)(R:VK) i x y U H r,i<n->G[i]?=some x->ys[i]?=some y->Z i U H->H r=none->g (.ref r) U (upd H r<|.tup [x,y]) fun σ2 E=>F {nx:=Z<|i+1,rt:=R,bk:=B,ct:=Z (i+1)} σ2 E)(d:∀U H,Z n U H->D.nx U H):
  ∃W:Nat->Nat->St->Hp->Prop,(∃m,W 0 m U H)/\∀i m U H,W i m U H->
   ((Itz K t1 a t2 b).stop i H/\D.nx U H)\/((Itz K t1 a t2 b).go i H/\∃N:kI,(∀T J,N T J->∃A,A<m/\W (i+1) A T J)/\∀x J,(Itz K t1 a t2 b).yld i H x J->g x U J fun σ2 E=>F {D with nx:=N,ct:=N,bk:=D.nx} σ2 E):=by
 refine⟨λi m U H=>m=n-i/\i<=n/\Z i U H,⟨n,by simp,Za _,f⟩,λi m U H z=>?_⟩;obtain⟨rfl,k,p⟩:=z;obtain⟨O,M⟩:=t i U H k p;rcases qw i n with L|c
 .refine .inr ⟨⟨G,ys,G[i]'(by omega),ys[i]'(by omega),O,M,ZC _,ZC _⟩,Z<|i+1,λT J C=>⟨n-(i+1),by omega,rfl,L,C⟩,λx J y=>?_⟩
  obtain⟨r,S,I,rfl,q,rfl,Q,P⟩:=y;exact j _ _ i S I U H r L (Q G O) (P ys M) p q
 .have e:i=n:=by omega
  exact .inl ⟨⟨G,ys,O,M,.inr<|by omega⟩,by subst e;exact d U H p⟩
def off(ss:List Nat)(j:Nat):Nat:=(ss.take j).sum
def Lj(h:ss[j]?=some s):off ss (j+1)=off ss j+s:=by
 unfold off;rw[take_snoc h,jY];simp
def Dw(Z:List Nat){i j:Nat}(h:i<=j):off Z i<=off Z j:=by
 unfold off
 have e:Z.take j=Z.take i++ (Z.drop i).take (j-i):=by
  rw[<-vA i (Z.take j),jJ,vh h,List.drop_take]
 rw[e,jY];omega
def Ri(ss:List Nat)(tg:kq)(j:Nat):kq:=(tg.drop<|off ss j).take<|ss.getD j 0
def ks7(ys:kq)(ss:List Nat)(tg:kq)(n:Nat):kL:=(List.range n).map λj=>(ys.getD j "",.tags<|Ri ss tg j)
def Lz(ys:kq)(J:List Nat)(Z:kq)(n:Nat):ks7 ys J Z (n+1)=ks7 ys J Z n++[(ys.getD n "",.tags<|Ri J Z n)]:=by
 unfold ks7;rw[List.range_succ,ZI];rfl
def Xl(h:(ks7 ys ss tg n)[i]?=some (y,s)):i<n/\y=ys.getD i "" /\s=.tags (Ri ss tg i):=by
 unfold ks7 at h;rw[ZG]at h;obtain⟨j,Z,J⟩:=Zh.mp h;have:=(ZE.mp Z).1;rw[jN]at this;rw[qc this]at Z;cases Z;cases J;exact⟨this,Y,Y⟩
def W7(h:n<=ys.length):(ks7 ys ss tg n).map (·.1)=ys.take n:=by
 unfold ks7;rw[yg];refine vU λi=>?_;rw[ZG,vz]
 by_cases hi:i<n
 .rw [qc hi,Zn hi,ZC (show i<ys.length by omega)]
  show some (ys.getD i "")=_;rw[yj,ZC (show i<ys.length by omega)];rfl
 .rw [Zo hi,yo.mpr (by rw[jN];omega)];rfl
structure Szs(ss:List Nat)(tg:List Str):Prop where
 sz:∀s∈ss,1<=s/\s<=4
 lt:tg.length=ss.sum
 wd:Wds 65 tg
def Szs.at(z:Szs ss tg)(h:i<ss.length):(Ri ss tg i).length=ss.getD i 0/\1<=ss.getD i 0/\ss.getD i 0<=4/\off ss i+ss.getD i 0=off ss (i+1)/\off ss (i+1)<=tg.length:=by
 have e:ss[i]?=some ss[i]:=ZC h;have g:ss.getD i 0=ss[i]:=by rw[yj,e];rfl
 have b:=z.sz _<|ZH e;have o:=Lj e
 have l:off ss (i+1)<=tg.length:=by
  have:=Dw ss (show i+1<=ss.length by omega);rw[z.lt];have t:off ss ss.length=ss.sum:=by unfold off;rw[vj]
  omega
 rw[g];refine⟨?_,b.1,b.2,o.symm,l⟩;unfold Ri;rw[g,ZL,vN];omega
def Szs.kg(z:Szs ss tg)(G:Wds 97 ys)(h:n<=ys.length)(f:n<=ss.length):KG (ks7 ys ss tg n):=by
 have Z:∀i,(Ri ss tg i).Sublist tg:=λi=>(vm _ _).trans<|List.drop_sublist _ _;refine⟨?_,λy I m=>?_,λi j y t I c x L E U S=>?_,λB d p g a b L E=>?_⟩
 .rw [W7 h]
  exact⟨G.nd.sublist<|vm _ _,λy m=>G.len y<|Zi m,λy m=>G.abc y<|Zi m⟩
 .obtain ⟨i,D⟩:=yh.mp m
  obtain⟨_,_,e⟩:=Xl D;cases e;exact⟨z.wd.nd.sublist<|Z i,λy m=>z.wd.len y<|(Z i).subset m,λy m=>z.wd.abc y<|(Z i).subset m⟩
 .obtain ⟨B,_,e1⟩:=Xl L
  obtain⟨C,_,X⟩:=Xl E;cases e1;cases X
  have pos:∀i,i<n->∀x∈Ri ss tg i,∃k,off ss i<=k/\k<off ss (i+1)/\tg[k]?=some x:=λi D x m=>by
   obtain⟨a,J⟩:=yh.mp m;have r:=(ZE.mp J).1;have q:=z.at (show i<ss.length by omega);refine⟨off ss i+a,by omega,by omega,?_⟩;unfold Ri at J;rw[vz,Zn<|by omega,jd]at J;exact J
  obtain⟨T,o,w,Q⟩:=pos i B x U;obtain⟨R,l,v,P⟩:=pos j C x S;obtain⟨O,A⟩:=ZE.mp Q;obtain⟨N,F⟩:=ZE.mp P;have M:=jL.mp z.wd.nd
  have u:T=R:=by
   rcases ji T R with q|q|q
   .exact Zp (A.trans F.symm) (M _ _ O N q)
   .exact q
   .exact Zp (F.trans A.symm) (M _ _ N O q)
  rcases ji i j with q|q|q
  .have:=Dw ss (show i+1<=j by omega);omega
  .exact q
  .have:=Dw ss (show j+1<=i by omega);omega
 .obtain ⟨_,_,e⟩:=Xl L
  cases e
def cF(ks:kL)(z:Str):Nat:=match VS ks z with|some (.tags ts)=>1+ts.length|_=>0
structure J3(ks:List (Str×Shp))(c d:Str->Nat):Prop where
 kk:KK 30 c d ks
 nd:(ks.map (·.1)).Nodup
 kg:KG ks
 k0:0<ks.length
 k6:ks.length<=6
 f0:0<(flat ks).length
 f3:(flat ks).length<=3
 h0:∃y ts,ks[0]?=some (y,.tags ts)
def OM:flat (ks7 ys ss tg n)=ks7 ys ss tg n:=List.filter_eq_self.mpr λk m=>by
 obtain⟨i,Z⟩:=yh.mp m;obtain⟨y,s⟩:=k;obtain⟨_,_,rfl⟩:=Xl Z
 rfl
def XO:(ks7 ys ss tg n).length=n:=by unfold ks7;rw[ZA,jN]
def zA(z:Szs ss tg)(Z:Wds 97 ys)(h:n<=ys.length)(G:n<=ss.length)(M:1<=n)(L:n<=3):J3 (ks7 ys ss tg n) (cF<|ks7 ys ss tg n) λ_=>0:=by
 have J:((ks7 ys ss tg n).map (·.1)).Nodup:=by rw[W7 h];exact Z.nd.sublist<|vm _ _
 exists λi y s e=>?_,J,z.kg Z h G,by rw[XO];omega,by rw[XO];omega,by rw[OM,XO];omega,by rw[OM,XO];omega
 .have sh:=Xu J<|ZH e
  obtain⟨N,rfl,rfl⟩:=Xl e;have q:=z.at (show i<ss.length by omega);exact⟨by omega,by omega,by unfold cF;rw[sh],Y,((z.kg Z h G).tw _ _<|ZH e).nd⟩
 .cases e:(ks7 ys ss tg n)[0]? with
  |none=>have:=yo.mp e;rw[XO]at this;omega
  |some k=>
   obtain⟨y,s⟩:=k;obtain⟨_,rfl,rfl⟩:=Xl e;exact⟨_,_,Y⟩
def J3.pair(k:J3 Z c d)(T:flat Z=Z)(M:Wds 97 (Z.map (·.1)++[y]))(p:∀z,d z=0)(h:Z[0]?=some (a,.tags J)):∃v f,J3 (Z++[(y,.pair a a)]) v f:=by
 have B:a∈Z.map (·.1):=ZU.mpr ⟨_,ZH h,rfl⟩;have A:a≠y:=λe=>(jh.mp M.nd).2.2 a B y (by simp) e;have C:=k.kk 0 a _ h;obtain⟨o,l,u,da,w⟩:=C
 have D:∀(i:Nat)(x:Str)(s:Shp),Z[i]?=some (x,s)->∃J,s=Shp.tags J:=λi x s e=>by
  have m:=ZH e;rw[<-T]at m;have:=(yi.mp m).2
  cases s with
  |tags J=>exact⟨J,Y⟩
  |pair _ _=>cases this
 have L:flat (Z++[(y,.pair a a)])=Z:=by
  have e:flat (Z++[(y,.pair a a)])=flat Z++ flat [(y,.pair a a)]:=List.filter_append _ _;rw[e,T];show Z++[]=Z;rw[vE]
 have G:∀i x s,(Z++[(y,Shp.pair a a)])[i]?=some (x,s)->Z[i]?=some (x,s)\/(i=Z.length/\x=y/\s=.pair a a):=λi x s e=>by
  by_cases hi:i<Z.length
  .rw [yk hi]at e;exact .inl e
  .rw [yp (by omega)]at e
   have Q:i-Z.length=0:=by
    have:=(ZE.mp e).1;rw[yn]at this;omega
   rw[Q]at e;cases e;exact .inr ⟨by omega,Y,Y⟩
 have F:=k.f0;have E:=k.f3;have g:=k.k0;rw[T]at F E;refine⟨_,_,k.kk.snoc (n:=1+c a*c a) (m:=1) M.nd ⟨B,B,?_,?_,?_,?_⟩,by rw[ZI];exact M.nd,⟨by rw[ZI];exact M,λx N m=>?_,λi j x z N I t R O U S=>?_,λP X x z b e R O=>?_⟩,by rw[ZJ];omega,by rw[ZJ,yn];omega,by rw[L];exact F,by rw[L];exact E,⟨a,J,by rw[yk g];exact h⟩⟩
 .dsimp only;rw[Zn rfl,Zo A]
 .dsimp only;rw[Zn rfl,u]
  have:=jj (show 1+J.length<=5 by omega) (show 1+J.length<=5 by omega);omega
 .dsimp only;rw[Zn rfl,Zo A,p];rfl
 .dsimp only;rw[Zn rfl];decide
 .obtain ⟨i,hi⟩:=yh.mp m
  rcases G i x _ hi with q|⟨_,_,q⟩
  .exact k.kg.tw x N (ZH q)
  .cases q
 .rcases G i x _ R with q|⟨_,_,q⟩
  .rcases G j z _ O with r|⟨_,_,r⟩
   .exact k.kg.ap i j x z N I t q r U S
   .cases r
  .cases q
 .rcases G P x _ R with q|⟨q,_,_⟩
  .obtain ⟨_,q⟩:=D _ _ _ q;cases q
  .rcases G X z _ O with r|⟨r,_,_⟩
   .obtain ⟨_,r⟩:=D _ _ _ r;cases r
   .rw [q,r]
def zt{r:Nat}(h:r<6):∃s:Nat,1<=s/\s<=4/\atI [V.int 2,.int 1,.int 3,.int 2,.int 4,.int 2] ((r:Nat):Int)=some (.int (s:Nat)):=by
 match r,h with
 |0,_=>exact⟨2,by decide,by decide,Y⟩
 |1,_=>exact⟨1,by decide,by decide,Y⟩
 |2,_=>exact⟨3,by decide,by decide,Y⟩
 |3,_=>exact⟨2,by decide,by decide,Y⟩
 |4,_=>exact⟨4,by decide,by decide,Y⟩
 |5,_=>exact⟨2,by decide,by decide,Y⟩
theorem MW:∀Z:List Nat,(Z.map λs=>((s:Nat):Int)).sum=((Z.sum:Nat):Int)
 |[]=>rfl
 |s::Z=>by rw[ZT,List.sum_cons,List.sum_cons,MW Z];omega
theorem Bp:∀Z:List Nat,(∀s∈Z,s<=4)->Z.sum<=4*Z.length
 |[],_=>ZF _
 |s::Z,h=>by
  have:=Bp Z λt m=>h t<|ZK _ m;have:=h s ZY;rw[List.sum_cons,Zd];omega
def QB{Z:List Nat}(h:∀s∈Z,s<=4)(l:Z.length<=100):PyProof.Rows.SumFits (Z.map λs=>((s:Nat):Int)):=λj J=>by
 rw[ZA]at J;have L:(Z.map λs=>((s:Nat):Int)).getD j 0=((Z[j]:Nat):Int):=by rw[yj,ZG,ZC J];rfl
 have M:=h _<|jn J;have G:=Bp (Z.take<|j+1) λs m=>h s<|Zi m;rw[ZL]at G;rw[L,<-vd,MW];unfold InLong;omega
def OZ(Z:kF)(k:Nat)(h:k<=Z.length):XT Z (some (k:Int)) none=Z.drop k:=by
 unfold XT;rw[HT.sIx_none,HT.sIx_nat,vh h,Ze (by rw[vN];omega)]
end L2
namespace K4
open PySem L2
section
def Jl:Yn ["_law_pen","_law_many","_law_names_here","_law_sizes","_law_tags","_law_found","_law_name","_law_size"] ["_law_pen"] (Yc D5):=Y7
def C5:List.Nodup [("_law_k":Str),"_law_pen"]:=by decide +kernel
inductive FV(K:W.Frag)(H:Hp)(Q:VK):List V->Prop
 |mk (p sa:Addr) (pn:Pen K sa H p) (q:∀l xs ks c d H',SameB p H H'->Pen K sa H' p->H l=none->H' l=some (.lst xs)->HasL H' xs (ks.map Vx)->J3 ks c d->Q (.ref l) H'):FV K H Q [.ref p]
def Te(K:W.Frag):Sp:=λZ H Q _=>FV K H Q Z
def II(B:Blt mg)(ms:mg "sum"=none)(F:Fun K "_law_kinds_drawn" "_law_kinds_drawn" D5 f fd)(DN:Df P w K mg base n "_law_next" pnm (Jx K))(DW:Df P w K mg base n "_law_small_words" pnm (Uv K))(DS:Df P w K mg base n "_law_spelt" ["_law_pen","_law_many","_law_letters"] (Nu K)):Yh P w K mg base CX0 (n+1) f fd ["_law_pen"] (Te K):=by
 refine F.oi Jl λcdv A F7 s H vs Q E hr h=>?_;obtain⟨p,g,pn,q⟩:=h;refine⟨_,YW (Yk 1 Jl.nd<|Y1 Vr YX<|Yx DN hr<|pa2 (pv 0) YX)
  (YW (Yk 2 Jl.nd<|Yx DW hr<|pa2 (pv 0)<|Y1 Vr (pv 1) YX)
  (YW (Ep (i0:=3) ["_law_k"] [0] Jl.nd rfl (Or.inl rfl) (Xw rfl B.range (pa1<|pv 1)) (VM (i:=0)<|by decide) (λcl C fp s H=>Yb 0 C5 rfl (Or.inl rfl) (Or.inr rfl))
   (λcl C fp s H=>Ym (r:=LG K) Y3 (Vv<|pa6 YX YX YX YX YX YX) (Yx DN hr<|pa2 (pv 1) YX) λ_ _=>rfl))
  (YW (Yk 4 Jl.nd<|Yx DS hr<|pa3 (pv 0) (Yr (Ii rfl) rfl ms Im (pa1<|pv 3)) VA)
  (YW (Yk 5 Jl.nd<|Vv Vd)
  (YW (Vq Zt rfl (Sz rfl B.zip (pa2 (pv 2)<|pv 3)) (VO (n:=2) rfl (Yi (Yb 6 Jl.nd)<|Yi (Yb 7 Jl.nd) VC))
   (YW (Ve<|Ui Zx Zy Zz V2 (pv 5)<|pa1<|Y0<|pa2 (pv 6)<|Y0<|pa2 VA<|VB VH rfl B.tuple VY (pa1<|Vt Xt (pv 4) JD<|V4<|pv 7))
   (YZ<|Yk 4 Jl.nd<|Vt Xt (pv 4) (V4<|pv 7) JD)))
  (YW (Y4 (Yq JK (Yx DN hr<|pa2 (pv 0) YX) YX<|Yy _)
   (YZ<|Ve<|Ui Zx Zy Zz V2 (pv 5)<|pa1<|Y0<|pa2 (Ym Y3 (pv 2)<|Er MV YX)<|Y0<|pa3 VA (Ym Y3 (pv 2) YX)<|Ym Y3 (pv 2) YX) Ys)
  (YZ<|Yo<|pv 5))))))),?_⟩
 dsimp only[Vi,Cx.nox,Cx.wish];show let T0:=_;let T1:=_;let T2:=Yg (VJ _ T1 _) T0;let T3:=_;let T4:=Yg _ T3;let T5:=Yg (Jt _ _ T4) T2;let T6:=Yg _ T5;let T7:=Yg _ T6;let T8:=Yg _ T7;let T9:=Yg _ T8;Yg _ T9 _ _ _
 intros
 refine⟨p,g,3,pn,by decide,by decide,λG H1 r3 b1 s1=>?_⟩;refine⟨p,g,1+G+1,s1,by omega,λnm J H2 R3 s2 fnm I6 lys wn=>?_⟩;have v:nm≠p:=s1.ne fnm;refine⟨_,Y,by omega,by omega,?_⟩;have em:(1+(G:Int)).toNat=1+G:=by omega
 refine JN (1+(G:Int)).toNat (Yt<|by omega) (λi vs M=>SameB p H2 M/\Pen K g M p/\∃Z:List Nat,vs=Z.map (λs=>V.int (s:Nat))/\Z.length=i/\∀s∈Z,1<=s/\s<=4) ⟨SameB.refl _ _,s2,[],rfl,rfl,λc h=>nomatch h⟩
  (λi vs M z=>by obtain⟨_,_,cs,e,l,_⟩:=z;rw[e,ZA,l]) (λi vs M hi z=>hi) (λvs M z=>ZF _) ?_ ?_
 .rintro i vs M x H'' R hi ⟨z1,z2,Z,rfl,zl,zc⟩ yl hR
  obtain⟨rfl,rfl⟩:=yl;refine⟨sl 6,λt ht=>?_⟩;refine up_in ht _ λH3 s3 g3=>?_;refine⟨p,g,6,z2.same s3,by decide,by decide,λr H4 r6 b4 s4=>?_⟩;obtain⟨k,k1,k4,ek⟩:=zt r6;refine⟨_,_,Z1<|b4.sb _ _ (z2.ne ht) g3,ek,hR _ _ ⟨(z1.trans s3.sb).trans b4.sb,s4,Z++[k],by rw[ZI];rfl,by rw[ZJ,zl];rfl,λc hc=>?_⟩⟩;rcases ZV.mp hc with h|h
  .exact zc c h
  .rw [ZO.mp h];exact⟨k1,k4⟩
 rintro vs H3 sz ⟨Z8,s3,Z,rfl,R7,G2⟩ F1;refine up_in F1 _ λH4 s4 g4=>?_;rw[em]at R7;have R6:sz≠p:=s3.ne F1;have R5:=s3.same s4;have e1:(Z.map λs=>V.int (s:Nat))=(Z.map λs=>((s:Nat):Int)).map V.int:=by rw[yg];rfl
 have sm:=Bp Z λs m=>(G2 s m).2
 have z0:∀R:VK,WQ K g 65 p Z.sum H4 R->Qb K H4 R [.ref p,.int<|(Z.map λs=>((s:Nat):Int)).sum,.str (Str.ofString "ABCDEFGHIJKLMNOPQRSTUVWXYZ")]:=λR w=>by
  rw[MW,MD];exact⟨p,g,Z.sum,65,R5,by omega,w⟩
 refine⟨sz,Z.map λs=>((s:Nat):Int),Y,Z1 (by rw[<-e1];exact g4),QB (λs m=>(G2 s m).2)<|by omega,z0 _ λT tg H5 R1 s5 C2 O F9 wt=>?_⟩;have Z9:T≠p:=R5.ne C2;have a:Szs Z tg:=⟨G2,F9,wt⟩;have D:=s4.sb.trans R1;have J2:=D _ _ v<|Z8 _ _ v I6;have N2:=R1 _ _ R6 g4;refine⟨sl 0,λl hl=>?_⟩;have I1:=Lb.new s5 hl;exists nm,sz,false,false,_,_,Y,Z1<|Ye hl _ _ _ J2,Z1<|Ye hl _ _ _ N2
 let I:kH:=λi U Hi=>Lb K g H5 p l ((ks7 J Z tg i).map Vx) Hi/\∃(T:Addr)(z6 z7:kJ),T≠p/\T≠l/\Hi T=some (.lst<|(tg.drop<|off Z i).map V.str)/\U=[some (.ref p),some<|.int<|1+(G:Int),some<|.ref nm,some<|.ref sz,some<|.ref T,some<|.ref l,z6,z7]
 refine Av (1+G) I ⟨I1,T,_,_,Z9,Yj O hl,Ye hl _ _ _ O,Y⟩ (λi U Hi _ z=>⟨Z1<|z.1.sb _ _ v J2,Z1<|z.1.sb _ _ R6 N2⟩) (by rw[ZA];omega) (by rw[ZA];exact R7.symm) ?_ ?_
 .rintro BB RR i x y U Hi r hi hx hy ⟨lb,T,z6,z7,Z9,ntl2,O,rfl⟩ hr'
  refine up_in hr' _ λH6 s6 g6=>?_;obtain⟨F8,F2,rfl⟩:=WL hx;rw[ZG]at hy;obtain⟨sn,I4,rfl⟩:=Zh.mp hy;have gd:Z.getD i 0=sn:=by rw[yj,I4];rfl
  have gn:J.getD i ""=F8:=by rw[yj,F2];rfl
  have q5:=a.at (show i<Z.length by omega);rw[gd]at q5;have ld:((tg.drop<|off Z i).map V.str).length=tg.length-off Z i:=by rw[ZA,vN]
  exists _,Z0 g6,Y;have F4:=s6 _ _ O;obtain⟨X,N,_⟩:=(lb.sm s6).zs;refine⟨.inl ⟨Y,_,Z1 N⟩,_,Y,T,_,Y,Z1 F4,λq1 I5=>?_⟩;rw[Wh _ _ (by omega),<-vd];refine up_in I5 _ λH7 s7 g7=>?_;refine⟨q1,_,Y,.inl ⟨Z1 g7,λt1 G1=>?_⟩⟩;refine up_in G1 _ λH8 s8 g8=>?_;refine⟨sl 2,λt2 J5=>?_⟩;refine up_in J5 _ λH9 s9 g9=>?_;refine⟨sl 2,λt3 I3=>?_⟩;refine up_in I3 _ λL1 u S2=>?_;have sA:=(((s6.trans s7).trans s8).trans s9).trans u;have R8:=lb.sm sA;have J4:=((((s7.trans s8).trans s9).trans u) _ _ N);obtain⟨zs1,S,D3,_⟩:=R8.zs;rw[J4]at S;cases S;have ln:=D3.length;rw[ZA,XO]at ln;exists l,_,_,Y,Y,J4,Yt<|by omega
  have hk:Has L1 (.ref t3) (Vx (J.getD i "",.tags<|Ri Z tg i)):=by
   rw[gn];unfold Ri;rw[gd];exact Yu S2<|Z2 Yv<|Z3<|Yu (u _ _ g9)<|Z2 Yv<|Z3<|Yu (u _ _<|s9 _ _ g8)<|VE _
  have L:=R8.ap J4 hk<|JW _;have M2:upd L1 l (.lst<|X++[.ref t3]) T=some (.lst<|(tg.drop<|off Z i).map V.str):=by rw[Yd ntl2];exact sA _ _ O
  generalize upd L1 l (.lst<|X++[.ref t3])=H11 at L M2 |-;refine⟨_,Y,T,_,Y,Z1 M2,λq2 G3=>?_⟩;rw[OZ _ _ (by omega),<-List.map_drop,List.drop_drop,q5.2.2.2.1];refine up_in G3 _ λH12 F5 I9=>?_;obtain⟨zsB,I2,_⟩:=L.zs;refine⟨?_,q2,_,_,L.pn.ne G3,(Yj I2 G3).symm,I9,Y⟩;rw[Lz,ZI];exact L.sm F5
 .rintro U Hi ⟨lb,T,z6,z7,Z9,ntl2,O,rfl⟩
  have o:=zA a wn (show 1+G<=J.length by omega) (by omega) (by omega) (by omega);have F3:∀M o c d,SameB p H5 M->Pen K g M p->(∃a,M l=some (.lst a)/\HasL M a (o.map Vx))->J3 o c d->Q (.ref l) M:=λM o c d s5 F6 ⟨a,h1,h2⟩ k=>q l a o c d M (((((b1.sb.trans R3).trans Z8).trans D).trans s5)) F6 ((((b1.sb.trans R3).trans Z8).trans D).free lb.np lb.fl) h1 h2 k;refine⟨p,g,2,lb.pn,by decide,by decide,λr2 H6 r22 b6 s6=>⟨Y,_,Y,?_⟩⟩;have b:=lb.mv b6.sb s6;obtain⟨X,N,S,D3⟩:=b.zs;refine UJ (λ_=>?_) λ_=>F3 _ _ _ _ b.sb s6 ⟨X,N,S⟩ o;have J1:=b.sb _ _ v J2;obtain⟨y0,ts0,h0⟩:=o.h0;have e0:=(Xl h0).2.1;have yl:1+G<J.length:=by omega
  have ey:J=J.take (1+G)++[J[1+G]]:=by
   rw[<-take_snoc (ZC yl),Ze (by omega)]
  have a1:atI (J.map V.str) (-1)=some (.str J[1+G]):=by
   have:=Oh ((J.take<|1+G).map V.str)<|.str J[1+G];rw[show(J.take<|1+G).map V.str++[V.str J[1+G]]=(J.take (1+G)++[J[1+G]]).map V.str by rw[ZI];rfl,<-ey]at this;exact this
  have a0:atI (J.map V.str) 0=some (.str y0):=Yw (j:=0) (by rw[ZG,e0,yj,ZC (show 0<J.length by omega)];rfl);refine⟨.inl ⟨Y,_,Z1 N⟩,_,Y,_,_,Z1 J1,a1,_,_,Z1 J1,a0,_,_,Z1 J1,a0,sl 3,λt1 G1=>?_⟩;refine up_in G1 _ λH7 s7 g7=>?_;refine⟨sl 2,λt2 J5=>?_⟩;refine up_in J5 _ λH8 s8 g8=>?_;have R4:=s7.trans s8;have I0:=b.sm R4;have D0:=R4 _ _ N;have ln:=S.length;rw[ZA,XO]at ln;refine⟨l,_,_,Y,Y,D0,Yt<|by omega,?_⟩;have L:=I0.ap D0 (d:=Vx (J[1+G],.pair y0 y0)) (Yu g8<|Z2 Yv<|Z3<|Yu (s8 _ _ g7)<|Z2 Yv<|Z2 Yv<|Z3 Yv)<|JW _;obtain⟨c',d',k'⟩:=o.pair (y:=J[1+G]) OM (by rw[W7 (by omega),<-ey];exact wn) (λ_=>rfl) h0;obtain⟨zB,I8,I7,_⟩:=L.zs;refine F3 _ _ c' d' L.sb L.pn ⟨zB,I8,?_⟩ k';rw[ZI];exact I7
end
end K4
namespace L2
open PySem
structure Iw(fl:List (Str×Shp))(c:Str->Nat):Prop where
 f0:0<fl.length
 f3:fl.length<=3
 nd:(fl.map (·.1)).Nodup
 ok:∀y s,(y,s)∈fl->∃ts,s=.tags ts/\c y=1+ts.length/\1<=ts.length/\ts.length<=4/\ts.Nodup
def J3.fl(k:J3 L c d):Iw (flat L) c:=⟨k.f0,k.f3,k.nd.sublist<|List.filter_sublist.map _,λy s m=>by
 obtain⟨G,J⟩:=yi.mp m
 cases s with
 |pair _ _=>cases J
 |tags Z=>
  obtain⟨i,M⟩:=yh.mp G;obtain⟨T,R,O,_,N⟩:=k.kk i y _ M;exact⟨Z,Y,O,T,R,N⟩⟩
def RY{J:kL}{r:Nat}(M:Iw J c)(h:HasL H G (J.map Vx))(S:r<J.length):∃y Z a b t,J[r]?=some (y,.tags Z)/\atI G ((r:Nat):Int)=some (.ref a)/\H a=some (.tup [.str y,.ref b])/\H b=some (.tup [.str "tags",.ref t])/\H t=some (.tup<|Z.map V.str)/\c y=1+Z.length/\1<=Z.length/\Z.length<=4:=by
 have N:=h.length;rw[ZA]at N;have e:G[r]?=some (G[r]'(by omega)):=ZC _;obtain⟨k,L,O⟩:=getD h e;obtain⟨y,s⟩:=k;obtain⟨Z,rfl,A,F,E,_⟩:=M.ok y s<|ZH L;obtain⟨a,v,I,D,R⟩:=UA O;obtain⟨b,t,rfl,B,T⟩:=Xn R;exact⟨y,Z,a,b,t,L,by rw[I]at e;exact Yw e,D,B,T,A,F,E⟩
def prD(p:Str×Str):Dat:=.tup [.str p.1,.str p.2]
def UB(p:Str×Str):(prD p).st=true:=by simp[prD,Dat.st,Dat.sts]
def M5(Z:List (Str×Str)):psD Z=.tup (Z.map prD):=rfl
def hdT(h:Hd):Dat:=.tup [.str h.1,psD h.2.1,.str h.2.2]
def RE(Z:List (Str×Str)):(psD Z).st=true:=by unfold psD Dat.st;exact G6 Z
def Jr(h:Hd):(hdT h).st=true:=by unfold hdT;simp[Dat.st,Dat.sts,RE]
def UW{Z:kK}(h:Dat.sts Z=true):(Dat.lst Z).ni=true:=by unfold Dat.ni;exact Dat.nis_of h
theorem Y2{α:Type}{f:α->Dat}(h:∀a,(f a).st=true):∀l:List α,Dat.sts (l.map f)=true
 |[]=>by unfold List.map Dat.sts;rfl
 |a::l=>by rw[ZT];unfold Dat.sts;rw[h a,Y2 h l];rfl
structure Rm(fl:List (Str×Shp))(c:Str->Nat)(ws:List Str)(ps:List (Str×Str))(n:Nat):Prop where
 sub:(ps.map (·.1)).Sublist ws
 kin:∀p∈ps,p.2∈fl.map (·.1)
 row:n=Vs c ps
def Rm.up(h:Rm fl c Z J n):Rm fl c (Z++[w]) J n:=⟨h.sub.trans<|List.sublist_append_left _ _,h.kin,h.row⟩
def Rm.snoc(h:Rm fl c Z J n)(m:y∈fl.map (·.1)):Rm fl c (Z++[w]) (J++[(w,y)]) (n*c y):=⟨by rw[ZI];exact h.sub.append<|List.Sublist.refl _,λp G=>by
 rcases ZV.mp G with q|q
 .exact h.kin p q
 .rw [ZO.mp q];exact m,by rw[XE,<-h.row]⟩
def Rm.hd{G:kL}(h:Rm G c (L.take j) J n)(w:Wds 97 L)(l:L.length<=3)(t:n<=top)(own:y∈G.map (·.1)):Ur (G.map (·.1)) c top (x,J,y):=by
 have Z:=h.sub.trans<|vm _ _;refine⟨?_,h.kin,own,w.nd.sublist Z,λp M=>w.wdS<|Z.subset<|ZU.mpr ⟨p,M,rfl⟩,by show Vs c J<=top;rw[<-h.row];exact t⟩;have:=Z.length_le;rw[ZA]at this;show J.length<=3;omega
end L2
namespace K4
open PySem L2
section
def JI:Yn ["_law_pen","_law_flat_here","_law_left","_law_found","_law_name","_law_parameters","_law_rows","_law_word","_law_kind","_law_shape","_law_own"] ["_law_pen","_law_flat_here"] (Yc D6):=Y7
inductive FW(K:W.Frag)(H:Hp)(Q:VK):List V->Prop
 |mk (p sa:Addr) (v:V) (fl:List (Str×Shp)) (c:Str->Nat) (pn:Pen K sa H p) (hv:Has H v (.lst (fl.map Vx))) (ok:Iw fl c)
  (q:∀(l:Addr)(xs:List V)(hs:List Hd)(H':Hp),SameB p H H'->Pen K sa H' p->H l=none->H' l=some (.lst xs)->HasL H' xs (hs.map hdT)->0<hs.length->hs.length<=5->Wds 97 (hs.map (·.1))->(∀h∈hs,Ur (fl.map (·.1)) c 40 h)->Q (.ref l) H'):FW K H Q [.ref p,v]
def Th(K:W.Frag):Sp:=λZ H Q _=>FW K H Q Z
def IK(B:Blt mg)(F:Fun K "_law_heads_drawn" "_law_heads_drawn" D6 f fd)(DN:Df P w K mg base n "_law_next" pnm (Jx K))(DW:Df P w K mg base n "_law_small_words" pnm (Uv K)):Yh P w K mg base CX0 (n+1) f fd ["_law_pen","_law_flat_here"] (Th K):=by
 refine F.oi JI λcdv A F1 s H vs Q E hr h=>?_;obtain⟨p,o,v,fl,c,pn,hv,ok,q⟩:=h;refine⟨_,YW (Yk 2 JI.nd YX)
  (YW (Yk 3 JI.nd<|Vv Vd)
  (YW (Vq Zt rfl (VF<|Yx DW hr<|pa2 (pv 0)<|Y1 Vr YX<|Yx DN hr<|pa2 (pv 0) YX) (Yb 4 JI.nd)
   (YW (Yk 5 JI.nd<|Vv Vd)
   (YW (Yk 6 JI.nd YX)
   (YW (Vq Zt rfl (VF<|Vt Xt (Yx DW hr<|pa2 (pv 0) YX) JD<|V4<|Yx DN hr<|pa2 (pv 0) YX) (Yb 7 JI.nd)
    (YW (V5 (Ym Y3 (pv 1) (Yx DN hr<|pa2 (pv 0)<|Yr Yl rfl B.len Zs (pa1<|pv 1)) λ_ _=>rfl)<|VO (n:=2) rfl (Yi (Yb 8 JI.nd)<|Yi (Yb 9 JI.nd) VC))
    (YZ (Y4 (Yq Gc (Y1 JV (pv 6)<|Y1 Vr YX<|Yr Yl rfl B.len Zs (pa1<|Ym Yp (pv 9) YX)) (pv 2)<|Yy _)
     (YW (Yk 6 JI.nd<|Y1 JV (pv 6)<|Y1 Vr YX<|Yr Yl rfl B.len Zs (pa1<|Ym Yp (pv 9) YX))
     (YZ<|Ve<|Ui Zx Zy Zz V2 (pv 5)<|pa1<|Y0<|pa2 (pv 7)<|pv 8)) Ys))))
   (YW (Yk 2 JI.nd<|Yr (GO rfl) rfl B.max GQ (pa2 YX<|Y1 UV (pv 2)<|pv 6))
   (YW (Yk 10 JI.nd<|Ym Yp (Ym Y3 (pv 1) (Yx DN hr<|pa2 (pv 0)<|Yr Yl rfl B.len Zs (pa1<|pv 1)) λ_ _=>rfl) YX)
   (YZ<|Ve<|Ui Zx Zy Zz V2 (pv 3)<|pa1<|Y0<|pa3 (pv 4) (VB VH rfl B.tuple VY (pa1<|pv 5))<|pv 10)))))))
  (YZ<|Yo<|pv 3))),?_⟩
 dsimp only[Vi,Cx.nox,Cx.wish];show let T0:=_;let T1:=_;let T2:=Yg _ T1;let T3:=Yg _ T2;let T4:=_;let T5:=Yg _ T4;let T6:=VJ _ T5 _;let T7:=Yg _ T6;let T8:=Yg (Jt _ _ T7) T3;let T9:=Yg _ T8;let T10:=Yg _ T9;let T11:=Yg (Jt _ _ T10) T0;let T12:=Yg _ T11;Yg _ T12 _ _ _
 intros
 obtain⟨la,xf,rfl,J5,u⟩:=VR hv;have N:=Y2 JW fl;have F5:=u.length;rw[ZA]at F5;have f0:=ok.f0;have f3:=ok.f3;have X:=pn.lst J5 u<|Dat.nis_of N;refine X7 ?_;refine⟨sl 0,λl hl=>?_⟩;have k:=Lb.new pn hl;generalize upd H l (.lst [])=H1 at k |-;refine⟨p,o,5,k.pn,by decide,by decide,λr1 H2 r5 b2 s2=>?_⟩;refine⟨p,o,1+r1,s2,by omega,λnm ys H3 D3 s3 R6 T lys wn=>?_⟩;have G2:nm≠p:=s2.ne R6;have F9:=(k.mv b2.sb s2).mv D3 s3;obtain⟨z3,I2,_⟩:=(k.mv b2.sb s2).zs;have F4:nm≠l:=(Yj I2 R6).symm;exists ⟨_,Z1 T⟩
 let I:kH:=λi U e=>∃hs:List Hd,Lb K o H p l (hs.map hdT) e/\e nm=some (.lst<|ys.map V.str)/\hs.map (·.1)=ys.take i/\(∀h∈hs,Ur (fl.map (·.1)) c 40 h)/\∃(L:Nat)(z4 z5 z6 z7 z8 z9 S:kJ),1<=L/\L<=40/\U=[some (.ref p),some<|.ref la,some<|.int (L:Nat),some<|.ref l,z4,z5,z6,z7,z8,z9,S]
 refine UK (xs:=ys.map V.str) I ⟨[],F9,T,Y,(λh m=>nomatch m),40,_,_,_,_,_,_,_,by decide,by decide,Y⟩ (λi U e _ z=>let⟨_,_,h,_⟩:=z;Z1 h) ?_ ?_
 .rintro BB RR i x U e hx ⟨hs,lb,T,ehs,hok,L,z4,z5,z6,z7,z8,z9,S,L1,L40,rfl⟩
  obtain⟨Z8,R5,rfl⟩:=WL hx;refine⟨sl 0,λl5 I8=>?_⟩;have g:=Lb.new lb.pn I8;obtain⟨z0,R3,_⟩:=lb.zs;generalize upd e l5 (.lst [])=H4 at g |-;dsimp only[Vp];refine X7 ?_;refine⟨p,o,3,g.pn,by decide,λwl wy H5 D0 s5 S2 I4 lwy R8=>?_⟩;refine⟨p,o,4,s5,by decide,by decide,λkn H6 k4 b6 s6=>?_⟩;refine⟨_,Y,wl,_,Y,Z1<|b6.sb _ _ (g.pn.ne S2) I4,λw2 J4=>?_⟩;rw[Wh _ _ (by rw[ZA];omega),<-vd];have M2:=(g.mv D0 s5).mv b6.sb s6;obtain⟨z6',I1,_⟩:=M2.zs;have F2:w2≠l5:=(Yj I1 J4).symm;have F3:w2≠p:=s6.ne J4;refine up_in J4 _ λH7 s7 g7=>?_;have F7:=M2.sm s7;exists ⟨_,Z1 g7⟩
  let J:kH:=λj U Hj=>∃C:List (Str×Str),Lb K o e p l5 (C.map prD) Hj/\Hj w2=some (.lst<|(wy.take kn).map V.str)/\∃(R:Nat)(z7 z8 z9:kJ),Rm fl c ((wy.take kn).take j) C R/\R<=L/\U=[some (.ref p),some<|.ref la,some<|.int (L:Nat),some<|.ref l,some<|.str Z8,some<|.ref l5,some<|.int (R:Nat),z7,z8,z9,S]
  refine UK (xs:=(wy.take kn).map V.str) J ⟨[],F7,g7,1,_,_,_,⟨List.nil_sublist _,(λp m=>nomatch m),Y⟩,L1,Y⟩ (λi U e _ z=>let⟨_,_,h,_⟩:=z;Z1 h) ?_ ?_
  .rintro BB RR j x U Hj hx ⟨C,lc,hw,R,z7,z8,z9,pk,RL,rfl⟩
   obtain⟨wd,J2,rfl⟩:=WL hx;have jl:=(ZE.mp J2).1;rw[ZL]at jl;have J1:=Vo (lb.sb.trans lc.sb) pn _ (Dat.nis_of N) u;have M:=(lb.sb.trans lc.sb) _ _ X J5;refine⟨la,_,Y,.inl<|Z1 M,p,o,_,lc.pn,by omega,by omega,λr H8 r8 D s8=>?_⟩;obtain⟨y,ts,a,b,t,hy,ea,ha,hb,ht,cy,t1,t4⟩:=RY ok (VU (lc.pn.tk D.sb) _ N J1) (show r<fl.length by omega);have ym:y∈fl.map (·.1):=ZU.mpr ⟨_,ZH hy,rfl⟩;have lt:(ts.map V.str).length=ts.length:=ZA _;refine⟨_,_,Z1<|D.sb _ _ X M,ea,⟨_,Z0 ha,rfl,?_⟩⟩;have G:=lc.mv D.sb s8;have R4:=D.sb _ _ F3 hw;have G3:((R:Nat):Int)*(1+(((ts.map V.str).length:Nat):Int))=((R*c y:Nat):Int):=by rw[lt,cy,ja];rfl
   have mle:=jj (show R<=40 by omega) (show c y<=5 by omega);exists _,_,Z0 hb,Y,t,_,Y,.inr<|Z0 ht,.inl ⟨by omega,by omega⟩,_,rfl;refine UJ (λc1=>?_) λ_=>⟨C,G,R4,R,_,_,_,by rw[take_snoc J2];exact pk.up,RL,Y⟩;have C2:=Zr c1;rw[G3]at C2;refine⟨_,_,Z0 hb,Y,t,_,Y,.inr<|Z0 ht,.inl ⟨by omega,by omega⟩,?_⟩;obtain⟨R7,Z,O,_⟩:=G.zs;refine⟨.inl ⟨Y,_,Z1 Z⟩,sl 2,λt9 I5=>?_⟩;refine up_in I5 _ λH9 s9 g9=>?_
   have lp:C.length<=3:=by
    have:=pk.sub.length_le;rw[ZA,ZL,ZL]at this;omega
   have ln:=O.length;rw[ZA]at ln;refine⟨l5,_,_,Y,Y,s9 _ _ Z,Yt<|by omega,?_⟩;have F6:=(G.sm s9).ap (d:=prD (wd,y)) (s9 _ _ Z) (Yu g9<|Z2 Yv<|Z3 Yv)<|UB _;refine⟨C++[(wd,y)],by rw[ZI];exact F6,by rw[Yd F2];exact s9 _ _ R4,R*c y,_,_,_,by rw[take_snoc J2];exact pk.snoc ym,by omega,by rw[<-G3];rfl⟩
  .rintro U Hj ⟨C,lc,hw,R,z7,z8,z9,pk,RL,rfl⟩
   have Z9:=lb.mv lc.sb lc.pn;have J1:=Vo Z9.sb pn _ (Dat.nis_of N) u;have M:=Z9.sb _ _ X J5;exists _,_,Y;have em:(if(L:Int)-(R:Int) > 1 then(L:Int)-(R:Int)else 1)=((max 1 (L-R):Nat):Int):=by split <;> omega
   refine⟨la,_,Y,.inl<|Z1 M,p,o,_,lc.pn,by omega,by omega,λr H8 r8 D s8=>?_⟩;obtain⟨y,ts,a,b,t,hy,ea,ha,hb,ht,cy,t1,t4⟩:=RY ok (VU (lc.pn.tk D.sb) _ N J1) (show r<fl.length by omega);have ym:y∈fl.map (·.1):=ZU.mpr ⟨_,ZH hy,rfl⟩;exists _,_,Z1<|D.sb _ _ X M,ea,_,_,Z0 ha,rfl;have N2:=Z9.mv D.sb s8;have G:=lc.mv D.sb s8;obtain⟨R7,Z,O,_⟩:=N2.zs;obtain⟨zc,I0,R1,_⟩:=G.zs;refine⟨.inl ⟨Y,_,Z1 Z⟩,l5,_,Y,.inl ⟨Z1 I0,λt1 I7=>?_⟩⟩;refine up_in I7 _ λH9 s9 g9=>?_;refine⟨sl 3,λt2 I6=>?_⟩;refine up_in I6 _ λH10 G1 I9=>?_;have sA:=s9.trans G1;have lh:=congrArg List.length ehs;rw[ZA,ZL]at lh;have ln:=O.length;rw[ZA]at ln;refine⟨l,_,_,Y,Y,sA _ _ Z,Yt<|by omega,?_⟩;have F8:=(N2.sm sA).ap (d:=hdT (Z8,C,y)) (sA _ _ Z) (Yu I9<|Z2 Yv<|Z2 (Yu (G1 _ _ g9)<|R1.mono sA)<|Z3 Yv)<|Jr _;refine⟨hs++[(Z8,C,y)],by rw[ZI];exact F8,by rw[Yd F4];exact sA _ _<|D.sb _ _ G2<|lc.sb _ _ G2 T,by rw[ZI,ehs,take_snoc R5];rfl,λh hm=>?_,max 1<|L-R,_,_,_,_,_,_,_,by omega,by omega,by rw[<-em];rfl⟩;rcases ZV.mp hm with m|m
   .exact hok h m
   .rw [ZO.mp m]
    rw[jJ]at pk;exact pk.hd R8 (by omega) (by omega) ym
 .rintro U e ⟨hs,lb,T,ehs,hok,L,z4,z5,z6,z7,z8,z9,S,L1,L40,rfl⟩
  rw[ZA,vj]at ehs;have lh:=congrArg List.length ehs;rw[ZA]at lh;obtain⟨z0,R3,I3,_⟩:=lb.zs;exact q l z0 hs e lb.sb lb.pn lb.fl R3 I3 (by omega) (by omega) (by rw[ehs];exact wn) hok
end
end K4
namespace L2
open PySem
def tot(c:kM)(hs:List Hd):Nat:=(hs.map λh=>Vs c h.2.1).sum
def Nj(c:kM)(Z:List Hd)(h:Hd):tot c (Z++[h])=tot c Z+Vs c h.2.1:=by unfold tot;rw[ZI,jY];simp
def Cov(fl:kL)(hs:List Hd):Prop:=∀(j:Nat)(k:Str×Shp)(h:Hd),fl[j]?=some k->hs[j]?=some h->h.2.2=k.1
def Cov.snoc(c:Cov fl J)(e:∀k,fl[J.length]?=some k->h.2.2=k.1):Cov fl (J++[h]):=λj k g G Z=>by
 by_cases hj:j<J.length
 .rw [yk hj]at Z
  exact c j k g G Z
 .rw [yp (by omega)]at Z
  have L:j-J.length=0:=by
   have:=(ZE.mp Z).1;rw[yn]at this;omega
  rw[L]at Z;cases Z;exact e k (by rw[show J.length=j by omega];exact G)
def Cov.all(c:Cov fl Z)(l:fl.length<=Z.length)(m:y∈fl.map (·.1)):∃h∈Z,h.2.2=y:=by
 obtain⟨k,G,rfl⟩:=ZU.mp m;obtain⟨j,J⟩:=yh.mp G;have L:=(ZE.mp J).1;have e:Z[j]?=some (Z[j]'(by omega)):=ZC _;exact⟨_,ZH e,c j k _ J e⟩
end L2
namespace K4
open PySem L2
section
def Uw{v:V}(p Z:Addr)(many:Nat)(e:v=.int (many:Nat))(G:Pen K Z H p)(M:0<many)(L:many<1000)(q:∀(r:Nat)(J:Hp),r<many->But p H J->Pen K Z J p->Q (.int (r:Nat)) J):Om K H Q [.ref p,v]:=by
 subst e;exact⟨p,Z,many,G,M,L,q⟩
def Jh:Yn ["_law_pen","_law_flat_here","_law_many","_law_left","_law_found","_law_name","_law_stands","_law_parameters","_law_word","_law_kind","_law_shape","_law_own"] ["_law_pen","_law_flat_here"] (Yc Ls):=Y7
inductive Q5(K:W.Frag)(H:Hp)(Q:VK):List V->Prop
 |mk (p sa:Addr) (v:V) (fl:List (Str×Shp)) (c:Str->Nat) (pn:Pen K sa H p) (hv:Has H v (.lst (fl.map Vx))) (ok:Iw fl c)
  (q:∀(l:Addr)(xs:List V)(hs:List Hd)(H':Hp),SameB p H H'->Pen K sa H' p->H l=none->H' l=some (.lst xs)->HasL H' xs (hs.map hdT)->fl.length<=hs.length->hs.length<=6->Wds 97 (hs.map (·.1))->(∀h∈hs,Ur (fl.map (·.1)) c 24 h)->tot c hs<=24->Cov fl hs->Q (.ref l) H'):Q5 K H Q [.ref p,v]
def Br(K:W.Frag):Sp:=λZ H Q _=>Q5 K H Q Z
def Pq(B:Blt mg)(F:Fun K "_law_row_heads" "_law_row_heads" Ls f fd)(DN:Df P w K mg base n "_law_next" pnm (Jx K))(DW:Df P w K mg base n "_law_small_words" pnm (Uv K)):Yh P w K mg base CX0 (n+1) f fd ["_law_pen","_law_flat_here"] (Br K):=by
 refine F.oi Jh λcdv A I3 s H vs Q E hr h=>?_;obtain⟨p,sa,v,o,c,pn,hv,ok,q⟩:=h;refine⟨_,YW (Yk 2 Jh.nd<|Y1 Vr (Yr Yl rfl B.len Zs (pa1<|pv 1))<|Yx DN hr<|pa2 (pv 0)<|Y1 UV YX<|Yr Yl rfl B.len Zs (pa1<|pv 1))
  (YW (Yk 3 Jh.nd YX)
  (YW (Yk 4 Jh.nd<|Vv Vd)
  (YW (Vq Zt rfl (VF<|Yx DW hr<|pa2 (pv 0)<|pv 2) (Yb 5 Jh.nd)
   (YW (Yk 3 Jh.nd<|Y1 UV (pv 3) YX)
   (YW (Yk 6 Jh.nd YX)
   (YW (Yk 7 Jh.nd<|Vv Vd)
   (YW (Vq Zt rfl (VF<|Vt Xt (Yx DW hr<|pa2 (pv 0) YX) JD<|V4<|Yx DN hr<|pa2 (pv 0) YX) (Yb 8 Jh.nd)
    (YW (V5 (Ym Y3 (pv 1) (Yx DN hr<|pa2 (pv 0)<|Yr Yl rfl B.len Zs (pa1<|pv 1)) λ_ _=>rfl)<|VO (n:=2) rfl (Yi (Yb 9 Jh.nd)<|Yi (Yb 10 Jh.nd) VC))
    (YZ (Y4 (Yq Gc (Y1 UV (Y1 JV (pv 6)<|Y1 Vr YX<|Yr Yl rfl B.len Zs (pa1<|Ym Yp (pv 10) YX))<|pv 6) (Y1 UV (pv 3)<|Y1 UV (Y1 UV (pv 2)<|Yr Yl rfl B.len Zs (pa1<|pv 4)) YX)<|Yy _)
     (YW (Yk 3 Jh.nd<|Y1 UV (pv 3)<|Y1 JV (pv 6)<|Yr Yl rfl B.len Zs (pa1<|Ym Yp (pv 10) YX))
     (YW (Yk 6 Jh.nd<|Y1 JV (pv 6)<|Y1 Vr YX<|Yr Yl rfl B.len Zs (pa1<|Ym Yp (pv 10) YX))
     (YZ<|Ve<|Ui Zx Zy Zz V2 (pv 7)<|pa1<|Y0<|pa2 (pv 8)<|pv 9))) Ys))))
   (YW (Yk 11 Jh.nd<|Ym Yp (Ym Y3 (pv 1) (Yx DN hr<|pa2 (pv 0)<|Yr Yl rfl B.len Zs (pa1<|pv 1)) λ_ _=>rfl) YX)
   (YW (Y4 (Yq RJ (Yr Yl rfl B.len Zs (pa1<|pv 4)) (Yr Yl rfl B.len Zs (pa1<|pv 1))<|Yy _) (YZ<|Yk 11 Jh.nd<|Ym Yp (Ym Y3 (pv 1) (Yr Yl rfl B.len Zs (pa1<|pv 4)) λ_ _=>rfl) YX) Ys)
   (YZ<|Ve<|Ui Zx Zy Zz V2 (pv 4)<|pa1<|Y0<|pa3 (pv 5) (VB VH rfl B.tuple VY (pa1<|pv 7))<|pv 11))))))))
  (YZ<|Yo<|pv 4)))),?_⟩
 dsimp only[Vi,Cx.nox,Cx.wish];show let T0:=_;let T1:=_;let T2:=_;let T3:=Yg (VJ _ T2 _) T1;let T4:=Yg _ T3;let T5:=_;let T6:=Yg _ T5;let T7:=Yg _ T6;let T8:=VJ _ T7 _;let T9:=Yg _ T8;let T10:=Yg (Jt _ _ T9) T4;let T11:=Yg _ T10;let T12:=Yg _ T11;let T13:=Yg _ T12;let T14:=Yg (Jt _ _ T13) T0;let T15:=Yg _ T14;let T16:=Yg _ T15;Yg _ T16 _ _ _
 intros
 obtain⟨la,xf,rfl,J2,M2⟩:=VR hv;have T:=Y2 JW o;have I8:=M2.length;rw[ZA]at I8;have f0:=ok.f0;have f3:=ok.f3;have S:=pn.lst J2 M2<|Dat.nis_of T;exists la,_,Y,.inl<|Z1 J2,la,_,rfl,.inl<|Z1 J2;refine Uw p sa (7-xf.length) (by show V.int (7-(xf.length:Int))=_;congr 1;omega) pn (by omega) (by omega) λrM H0 rM7 b0 G1=>?_;have F5:=Vo b0.sb pn _ (Dat.nis_of T) M2;have D3:=b0.sb _ _ S J2;dsimp only[Vp];refine X7 ?_;refine⟨sl 0,λl hl=>?_⟩;have C:=Lb.new G1 hl;generalize upd H0 l (.lst [])=H1 at C |-;refine⟨p,sa,xf.length+rM,C.pn,by omega,λnm ys H3 I2 s3 F7 u lys wn=>?_⟩;have R5:nm≠p:=C.pn.ne F7;have lb3:=C.mv I2 s3;obtain⟨z3,hz3,_⟩:=C.zs;have I6:nm≠l:=(Yj hz3 F7).symm;exists ⟨_,Z1 u⟩
 let I:kH:=λi U Hi=>∃D:List Hd,Lb K sa H0 p l (D.map hdT) Hi/\Hi nm=some (.lst<|ys.map V.str)/\D.map (·.1)=ys.take i/\(∀h∈D,Ur (o.map (·.1)) c 24 h)/\Cov o D/\∃(L:Nat)(z5 z6 z7 z8 z9 G Z8:kJ),L+tot c D=24/\xf.length+rM<=L+i/\U=[some (.ref p),some<|.ref la,some<|.int<|(xf.length:Int)+(rM:Int),some<|.int (L:Nat),some<|.ref l,z5,z6,z7,z8,z9,G,Z8]
 refine UK (xs:=ys.map V.str) I ⟨[],lb3,u,Y,(λh m=>nomatch m),(λj k h _ e=>by simp at e),24,_,_,_,_,_,_,_,Y,by omega,Y⟩ (λi U Hi _ z=>let⟨_,_,h,_⟩:=z;Z1 h) ?_ ?_
 .rintro BB RR i x U Hi hx ⟨D,lb,u,ehs,hok,cov,L,z5,z6,z7,z8,z9,G,Z8,L24,LM,rfl⟩
  obtain⟨Z9,J5,rfl⟩:=WL hx;have il:=(ZE.mp J5).1;have lh:=congrArg List.length ehs;rw[ZA,ZL]at lh;have lhi:D.length=i:=by omega
  dsimp only[Vp];refine X7 ?_;refine⟨sl 0,λl5 hl5=>?_⟩;have J1:=Lb.new lb.pn hl5;generalize upd Hi l5 (.lst [])=H4 at J1 |-;refine⟨p,sa,3,J1.pn,by decide,λwl wy H5 I1 s5 fwl hwl lwy I0=>?_⟩;refine⟨p,sa,4,s5,by decide,by decide,λkn H6 k4 b6 s6=>?_⟩;refine⟨_,Y,wl,_,Y,Z1<|b6.sb _ _ (J1.pn.ne fwl) hwl,λw2 R1=>?_⟩;rw[Wh _ _ (by rw[ZA];omega),<-vd];have R8:=(J1.mv I1 s5).mv b6.sb s6;obtain⟨z6',hz6,_⟩:=R8.zs;have I4:w2≠l5:=(Yj hz6 R1).symm;have I5:w2≠p:=s6.ne R1;refine up_in R1 _ λH7 s7 g7=>?_;have S2:=R8.sm s7;exists ⟨_,Z1 g7⟩
  let J:kH:=λj U Hj=>∃ps:List (Str×Str),Lb K sa Hi p l5 (ps.map prD) Hj/\Hj w2=some (.lst<|(wy.take kn).map V.str)/\∃(R M:Nat)(z8 z9 G:kJ),Rm o c ((wy.take kn).take j) ps R/\M+R+tot c D=24/\xf.length+rM<=M+i+1/\U=[some (.ref p),some<|.ref la,some<|.int<|(xf.length:Int)+(rM:Int),some<|.int (M:Nat),some<|.ref l,some<|.str Z9,some<|.int (R:Nat),some<|.ref l5,z8,z9,G,Z8]
  have eL:((L:Nat):Int)-1=((L-1:Nat):Int):=by omega
  refine UK (xs:=(wy.take kn).map V.str) J ⟨[],S2,g7,1,L-1,_,_,_,⟨List.nil_sublist _,(λp m=>nomatch m),Y⟩,by omega,by omega,by rw[<-eL];rfl⟩ (λi U Hi _ z=>let⟨_,_,h,_⟩:=z;Z1 h) ?_ ?_
  .rintro BB RR j x U Hj hx ⟨ps,lc,hw,R,M,z8,z9,G,pk,M24,MM,rfl⟩
   obtain⟨wd,N2,rfl⟩:=WL hx;have jl:=(ZE.mp N2).1;rw[ZL]at jl;have J4:=lb.sb.trans lc.sb;have L1:=Vo J4 G1 _ (Dat.nis_of T) F5;have X:=J4 _ _ S D3;refine⟨la,_,Y,.inl<|Z1 X,p,sa,_,lc.pn,by omega,by omega,λr H8 r8 b8 s8=>?_⟩;obtain⟨y,ts,a,b,t,hy,ea,ha,hb,ht,cy,t1,t4⟩:=RY ok (VU (lc.pn.tk b8.sb) _ T L1) (show r<o.length by omega);have ym:y∈o.map (·.1):=ZU.mpr ⟨_,ZH hy,rfl⟩;have lt:(ts.map V.str).length=ts.length:=ZA _;refine⟨_,_,Z1<|b8.sb _ _ S X,ea,⟨_,Z0 ha,rfl,?_⟩⟩;have O:=lc.mv b8.sb s8;have F6:=b8.sb _ _ I5 hw;obtain⟨zl,hzl,F1,_⟩:=(lb.mv O.sb s8).zs;have I7:=F1.length;rw[ZA]at I7;have R7:((R:Nat):Int)*(1+(((ts.map V.str).length:Nat):Int))=((R*c y:Nat):Int):=by rw[lt,cy,ja];rfl
   have R6:((R:Nat):Int)*(((ts.map V.str).length:Nat):Int)=((R*ts.length:Nat):Int):=by rw[lt,ja]
   have ec:R*c y=R+R*ts.length:=by rw[cy,Nat.mul_add,Nat.mul_one]
   have mle:=jj (show R<=24 by omega) (show c y<=5 by omega);exists _,_,Z0 hb,Y,t,_,Y,.inr<|Z0 ht,.inl ⟨by omega,by omega⟩,l,_,rfl,.inl<|Z1 hzl,_,rfl;refine UJ (λc1=>?_) λ_=>⟨ps,O,F6,R,M,_,_,_,by rw[take_snoc N2];exact pk.up,M24,MM,Y⟩;have F9:=Zr c1;rw[R7]at F9;refine⟨_,_,Z0 hb,Y,t,_,Y,.inr<|Z0 ht,.inl ⟨by omega,by omega⟩,?_⟩;refine⟨_,_,Z0 hb,Y,t,_,Y,.inr<|Z0 ht,.inl ⟨by omega,by omega⟩,?_⟩;obtain⟨R3,Z,g,_⟩:=O.zs;refine⟨.inl ⟨Y,_,Z1 Z⟩,sl 2,λt9 ht9=>?_⟩;refine up_in ht9 _ λH9 s9 g9=>?_
   have lp:ps.length<=3:=by
    have:=pk.sub.length_le;rw[ZA,ZL,ZL]at this;omega
   have ln:=g.length;rw[ZA]at ln;refine⟨l5,_,_,Y,Y,s9 _ _ Z,Yt<|by omega,?_⟩;have I9:=(O.sm s9).ap (d:=prD (wd,y)) (s9 _ _ Z) (Yu g9<|Z2 Yv<|Z3 Yv)<|UB _;have eM:((M:Nat):Int)-((R:Nat):Int)*(((ts.map V.str).length:Nat):Int)=((M-R*ts.length:Nat):Int):=by rw[R6];omega
   exact⟨ps++[(wd,y)],by rw[ZI];exact I9,by rw[Yd I4];exact s9 _ _ F6,R*c y,M-R*ts.length,_,_,_,by rw[take_snoc N2];exact pk.snoc ym,by omega,by omega,by rw[<-R7,<-eM];rfl⟩
  .rintro U Hj ⟨ps,lc,hw,R,M,z8,z9,G,pk,M24,MM,rfl⟩
   have G2:=lb.mv lc.sb lc.pn;have L1:=Vo G2.sb G1 _ (Dat.nis_of T) F5;have X:=G2.sb _ _ S D3;refine⟨la,_,Y,.inl<|Z1 X,p,sa,_,lc.pn,by omega,by omega,λr H8 r8 b8 s8=>?_⟩;have F4:=VU (lc.pn.tk b8.sb) _ T L1;obtain⟨y,ts,a,b,t,hy,ea,ha,hb,ht,cy,t1,t4⟩:=RY ok F4 (show r<o.length by omega);have ym:y∈o.map (·.1):=ZU.mpr ⟨_,ZH hy,rfl⟩;have G3:=b8.sb _ _ S X;exists _,_,Z1 G3,ea,_,_,Z0 ha,Y;have D0:=G2.mv b8.sb s8;have O:=lc.mv b8.sb s8;obtain⟨R3,Z,g,_⟩:=D0.zs;obtain⟨zc,hzc,F2,_⟩:=O.zs;have ln:=g.length;rw[ZA]at ln;dsimp only[Vp];refine Vl (λU' H'=>H'=H8/\∃y,y∈o.map (·.1)/\(∀k,o[D.length]?=some k->y=k.1)/\U'=[some (.ref p),some<|.ref la,some<|.int<|(xf.length:Int)+(rM:Int),some<|.int (M:Nat),some<|.ref l,some<|.str Z9,some<|.int (R:Nat),some<|.ref l5,z8,z9,G,some (.str y)]) ?_ ?_
   .rintro U' H' ⟨rfl,y,ym,yc,rfl⟩
    refine⟨.inl ⟨Y,_,Z1 Z⟩,l5,_,Y,.inl ⟨Z1 hzc,λt1 ht1=>?_⟩⟩;refine up_in ht1 _ λH9 s9 g9=>?_;refine⟨sl 3,λt2 ht2=>?_⟩;refine up_in ht2 _ λH10 R4 g10=>?_;have sA:=s9.trans R4;refine⟨l,_,_,Y,Y,sA _ _ Z,Yt<|by omega,?_⟩;have C2:=(D0.sm sA).ap (d:=hdT (Z9,ps,y)) (sA _ _ Z) (Yu g10<|Z2 Yv<|Z2 (Yu (R4 _ _ g9)<|F2.mono sA)<|Z3 Yv)<|Jr _;refine⟨D++[(Z9,ps,y)],by rw[ZI];exact C2,by rw[Yd I6];exact sA _ _<|b8.sb _ _ R5<|lc.sb _ _ R5 u,by rw[ZI,ehs,take_snoc J5];rfl,λh hm=>?_,cov.snoc yc,M,_,_,_,_,_,_,_,by rw[Nj];have:=pk.row;omega,by omega,Y⟩;rcases ZV.mp hm with m|m
    .exact hok h m
    .rw [ZO.mp m]
     rw[jJ]at pk;exact pk.hd I0 (by omega) (by omega) ym
   .intro N key
    exists l,_,Y,.inl<|Z1 Z,la,_,rfl,.inl<|Z1 G3,_,rfl;refine UJ (λc1=>?_) λc1=>key _ _ ⟨Y,y,ym,λk hk=>?_,Y⟩
    .have F9:=Zr c1
     obtain⟨y2,ts2,a2,b2,t2,F3,F8,ha2,_⟩:=RY ok F4 (show D.length<o.length by omega);rw[<-ln]at F8;exact⟨l,_,Y,.inl<|Z1 Z,_,_,Z1 G3,F8,_,_,Z0 ha2,rfl,key _ _ ⟨rfl,y2,ZU.mpr ⟨_,ZH F3,rfl⟩,λk hk=>by rw[F3]at hk;cases hk;rfl,rfl⟩⟩
    .have:=(ZE.mp hk).1
     exact Zp (decide_eq_true (show((R3.length:Nat):Int)<((xf.length:Nat):Int) by omega)) c1
 .rintro U Hi ⟨D,lb,u,ehs,hok,cov,L,z5,z6,z7,z8,z9,G,Z8,L24,LM,rfl⟩
  rw[ZA,vj]at ehs;have lh:=congrArg List.length ehs;rw[ZA]at lh;obtain⟨z0,hz0,hz1,_⟩:=lb.zs;exact q l z0 D Hi (b0.sb.trans lb.sb) lb.pn (b0.sb.free lb.np lb.fl) hz0 hz1 (by omega) (by omega) (by rw[ehs];exact wn) hok (by omega) cov
end
end K4
namespace L2
open PySem
mutual
def Bd.nl:Bd->Prop
 |.tag _=>True
 |.name _=>True
 |.pair a b=>a.nl/\b.nl
 |.one e=>e.nl
 |.other e=>e.nl
 |.choose e _ bs=>e.nl/\Bd.nls bs
 |.ask _ as=>Bd.nls as
 |.letb _ _ _ _=>False
def Bd.nls:List Bd->Prop
 |[]=>True
 |b::bs=>b.nl/\Bd.nls bs
end
theorem Bd.nls_iff:∀{bs:List Bd},Bd.nls bs↔∀b∈bs,b.nl
 |[]=>⟨λ_ b h=>(nomatch h),λ_=>by unfold Bd.nls;trivial⟩
 |b::bs=>by
  unfold Bd.nls;rw[Bd.nls_iff (bs:=bs)];exact⟨λh c m=>(Zb.mp m).elim (λe=>e ▸ h.1)<|h.2 c,λh=>⟨h b ZY,λc m=>h c<|ZK _ m⟩⟩
theorem Bd.oks_iff:∀{bs:List Bd},Bd.oks bs↔∀b∈bs,b.ok
 |[]=>⟨λ_ b h=>(nomatch h),λ_=>by unfold Bd.oks;trivial⟩
 |b::bs=>by
  unfold Bd.oks;rw[Bd.oks_iff (bs:=bs)];exact⟨λh c m=>(Zb.mp m).elim (λe=>e ▸ h.1)<|h.2 c,λh=>⟨h b ZY,λc m=>h c<|ZK _ m⟩⟩
theorem Bd.deps_lt:∀{bs:List Bd},0<n->(∀b∈bs,b.dep<n)->Bd.deps bs<n
 |[],h,_=>by unfold Bd.deps;exact h
 |b::bs,h,k=>by
  unfold Bd.deps;exact Nat.max_lt.mpr ⟨k b ZY,Bd.deps_lt h λc m=>k c<|ZK _ m⟩
structure Sd(ks:List (Str×Shp))(hd:Hds)(kv:List (Key×V))(y:Str)(n:Nat)(b:Bd):Prop where
 kd:Kd ks hd kv y b
 ok:b.ok
 dep:b.dep<n
 nl:b.nl
structure SWd(H:Hp)(wv av:V)(ks fl:List (Str×Shp))(hs:List Hd)(ps:List (Str×Str))(c:Str->Nat):Prop where
 hw:Has H wv (.tup [.lst (fl.map Vx),.lst (hs.map hdT)])
 ha:Has H av (.lst (ps.map prD))
 ok:Iw fl c
 sk:∀y s,(y,s)∈fl->VS ks y=some s
 nh:(hs.map (·.1)).Nodup
 h8:hs.length<=8
 ho:∀h∈hs,h.2.1.length<=3/\∀p∈h.2.1,p.2∈fl.map (·.1)
 np:(ps.map (·.1)).Nodup
 p3:ps.length<=3
def NZ(J:kL)(Z:List Hd):(Dat.tup [.lst (J.map Vx),.lst (Z.map hdT)]).ni=true:=by
 simp[Dat.ni,Dat.nis,Dat.nis_of<|Y2 JW J,Dat.nis_of (Y2 Jr Z)]
def SWd.pn(w:SWd H wv av L fl G Z c)(s:SameB p H M)(J:Pen K sa H p):SWd M wv av L fl G Z c:=
 {w with hw:=VV s J _ (NZ fl G) w.hw,ha:=VV s J _ (UW<|Y2 UB Z) w.ha}
def SWd.at(w:SWd H wv av y fl B j c):∃G M L J Z,wv=.ref G/\H G=some (.tup [.ref M,.ref L])/\H M=some (.lst J)/\HasL H J (fl.map Vx)/\H L=some (.lst Z)/\HasL H Z (B.map hdT):=by
 obtain⟨G,U,rfl,A,F⟩:=Yz w.hw;obtain⟨X,Q,rfl,S,E⟩:=Yf F;obtain⟨C,P,rfl,I,D⟩:=Yf E;obtain rfl:=VP D;obtain⟨M,J,rfl,T,R⟩:=VR S;obtain⟨L,Z,rfl,O,N⟩:=VR I;exact⟨G,M,L,J,Z,Y,A,T,R,O,N⟩
def Xo(h:Has H v (prD p)):∃t,v=.ref t/\H t=some (.tup [.str p.1,.str p.2]):=X2 h
def XS(h:Has H v (hdT x)):∃t u Z,v=.ref t/\H t=some (.tup [.str x.1,.ref u,.str x.2.2])/\H u=some (.tup Z)/\HasL H Z (x.2.1.map prD):=by
 unfold hdT at h;obtain⟨t,E,rfl,O,R⟩:=Yz h;obtain⟨I,C,rfl,D,L⟩:=Yf R;obtain⟨A,U,rfl,B,G⟩:=Yf L;obtain⟨F,S,rfl,T,J⟩:=Yf G;obtain rfl:=VP J;obtain rfl:=has_str D;obtain rfl:=has_str T;obtain⟨u,Z,rfl,N,M⟩:=Yz B;exact⟨t,u,Z,Y,O,N,M⟩
theorem Uc:∀{ns:kq}{Z:kF},HasL H Z (ns.map Dat.str)->Z=ns.map V.str
 |[],Z,h=>VP h
 |n::ns,Z,h=>by
  obtain⟨x,r,rfl,G,J⟩:=Yf h;rw[has_str G,Uc J];rfl
def Aa{Z:List (Str×Str)}(G:(Z.map (·.1)).Nodup)(m:p∈Z):VI (kvP Z) (Sum.inr p.1)=some (.str p.2):=by
 have J:((kvP Z).map (·.1)).Nodup:=by
  unfold kvP;rw[yg];unfold List.Nodup at G |-;rw[vV]at G |-;exact G.imp λL q=>L<|Sum.inr.inj q
 exact Gu J (kv:=(Sum.inr p.1,V.str p.2))<|ZU.mpr ⟨p,m,rfl⟩
def IU(J:List Hd)(l:J.length<=900)(h:∀h∈J,h.2.1.length<=3):(Dat.lst<|J.map hdT).dep<=4:=
 (OS (m:=3) (λd Z=>by
  obtain⟨x,G,rfl⟩:=ZU.mp Z;unfold hdT;refine UX (m:=2) (λd Z=>?_) (by show 3<=1000;decide);simp only[Zb,vP,or_false]at Z;rcases Z with rfl|rfl|rfl
  .exact (Jf _).up (by decide)
  .rw [M5]
   refine UX (m:=1) (λd Z=>?_) (by rw[ZA];have:=h x G;omega);obtain⟨p,_,rfl⟩:=ZU.mp Z;exact NO (Jf _)<|Jf _
  .exact (Jf _).up (by decide)) (by rw[ZA];omega)).1
def brF(x:Str×Bd):Dat:=.tup [.str x.1,x.2.dat]
def A3(x:Str×Bd):(brF x).st=true:=by simp[brF,Dat.st,Dat.sts,Bd.st]
theorem Of:∀Z:List (Str×Bd),Z.map brF=Bd.brs (Z.map (·.2)) (Z.map (·.1))
 |[]=>by unfold List.map Bd.brs;rfl
 |z::Z=>by rw[ZT,Of Z,ZT,ZT];(conv=>rhs;unfold Bd.brs);rfl
def BW{α:Type}{E:Str->α->Prop}{Z:kq}{J:List (Str×α)}(h:Each (λt z=>z.1=t/\E t z.2) Z J):J.map (·.1)=Z:=by
 refine vU λi=>?_;rw[ZG]
 cases e:J[i]? with
 |none=>
  have:=yo.mp e;rw[h.1]at this;rw[yo.mpr this];rfl
 |some z=>
  have L:i<Z.length:=by rw[<-h.1];exact(ZE.mp e).1
  have G:Z[i]?=some Z[i]:=ZC L;rw[G];exact congrArg some (h.2 i _ z G e).1
def half_lt{r s n:Nat}(h:r+1<2 ^ (n+1))(J:2*s<=r-1)(Z:1<=r):s+1<2 ^ n:=by
 rw[Nat.pow_succ]at h;omega
def OX(a b:Nat)(h:2<=b):2*(a / b)<=a:=by
 have J:=Nat.div_mul_le_self a b;have Z:=Nat.mul_le_mul_left (a / b) h;rw[Nat.mul_comm]at Z;rw[Nat.mul_comm (a / b) b]at J;omega
end L2
namespace K4
open PySem L2
section
abbrev dps:kq:=["_law_pen","_law_world_here","_law_around","_law_kind","_law_room"]
def UR:Yn ["_law_pen","_law_world_here","_law_around","_law_kind","_law_room","_law_way","_law_here","_law_other","_law_shape","_law_share","_law_first","_law_asked","_law_head","_law_tags"] dps (Yc E1):=Y7
def Lm:List.Nodup [("_law_name":Str),"_law_own","_law_kind"]:=by decide +kernel
def Qw:List.Nodup [("_law_head":Str),"_law_kind"]:=by decide +kernel
def Cz:List.Nodup [("_law_tag":Str),"_law_pen","_law_world_here","_law_around","_law_kind","_law_share"]:=by decide +kernel
def Qv:List.Nodup [("_law_name":Str),"_law_own","_law_pen","_law_world_here","_law_around","_law_share"]:=by decide +kernel
inductive Q4(K:W.Frag)(n:Nat)(H:Hp)(Q:VK):List V->Prop
 |mk (p sa:Addr) (wv av:V) (y:Str) (r:Nat) (ks fl:List (Str×Shp)) (hs:List Hd) (ps:List (Str×Str)) (c:Str->Nat) (pn:Pen K sa H p) (sw:SWd H wv av ks fl hs ps c) (ym:y∈fl.map (·.1)) (rn:r+1<2 ^ n) (r3:r<=30)
  (q:∀u b H',SameB p H H'->Pen K sa H' p->Has H' u b.dat->Sd ks (Y5 hs) (kvP ps) y n b->Q u H'):Q4 K n H Q [.ref p,wv,av,.str y,.int (r:Nat)]
def Xd(K:W.Frag)(n:Nat):Sp:=λZ H Q _=>Q4 K n H Q Z
def Pp(B:Blt mg)(F:Fun K "_law_said" "_law_said" E1 f fd)(DN:Df P w K mg base (L+5) "_law_next" pnm (Jx K))(DT:Df P w K mg base (L+5) "_law_tags_of" ["_law_kinds_here","_law_kind"] UQ)(G:Yh P w K mg base CX0 (L+5) f fd dps (Xd K n))(bG:Binds K fd dps [])(mG:mg "_law_said"=some (.ref f)):Yh P w K mg base CX0 (L+5+1) f fd dps (Xd K<|n+1):=by
 have DG:Df P w K mg base (L+5) "_law_said" dps (Xd K n):=⟨f,fd,mG,F.kp,bG,G⟩;refine F.oi UR λcdv A outer s H vs Q E hr h=>?_;obtain⟨p,sa,wv,av,y,r,ks,fl,hs,ps,c,pn,I,ym,rn,r3,q⟩:=h;have hr5:Vj (4+1) _:=hr.mono (show 5<=L+5 by omega);refine⟨_,YW (Yk 5 UR.nd<|Yx DN hr<|pa2 (pv 0) YX)
  (YW (G5 (i0:=6) ["_law_name","_law_own"] [3] UR.nd rfl (Or.inl rfl) (VF<|pv 2) UE (λcl C fp s H=>VO (n:=2) rfl (Yi (Yb 0 Lm rfl (Or.inl rfl) (Or.inr rfl))<|Yi (Yb 1 Lm rfl (Or.inl rfl) (Or.inr rfl)) VC))
   (λcl C fp s H=>Yq JK (pv 1) (pv 2)<|Yy _) (λcl C fp s H=>pv 0))
  (YW (Y4 (PW.pt<|XG (Yq RJ (pv 5) YX<|Yy _)<|UH<|Yq (Xg hr5) (pv 6) (Vv Vd)<|Yy _)
   (YZ<|Yo<|Y0<|pa2 VA<|Ym Y3 (pv 6) (Yx DN hr<|pa2 (pv 0)<|Yr Yl rfl B.len Zs (pa1<|pv 6)) λ_ _=>rfl) Ys)
  (YW (V5 (Ym Y3 (Ym Yp (pv 1) YX) (Yx DN hr<|pa2 (pv 0)<|Yr Yl rfl B.len Zs (pa1<|Ym Yp (pv 1) YX)) λ_ _=>rfl)<|VO (n:=2) rfl (Yi (Yb 7 UR.nd)<|Yi (Yb 8 UR.nd) VC))
  (YW (Y4 (PW.pt<|XG (RC RJ RJ YX (pv 5) YX)<|UH<|Yq Uz (pv 4) (Y1 Vr YX<|Yr Yl rfl B.len Zs (pa1<|Ym Yp (pv 8) YX))<|Yy _)
   (YW (Yk 9 UR.nd (Y1 G8 (Y1 UV (pv 4) YX)<|Y1 Vr YX<|Yr Yl rfl B.len Zs (pa1<|Ym Yp (pv 8) YX)) (by exact Y)<|Or.inr rfl)
   (YW (Yk 10 UR.nd<|Yx DG hr<|pa5 (pv 0) (pv 1) (pv 2) (pv 7)<|pv 9)
   (YZ (Yo (Y0 (pa3 VA (pv 10) (VB VH rfl B.tuple VY (pa1 (VL ["_law_tag"] [0,1,2,3,9] (V9<|Ym Yp (pv 8) YX) (VM (i:=0)<|by decide) (λcl C fp s H=>Yb 0 Cz rfl (Or.inl rfl) (Or.inr rfl))
    (λcl C fp s H=>Y0<|pa2 (pv 0)<|Yx DG hr<|pa5 (pv 1) (pv 2) (pv 3) (pv 4)<|pv 5)))))))))) Ys)
  (YW (G5 (i0:=11) ["_law_head"] [3] UR.nd rfl (Or.inl rfl) (VF<|Ym Yp (pv 1) YX) (VM (i:=0)<|by decide) (λcl C fp s H=>Yb 0 Qw rfl (Or.inl rfl) (Or.inr rfl))
   (λcl C fp s H=>Yq JK (Ym (r:=UG K) Yp (pv 0) YX) (pv 1)<|Yy _) (λcl C fp s H=>pv 0))
  (YW (Y4 (PW.pt<|XG (Yq Uz (pv 5) YX<|Yy _)<|UH<|Yq (Xg hr5) (pv 11) (Vv Vd)<|Yy _)
   (YW (Yk 12 UR.nd<|Ym Y3 (pv 11) (Yx DN hr<|pa2 (pv 0)<|Yr Yl rfl B.len Zs (pa1<|pv 11)) λ_ _=>rfl)
   (YZ (Y4 (Yq Uz (pv 4) (Y1 JV YX<|Yr Yl rfl B.len Zs (pa1<|Ym Yp (pv 12) YX))<|Yy _)
    (YW (Yk 9 UR.nd (Y1 G8 (Y1 UV (pv 4) YX)<|Yr (GO rfl) rfl B.max GQ (pa2 YX<|Yr Yl rfl B.len Zs (pa1<|Ym Yp (pv 12) YX))) (by exact Y)<|Or.inr rfl)
    (YZ (Yo (Y0 (pa3 VA (Ym Yp (pv 12) YX) (VB VH rfl B.tuple VY (pa1 (VL ["_law_name","_law_own"] [0,1,2,9] (V9<|Ym Yp (pv 12) YX) UE (λcl C fp s H=>VO (n:=2) rfl (Yi (Yb 0 Qv rfl (Or.inl rfl) (Or.inr rfl))<|Yi (Yb 1 Qv rfl (Or.inl rfl) (Or.inr rfl)) VC))
     (λcl C fp s H=>Yx DG hr<|pa5 (pv 2) (pv 3) (pv 4) (pv 1)<|pv 5))))))))) Ys))) Ys)
  (YW (Yk 13 UR.nd<|Yx DT hr<|pa2 (Ym Yp (pv 1) YX)<|pv 3)
  (YZ<|Yo<|Y0<|pa2 VA<|Ym Yp (pv 13) (Yx DN hr<|pa2 (pv 0)<|Yr Yl rfl B.len Zs (pa1<|pv 13)) λ_ _=>rfl)))))))),?_⟩
 dsimp only[Vi,Cx.nox,Cx.wish];show let T0:=_;let T1:=Yg _ T0;let T2:=_;let T3:=Yg _ T2;let T4:=VJ _ T3 _;let T5:=Yg _ T4;let T6:=Yg (VJ _ T5 _) T1;let T7:=Yg _ T6;let T8:=_;let T9:=Yg _ T8;let T10:=Yg _ T9;let T11:=Yg (VJ _ T10 _) T7;let T12:=Yg _ T11;let T13:=_;let T14:=Yg (VJ _ T13 _) T12;let T15:=Yg _ T14;Yg _ T15 _ _ _
 intros
 refine⟨p,sa,9,pn,by decide,by decide,λR4 H1 w9 b1 I7=>?_⟩;have sw1:=I.pn b1.sb pn;obtain⟨aa,xa,rfl,haa,hxa⟩:=VR sw1.ha;exists ⟨_,Z1 haa⟩;refine UY (E:=λp=>.str p.1) (λp=>decide<|p.2=y) (itl<|Z1 haa) hxa (by have:=I.p3;omega) (λu x R hm hu rT rF=>?_) λvs hl H2 fh s2 hhl l=>?_
 .obtain ⟨t,rfl,ht⟩:=Xo hu
  exact⟨_,Z0 ht,Y,Y,_,Y,UJ (λc=>rT _ (decide_eq_true<|V.str.inj<|Zr c) Yv) λc=>rF<|Zw λe=>c<|decide_eq_true<|congrArg V.str e⟩
 obtain⟨ns,rfl,hns,lns⟩:∃ns:kq,vs=ns.map V.str/\(∀z∈ns,VI (kvP ps) (Sum.inr z)=some (.str y))/\ns.length<=3:=by
  refine⟨(ps.filter λp=>decide<|p.2=y).map (·.1),Uc (by rw[yg];exact l),λz hz=>?_,by rw[ZA];exact ZZ (j3 _ _) I.p3⟩;obtain⟨pr,hp,rfl⟩:=ZU.mp hz;obtain⟨m1,m2⟩:=yi.mp hp;rw[Aa I.np m1,Zr m2]
 have I6:=I7.same s2;have I2:=b1.sb.trans s2.sb;have nph:hl≠p:=I7.ne fh;dsimp only[Vp];refine Vl (λU' H'=>Same H2 H'/\U'=[some (.ref p),some wv,some<|.ref aa,some<|.str y,some<|.int (r:Nat),some<|.int (R4:Nat),some<|.ref hl,none,none,none,none,none,none,none]) ?_ ?_
 case refine_2=>
  intro N M;refine⟨_,Y,UJ (λc1=>?_) λc1=>Y6 (by simp)<|M _ _ ⟨Z6 _,rfl⟩⟩;refine⟨sl 0,λe1 F6=>?_⟩;refine up_in F6 _ λH3 s3 g3=>?_;have F4:=s3 _ _ hhl;exists .lst<|ns.map Dat.str,.lst [],AZ F4,VD g3 Z4,ZZ (Tc _)<|by decide,_,rfl;rw[LK]
  cases ns with
  |nil=>exact Y6 (by simp)<|M _ _ ⟨s3,rfl⟩
  |cons n1 ns=>
   refine Vf (by simp) ?_;have j:=I6.same s3;refine⟨hl,_,Y,.inl<|Z1 F4,p,sa,_,j,by simp,by rw[ZA];omega,λr4 H4 v b4 T=>?_⟩;rw[ZA]at v;refine⟨_,.str<|(n1::ns)[r4]'(v),Z1<|b4.sb _ _ nph F4,Yw (by rw[ZG,ZC v];rfl),sl 2,λt ht=>?_⟩;have s5:=Ye ht<|.tup [.str "name",.str ((n1::ns)[r4]'(v))];exact q _ (.name _) _ (((I2.trans s3.sb).trans b4.sb).trans s5.sb) (T.same s5) (by unfold Bd.dat;exact Jk Ya) ⟨Kd.name<|hns _<|jn v,by unfold Bd.ok;trivial,by unfold Bd.dep;omega,by unfold Bd.nl;trivial⟩
 rintro U' H3 ⟨s3,rfl⟩;have j:=I6.same s3;have I1:=I2.trans s3.sb;have sw3:=I.pn I1 pn;obtain⟨wa,fa,ha,xf,xh,rfl,G3,F5,R8,hha,R7⟩:=sw3.at;have R6:=Y2 JW fl;have hst:=Y2 Jr hs;have I9:=j.lst F5 R8<|Dat.nis_of R6;have I8:=j.lst hha R7<|Dat.nis_of hst;have lxf:=R8.length;have lxh:=R7.length;rw[ZA]at lxf lxh;have f0:=I.ok.f0;have f3:=I.ok.f3;have h8:=I.h8;refine⟨_,_,Z0 G3,Y,_,_,Z0 G3,Y,fa,_,Y,.inl<|Z1 F5,p,sa,_,j,by omega,by omega,λr4 H4 v b4 T=>?_⟩;have J1:=b4.sb _ _ (j.tup G3) G3;have R3:=b4.sb _ _ I9 F5;have R1:=b4.sb _ _ I8 hha;have hx4:=VU (j.tk b4.sb) _ R6 R8;have hh4:=VU (j.tk b4.sb) _ hst R7;obtain⟨o,ts,a,b,t,ho,ea,haT,N2,M2,co,t1,t4⟩:=RY I.ok hx4 (show r4<fl.length by omega);have om:o∈fl.map (·.1):=ZU.mpr ⟨_,ZH ho,rfl⟩;have lts:(ts.map V.str).length=ts.length:=ZA _;refine⟨_,_,Z1 R3,ea,⟨_,Z0 haT,Y,?_⟩⟩;have G1:=I1.trans b4.sb;dsimp only[Vp,XZ,BP];refine Vl (λU' H'=>H'=H4/\U'=[some (.ref p),some<|.ref wa,some<|.ref aa,some<|.str y,some<|.int (r:Nat),some<|.int (R4:Nat),some<|.ref hl,some<|.str o,some<|.ref b,none,none,none,none,none]) ?_ ?_
 case refine_2=>
  intro N M;refine⟨_,Y,UJ (λc1=>?_) λc1=>⟨_,Y,Y6 (by simp)<|Y6 (by simp)<|M _ _ ⟨rfl,rfl⟩⟩⟩;refine⟨_,Y,UJ (λc2=>?_) λc2=>Y6 (by simp)<|M _ _ ⟨rfl,rfl⟩⟩;refine⟨_,_,Z0 N2,Y,t,_,Y,.inr<|Z0 M2,_,rfl,UJ (λc3=>?_) λc3=>M _ _ ⟨rfl,rfl⟩⟩;have c3':=Zr c3;have sw4:=I.pn G1 pn;obtain⟨S,hS⟩:∃S:Nat,S=(r-1) / (1+ts.length):=⟨_,rfl⟩;have dS:=OX (r-1) (1+ts.length) (by omega);rw[<-hS]at dS
  have eS:((r:Int)-1) / (1+(((ts.map V.str).length:Nat):Int))=((S:Nat):Int):=by
   rw[hS,lts,show((r:Int)-1)=((r-1:Nat):Int) by omega];rfl
  have Sn:=half_lt rn dS (by omega);refine⟨_,_,Z0 N2,Y,t,_,Y,.inr<|Z0 M2,⟨by omega,by omega⟩,?_⟩;dsimp only;rw[eS];refine⟨p,sa,.ref wa,.ref aa,o,S,ks,fl,hs,ps,c,T,sw4,om,Sn,by omega,λu1 e1 H5 g k hu1 J4=>?_⟩;have F9:=g _ _ (T.tup M2) M2;have bt5:=g _ _ (T.tup N2) N2;exists _,_,Z0 bt5,Y,⟨_,Z0 F9⟩;refine U4 (us:=ts) (D:=Dat.str) (F:=brF) (λtg z=>z.1=tg/\Sd ks (Y5 hs) (kvP ps) y n z.2) (QG F9 k) k (VE ts) (λu=>by unfold Dat.ni;rfl) A3 (by omega) (λtg x H6 R hm O X hx hR=>?_) λvs zs q1 H6 fq O X F3 l ez=>?_
  .obtain rfl:=has_str hx
   refine⟨p,sa,.ref wa,.ref aa,y,S,ks,fl,hs,ps,c,X,I.pn ((G1.trans g).trans O) pn,ym,Sn,by omega,λu J H7 J5 U hu sd=>⟨sl 2,λt' ht'=>?_⟩⟩;have s8:=Ye ht'<|.tup [.str tg,u];exact hR _ (tg,J) _ (J5.trans s8.sb) (U.same s8) (Yu Ya<|Z2 Yv<|Z3<|hu.mono s8) ⟨rfl,sd⟩
  refine⟨q1,_,Y,.inl ⟨Z1 F3,λt1 F1=>?_⟩⟩;refine up_in F1 _ λH7 s7 g7=>?_;refine⟨sl 3,λt2 D3=>?_⟩;refine up_in D3 _ λH8 s8 g8=>?_;have G2:=s7.trans s8;have ef:=BW ez;have lb:(zs.map (·.2)).length=ts.length:=by rw[ZA];exact ez.1
  have es:∀J∈zs.map (·.2),Sd ks (Y5 hs) (kvP ps) y n J:=λJ Z=>by
   obtain⟨z,hz,rfl⟩:=ZU.mp Z;obtain⟨_,_,e⟩:=ez.mem hz;exact e.2
  have n0:=J4.dep;refine q _ (.choose e1 ts<|zs.map (·.2)) H8 (((G1.trans g).trans O).trans G2.sb) (X.same G2) ?_ ⟨Kd.choose (I.sk _ _<|ZH ho) J4.kd lb λJ Z=>(es J Z).kd,?_,?_,?_⟩
  .unfold Bd.dat
   rw[Of,ef]at l;exact Yu g8<|Z2 Yv<|Z2 (UD (λb us h=>G2 _ _<|k.tk O _ _ h) _ (Bd.st _) hu1)<|Z3<|Yu (s8 _ _ g7)<|l.mono G2
  .unfold Bd.ok
   exact⟨J4.ok,lb,⟨by omega,by omega⟩,Bd.oks_iff.mpr λJ Z=>(es J Z).ok⟩
  .unfold Bd.dep
   have:=Bd.deps_lt (n:=n) (by omega) λJ Z=>(es J Z).dep;omega
  .unfold Bd.nl
   exact⟨J4.nl,Bd.nls_iff.mpr λJ Z=>(es J Z).nl⟩
 rintro U' H' ⟨rfl,rfl⟩;exists _,_,Z0 J1,Y,⟨_,Z1 R1⟩;refine UY (E:=hdT) (λh=>decide<|h.2.2=y) (itl<|Z1 R1) hh4 (by omega) (λu x R hm hu rT rF=>?_) λva al H5 fal s5 hal L1=>?_
 .obtain ⟨t',u',xs,rfl,ht,J2,hx⟩:=XS hu
  exact⟨_,_,Z0 ht,Y,Y,_,Y,UJ (λc=>rT _ (decide_eq_true<|V.str.inj<|Zr c) hu) λc=>rF<|Zw λe=>c<|decide_eq_true<|congrArg V.str e⟩
 have k:=T.same s5;have g:=G1.trans s5.sb;have npa:al≠p:=T.ne fal;dsimp only[Vp];refine Vl (λU' H6=>SameB p H5 H6/\Pen K sa H6 p/\∃F8,U'=[some (.ref p),some<|.ref wa,some<|.ref aa,some<|.str y,some<|.int (r:Nat),some<|.int (R4:Nat),some<|.ref hl,some<|.str o,some<|.ref b,none,none,some<|.ref al,F8,none]) ?_ ?_
 case refine_2=>
  intro N M;refine⟨_,Y,UJ (λc1=>?_) λc1=>Y6 (by simp)<|M _ _ ⟨SameB.refl _ _,k,_,rfl⟩⟩;refine⟨sl 0,λe1 F6=>?_⟩;refine up_in F6 _ λH6 s6 g6=>?_;have F7:=s6 _ _ hal;have X:=k.same s6;have fi:∀h∈hs.filter (λh=>decide<|h.2.2=y),h∈hs/\h.2.2=y:=λh m=>⟨(yi.mp m).1,Zr (yi.mp m).2⟩;have C2:=j3 (λh:Hd=>decide<|h.2.2=y) hs;generalize hs.filter (λh=>decide<|h.2.2=y)=fs at L1 fi C2;exists .lst<|fs.map hdT,.lst [],VD F7<|L1.mono s6,VD g6 Z4,IU fs (by omega) λh m=>(I.ho h (fi h m).1).1,_,rfl;rw[LK];have S2:=L1.length;rw[ZA]at S2
  cases fs with
  |nil=>exact Y6 (by simp)<|M _ _ ⟨s6.sb,X,_,rfl⟩
  |cons h1 fs=>
   refine Vf (by simp) ?_;rw[Zd]at S2 C2;refine⟨al,_,Y,.inl<|Z1 F7,p,sa,_,X,by omega,by omega,λr7 H7 I5 b7 U=>?_⟩;have e7:va[r7]?=some (va[r7]'(I5)):=ZC I5;obtain⟨hd,hhd,hv7⟩:=getD L1 e7;obtain⟨hdm,hdy⟩:=fi hd<|ZH hhd;obtain⟨l3,pk⟩:=I.ho hd hdm;have Z8:=s6.sb.trans b7.sb;obtain⟨t',u',xs,e8,ht,J2,hx⟩:=XS<|UD (k.tk Z8) _ (Jr _) hv7;rw[e8]at e7;exists _,_,Z1<|b7.sb _ _ npa F7,Yw e7;have lx:=hx.length;rw[ZA]at lx;refine⟨_,_,Z0 ht,Y,u',_,Y,.inr<|Z0 J2,.inl ⟨by decide,by decide⟩,_,rfl,UJ (λc3=>?_) λc3=>M _ _ ⟨Z8,U,_,rfl⟩⟩;have c3':=Zr c3;obtain⟨S,hS⟩:∃S:Nat,S=(r-1) / (max 2 xs.length):=⟨_,rfl⟩;have dS:=OX (r-1) (max 2 xs.length) (by omega);rw[<-hS]at dS;have em:(if((xs.length:Nat):Int) > 2 then((xs.length:Nat):Int)else 2)=((max 2 xs.length:Nat):Int):=by split <;> omega
   have eS:((r:Int)-1) / (if((xs.length:Nat):Int) > 2 then((xs.length:Nat):Int)else 2)=((S:Nat):Int):=by
    rw[hS,em,show((r:Int)-1)=((r-1:Nat):Int) by omega];rfl
   have Sn:=half_lt rn dS (by omega);refine⟨_,_,Z0 ht,Y,u',_,Y,.inr<|Z0 J2,_,_,rfl,⟨by rw[em];omega,by rw[em];omega⟩,?_⟩;dsimp only;rw[eS];have J5:=g.trans Z8;exists _,_,Z0 ht,Y,_,_,Z0 ht,Y,⟨_,Z0 J2⟩;refine U4 (us:=hd.2.1) (D:=prD) (F:=Bd.dat) (λpr J=>Sd ks (Y5 hs) (kvP ps) pr.2 n J) (QG J2 U) U hx (λu=>Dat.ni_of<|UB u) Bd.st (by omega) (λpr x H8 R hm R5 Z9 hx hR=>?_) λvs bs q1 H8 fq R5 Z9 F3 l ez=>?_
   .obtain ⟨t8,rfl,ht8⟩:=Xo hx
    exists _,Z0 ht8,Y;exact⟨p,sa,.ref wa,.ref aa,pr.2,S,ks,fl,hs,ps,c,Z9,I.pn (J5.trans R5) pn,pk pr hm,Sn,by omega,λu J H9 sb9 pn9 hu sd=>hR _ J _ sb9 pn9 hu sd⟩
   refine⟨q1,_,Y,.inl ⟨Z1 F3,λt1 F1=>?_⟩⟩;refine up_in F1 _ λH9 s9 g9=>?_;refine⟨sl 3,λt2 D3=>?_⟩;refine up_in D3 _ λH10 I3 g10=>?_;have sA:=s9.trans I3;have es:∀J∈bs,∃z,Sd ks (Y5 hs) (kvP ps) z n J:=λJ Z=>let⟨u,_,e⟩:=ez.mem Z;⟨_,e⟩
   have hat:=Xm I.nh hdm;refine q _ (.ask hd.1 bs) H10 ((J5.trans R5).trans sA.sb) (Z9.same sA) ?_ ⟨?_,?_,?_,?_⟩
   .unfold Bd.dat
    rw[Z7];exact Yu g10<|Z2 Yv<|Z2 Yv<|Z3<|Yu (I3 _ _ g9)<|l.mono sA
   .rw [<-hdy]
    exact Kd.ask hat ez.1 λi J pr h1 h2=>(ez.2 i pr J h2 h1).kd
   .unfold Bd.ok
    exact⟨by rw[ez.1];omega,Bd.oks_iff.mpr λJ Z=>let⟨_,e⟩:=es J Z;e.ok⟩
   .unfold Bd.dep
    cases bs with
    |nil=>
     unfold Bd.deps
     cases n with
     |zero=>exact Zp rn (by show ¬r+1<2;omega)
     |succ n=>omega
    |cons b0 bs=>
     obtain⟨_,e0⟩:=es b0 ZY;have:=Bd.deps_lt (n:=n) (bs:=b0::bs) (by have:=e0.dep;omega) λJ Z=>let⟨_,e⟩:=es J Z;e.dep
     omega
   .unfold Bd.nl
    exact Bd.nls_iff.mpr λJ Z=>let⟨_,e⟩:=es J Z;e.nl
 rintro U' H6 ⟨O,X,F8,rfl⟩;have I0:=g.trans O;have hwa6:=(s5.sb.trans O) _ _ (T.tup J1) J1;have hfa6:=(s5.sb.trans O) _ _ I9 R3;have hx6:=VU (T.tk<|s5.sb.trans O) _ R6 hx4;obtain⟨sy,F2⟩:=JC ym;obtain⟨d,rfl,cy,y1,y4,_⟩:=I.ok.ok y sy<|JU F2;refine⟨_,_,Z0 hwa6,Y,.ref fa,y,fl,d,VD hfa6 hx6,by omega,F2,λrv H7 s7 h7=>?_⟩;obtain⟨tv,xt,rfl,D0,hxt⟩:=Yz h7;obtain rfl:=Uc hxt;have U:=X.same s7;have lty:(d.map V.str).length=d.length:=ZA _;refine⟨tv,_,Y,.inr<|Z0 D0,p,sa,_,U,by omega,by omega,λr8 H8 r8l b8 Z9=>?_⟩;have I4:r8<d.length:=by omega
 refine⟨_,.str d[r8],Z0<|b8.sb _ _ (U.tup D0) D0,Yw (by rw[ZG,ZC I4];rfl),sl 2,λt9 ht9=>?_⟩;have s9:=Ye ht9<|.tup [.str "tag",.str d[r8]];exact q _ (.tag _) _ (((I0.trans s7.sb).trans b8.sb).trans s9.sb) (Z9.same s9) (by unfold Bd.dat;exact Jk Ya) ⟨Kd.tag (I.sk _ _<|JU F2)<|jn I4,by unfold Bd.ok;trivial,by unfold Bd.dep;omega,by unfold Bd.nl;trivial⟩
theorem El(B:Blt Z)(F:Fun K "_law_said" "_law_said" E1 f G)(O:Df P w K Z base 5 "_law_next" pnm (Jx K))(N:Df P w K Z base 5 "_law_tags_of" ["_law_kinds_here","_law_kind"] UQ)(M:Binds K G dps [])(J:Z "_law_said"=some (.ref f)):∀n:Nat,Yh P w K Z base CX0 (n+5) f G dps<|Xd K n
 |0=>.none λA H Q E h=>by
  obtain⟨p,S,D,m,y,r,j,t,z,C,c,X,I,T,R,U,q⟩:=h;exact Zp R (by show ¬r+1<1;omega)
 |n+1=>(Pp (L:=n) B F (O.up<|by omega) (N.up<|by omega) (El B F O N M J n) M J).mono<|by omega
end
end K4
namespace L2
open PySem
structure Wld(H:Hp)(wv:V)(ks fl:List (Str×Shp))(hs:List Hd)(c:Str->Nat):Prop where
 hw:Has H wv (.tup [.lst (fl.map Vx),.lst (hs.map hdT)])
 ok:Iw fl c
 sk:∀y s,(y,s)∈fl->VS ks y=some s
 nh:(hs.map (·.1)).Nodup
 h8:hs.length<=8
 ho:∀h∈hs,Ur (fl.map (·.1)) c 40 h
def Wld.pn(w:Wld H wv G fl Z c)(s:SameB p H L)(J:Pen K sa H p):Wld L wv G fl Z c:={w with hw:=VV s J _ (NZ fl Z) w.hw}
def Wld.sm(w:Wld H wv Z fl J c)(s:Same H G):Wld G wv Z fl J c:={w with hw:=w.hw.mono s}
def Wld.sw(w:Wld H wv L fl M c)(N:Has H av (.lst<|Z.map prD))(G:(Z.map (·.1)).Nodup)(J:Z.length<=3):SWd H wv av L fl M Z c:=
 ⟨w.hw,N,w.ok,w.sk,w.nh,w.h8,λh m=>⟨(w.ho h m).len,(w.ho h m).kin⟩,G,J⟩
def Wld.at(w:Wld H wv j fl B c):∃G M L J Z,wv=.ref G/\H G=some (.tup [.ref M,.ref L])/\H M=some (.lst J)/\HasL H J (fl.map Vx)/\H L=some (.lst Z)/\HasL H Z (B.map hdT):=by
 obtain⟨G,U,rfl,A,F⟩:=Yz w.hw;obtain⟨X,Q,rfl,S,E⟩:=Yf F;obtain⟨C,P,rfl,I,D⟩:=Yf E;obtain rfl:=VP D;obtain⟨M,J,rfl,T,R⟩:=VR S;obtain⟨L,Z,rfl,O,N⟩:=VR I;exact⟨G,M,L,J,Z,Y,A,T,R,O,N⟩
end L2
namespace K4
open PySem L2
section
def Sr:Yn ["_law_pen","_law_world_here"] ["_law_pen","_law_world_here"] (Yc Ly):=Y7
def AW:List.Nodup [("_law_head":Str),"_law_pen","_law_world_here"]:=by decide +kernel
inductive Q8(K:W.Frag)(H:Hp)(Q:VK):List V->Prop
 |mk (p sa:Addr) (wv:V) (ks fl:List (Str×Shp)) (hs:List Hd) (c:Str->Nat) (pn:Pen K sa H p) (w:Wld H wv ks fl hs c)
  (q:∀(l:Addr)(xs:List V)(ds:List Dd)(H':Hp),SameB p H H'->Pen K sa H' p->H l=none->H' l=some (.lst xs)->HasL H' xs (ds.map BZ)->ds.map (·.1)=hs->(∀x∈ds,Sd ks (Y5 hs) (kvP x.1.2.1) x.1.2.2 5 x.2)->Q (.ref l) H'):Q8 K H Q [.ref p,wv]
def Bw(K:W.Frag):Sp:=λZ H Q _=>Q8 K H Q Z
def P4(B:Blt mg)(F:Fun K "_law_defined_drawn" "_law_defined_drawn" Ly f fd)(DG:Df P w K mg base n "_law_said" dps (Xd K 5)):Yh P w K mg base CX0 (n+1) f fd ["_law_pen","_law_world_here"] (Bw K):=by
 refine F.oi Sr λJ4 A g s H vs Q E hr h=>?_;obtain⟨p,sa,wv,ks,fl,N,c,m,I,q⟩:=h;refine⟨_,YZ (Yo (VL ["_law_head"] [0,1] (VF<|Ym Yp (pv 1) YX) (VM (i:=0)<|by decide) (λcl C fp s H=>Yb 0 AW rfl (Or.inl rfl) (Or.inr rfl))
  (λcl C fp s H=>Y1 (r:=WX K) Wa (pv 0)<|Y0<|pa1<|Yx DG hr<|pa5 (pv 1) (pv 2) (VB (r:=λxs H Q=>∃p j,xs=[.ref p]/\(SqL K H p j\/SqT K H p j)/\∀l,H l=none->Q (.ref l) (upd H l<|.lst j)) Vw rfl B.list Vm (pa1<|Ym (r:=UG K) Yp (pv 0) YX)) (Ym (r:=UG K) Yp (pv 0) YX) YX))),?_⟩
 dsimp only[Vi,Cx.nox,Cx.wish];obtain⟨wa,fa,ha,xf,xh,rfl,d,J2,J1,M,D⟩:=I.at;have Z8:=Y2 Jr N;exists _,_,Z0 d,Y,⟨_,Z1 M⟩;refine U4 (F:=BZ) (λh x=>x.1=h/\Sd ks (Y5 N) (kvP h.2.1) h.2.2 5 x.2) (yM M<|m.lst M D<|Dat.nis_of Z8) m D (λh=>Dat.ni_of<|Jr h) QT (by have:=I.h8;omega) (λh x H1 R hm G Z k hR=>?_) λvs ds l H1 Z9 G Z hl v U=>?_
 .obtain ⟨t,u,xs,rfl,ht,hu,hxs⟩:=XS k
  have ho:=I.ho h hm;refine⟨_,_,Z0 ht,Y,u,_,Y,.inr<|Z0 hu,λl hl=>?_⟩;refine up_in hl _ λH2 L g2=>?_;exists _,_,Z0<|L _ _ ht,rfl;refine⟨p,sa,.ref wa,.ref l,h.2.2,30,ks,fl,N,h.2.1,c,Z.same L,((I.pn G m).sm L).sw (VD g2<|hxs.mono L) ho.nd ho.len,ho.own,by decide,by decide,λub b H3 O y hb sd=>?_⟩;refine⟨sl 1,λt1 a=>?_⟩;refine up_in a _ λH4 S g4=>?_;have J:TK H1 H4:=λb us h=>S _ _<|(Z.same L).tk O _ _<|L _ _ h;refine⟨t,t1,_,_,Y,Y,Z0<|J _ _ ht,Z0 g4,by simp,Zf<|Yt (by show 4<=1000;decide),(λz=>nomatch z),λ_ t2 o=>?_⟩;refine up_in o _ λH5 T g5=>?_;exact hR _ (h,b) _ (((L.sb.trans O).trans S.sb).trans T.sb) ((y.same S).same T) (Yu g5<|Z2 Yv<|Z2 (Yu (T _ _<|J _ _ hu)<|VU (λb us h=>T _ _<|J _ _ h) _ (Y2 UB _) hxs)<|Z2 Yv<|Z3<|(hb.mono S).mono T) ⟨rfl,sd⟩
 .refine q l vs ds H1 G Z Z9 hl v ?_ λx k=>?_
  .refine vU λi=>?_
   rw[ZG]
   cases e:ds[i]? with
   |none=>
    have:=yo.mp e;rw[U.1]at this;rw[yo.mpr this];rfl
   |some z=>
    have il:i<N.length:=by rw[<-U.1];exact(ZE.mp e).1
    have X:N[i]?=some N[i]:=ZC il;rw[X];exact congrArg some (U.2 i _ z X e).1
  .obtain ⟨h,_,e1,X⟩:=U.mem k
   subst e1;exact X
end
end K4
namespace L2
open PySem
inductive Rb where
 |br (e:Bd) (ts:List Str) (bs:List Rb)|on (r:Str) (as:List Bd)|thn (e:Bd) (r:Str) (as:List Bd)
mutual
def Rb.dat:Rb->Dat
 |.br e ts bs=>.tup [.str "by",e.dat,.tup (Rb.brs bs ts)]
 |.on r as=>.tup [.str "on",.str r,.tup (Bd.dats as)]
 |.thn e r as=>.tup [.str "then",e.dat,.str r,.tup (Bd.dats as)]
def Rb.brs:List Rb->List Str->List Dat
 |b::bs,t::ts=>.tup [.str t,b.dat]::Rb.brs bs ts
 |_,_=>[]
end
def Ba(Z:List Bd):Dat.sts (Bd.dats Z)=true:=by rw[Z7];exact Y2 Bd.st Z
mutual
theorem Rb.st:∀b:Rb,b.dat.st=true
 |.br e Z J=>by unfold Rb.dat;simp[Dat.st,Dat.sts,Bd.st,Rb.sts J Z]
 |.on r G=>by unfold Rb.dat;simp[Dat.st,Dat.sts,Ba]
 |.thn e r G=>by unfold Rb.dat;simp[Dat.st,Dat.sts,Bd.st,Ba]
theorem Rb.sts:∀(J:List Rb)(Z:kq),Dat.sts (Rb.brs J Z)=true
 |b::J,t::Z=>by unfold Rb.brs Dat.sts;simp[Dat.st,Dat.sts,Rb.st b,Rb.sts J Z]
 |[],Z=>by unfold Rb.brs Dat.sts;rfl
 |_::_,[]=>by unfold Rb.brs Dat.sts;rfl
end
def rbF(x:Str×Rb):Dat:=.tup [.str x.1,x.2.dat]
def Sw(x:Str×Rb):(rbF x).st=true:=by simp[rbF,Dat.st,Dat.sts,Rb.st]
theorem M3:∀Z:List (Str×Rb),Z.map rbF=Rb.brs (Z.map (·.2)) (Z.map (·.1))
 |[]=>by unfold List.map Rb.brs;rfl
 |z::Z=>by rw[ZT,M3 Z,ZT,ZT];(conv=>rhs;unfold Rb.brs);rfl
inductive RK(ks:List (Str×Shp))(hd rh:Hds)(kv:List (Key×V))(y:Str):Nat->Rb->Prop
 |on {n:Nat}{r:Str}{ps:List (Str×Str)}{as:List Bd}:rh r=some (ps,y)->Each (λpr b=>Sd ks hd kv pr.2 5 b) ps as->as.length<=3->RK ks hd rh kv y n (.on r as)
 |thn {n:Nat}{r:Str}{ps:List (Str×Str)}{as:List Bd}{e:Bd}:Sd ks hd kv y 5 e->rh r=some (ps,y)->Each (λpr b=>Sd ks hd kv pr.2 5 b) ps as->as.length<=3->RK ks hd rh kv y n (.thn e r as)
 |br {n:Nat}{z:Str}{ts:List Str}{e:Bd}{bs:List Rb}:VS ks z=some (.tags ts)->Sd ks hd kv z 5 e->bs.length=ts.length->1<=ts.length->ts.length<=4->ts.Nodup->(∀b∈bs,RK ks hd rh kv y n b)->RK ks hd rh kv y (n+1) (.br e ts bs)
structure RWd(H:Hp)(hv:V)(fl:List (Str×Shp))(rs:List Hd)(c:Str->Nat):Prop where
 hh:Has H hv (.lst (rs.map hdT))
 nd:(rs.map (·.1)).Nodup
 l6:rs.length<=6
 ho:∀h∈rs,Ur (fl.map (·.1)) c 24 h
 cv:∀y∈fl.map (·.1),∃h∈rs,h.2.2=y
def RWd.pn(w:RWd H hv fl rs c)(s:SameB p H J)(Z:Pen K sa H p):RWd J hv fl rs c:={w with hh:=VV s Z _ (UW<|Y2 Jr rs) w.hh}
end L2
namespace K4
open PySem L2
section
abbrev bps:kq:=["_law_pen","_law_world_here","_law_heads_here","_law_around","_law_kind","_law_deep"]
def Uo:Yn ["_law_pen","_law_world_here","_law_heads_here","_law_around","_law_kind","_law_deep","_law_way","_law_other","_law_shape","_law_first","_law_fit","_law_name","_law_parameters","_law_own","_law_given"] bps (Yc E2):=Y7
def Cy:List.Nodup [("_law_tag":Str),"_law_pen","_law_world_here","_law_heads_here","_law_around","_law_kind","_law_deep"]:=by decide +kernel
def Qq:List.Nodup [("_law_word":Str),"_law_other","_law_pen","_law_world_here","_law_around"]:=by decide +kernel
inductive FT(K:W.Frag)(m:Nat)(H:Hp)(Q:VK):List V->Prop
 |mk (p sa:Addr) (wv hv av:V) (y:Str) (d:Nat) (ks fl:List (Str×Shp)) (hs rs:List Hd) (ps:List (Str×Str)) (c:Str->Nat) (pn:Pen K sa H p) (sw:SWd H wv av ks fl hs ps c) (rw:RWd H hv fl rs c) (ym:y∈fl.map (·.1)) (dm:d<m)
  (q:∀u b H',SameB p H H'->Pen K sa H' p->Has H' u b.dat->RK ks (Y5 hs) (Y5 rs) (kvP ps) y d b->Q u H'):FT K m H Q [.ref p,wv,hv,av,.str y,.int (d:Nat)]
def Wq(K:W.Frag)(m:Nat):Sp:=λZ H Q _=>FT K m H Q Z
def K7{v:V}(e:v=.int (d:Nat))(h:FT K m H Q [.ref p,wv,hv,av,.str y,.int (d:Nat)]):FT K m H Q [.ref p,wv,hv,av,.str y,v]:=e ▸ h
def Pr(B:Blt mg)(F:Fun K "_law_row_body" "_law_row_body" E2 f fd)(DN:Df P w K mg base L "_law_next" pnm (Jx K))(DS:Df P w K mg base L "_law_said" dps (Xd K 5))(G:Yh P w K mg base CX0 L f fd bps (Wq K m))(bG:Binds K fd bps [])(mG:mg "_law_row_body"=some (.ref f)):Yh P w K mg base CX0 (L+1) f fd bps (Wq K<|m+1):=by
 have DG:Df P w K mg base L "_law_row_body" bps (Wq K m):=⟨f,fd,mG,F.kp,bG,G⟩;refine F.oi Uo λcdv A I6 s H vs Q E hr h=>?_;obtain⟨p,sa,wv,hv,av,y,d,ks,fl,hs,rs,ps,c,pn,S,Z,ym,dm,q⟩:=h;refine⟨_,YW (Yk 6 Uo.nd<|Yx DN hr<|pa2 (pv 0) YX)
  (YW (Y4 (PW.pt<|XG (Yq RJ (pv 6) YX<|Yy _)<|UH<|Yq Uz (pv 5) YX<|Yy _)
   (YW (V5 (Ym Y3 (Ym Yp (pv 1) YX) (Yx DN hr<|pa2 (pv 0)<|Yr Yl rfl B.len Zs (pa1<|Ym Yp (pv 1) YX)) λ_ _=>rfl)<|VO (n:=2) rfl (Yi (Yb 7 Uo.nd)<|Yi (Yb 8 Uo.nd) VC))
   (YW (Yk 9 Uo.nd<|Yx DS hr<|pa5 (pv 0) (pv 1) (pv 3) (pv 7) YX)
   (YZ (Yo (Y0 (pa3 VA (pv 9) (VB VH rfl B.tuple VY (pa1 (VL ["_law_tag"] [0,1,2,3,4,5] (V9<|Ym Yp (pv 8) YX) (VM (i:=0)<|by decide) (λcl C fp s H=>Yb 0 Cy rfl (Or.inl rfl) (Or.inr rfl))
    (λcl C fp s H=>Y0<|pa2 (pv 0)<|Yx DG hr<|pa6 (pv 1) (pv 2) (pv 3) (pv 4) (pv 5)<|Y1 UV (pv 6) YX)))))))))) Ys)
  (YW (G5 (i0:=10) ["_law_head"] [4] Uo.nd rfl (Or.inl rfl) (VF<|pv 2) (VM (i:=0)<|by decide) (λcl C fp s H=>Yb 0 Qw rfl (Or.inl rfl) (Or.inr rfl))
   (λcl C fp s H=>Yq JK (Ym (r:=UG K) Yp (pv 0) YX) (pv 1)<|Yy _) (λcl C fp s H=>pv 0))
  (YW (V5 (Ym Y3 (pv 10) (Yx DN hr<|pa2 (pv 0)<|Yr Yl rfl B.len Zs (pa1<|pv 10)) λ_ _=>rfl)<|VO (n:=3) rfl (Yi (Yb 11 Uo.nd)<|Yi (Yb 12 Uo.nd)<|Yi (Yb 13 Uo.nd) VC))
  (YW (Yk 14 Uo.nd (VB VH rfl B.tuple VY (pa1 (VL ["_law_word","_law_other"] [0,1,3] (V9<|pv 12) UE (λcl C fp s H=>VO (n:=2) rfl (Yi (Yb 0 Qq rfl (Or.inl rfl) (Or.inr rfl))<|Yi (Yb 1 Qq rfl (Or.inl rfl) (Or.inr rfl)) VC))
   (λcl C fp s H=>Yx DS hr<|pa5 (pv 2) (pv 3) (pv 4) (pv 1) YX)))))
  (YW (Y4 (Yq JK (pv 6) YX<|Yy _) (YZ<|Yo<|Y0<|pa3 VA (pv 11)<|pv 14) Ys)
  (YZ<|Yo<|Y0<|pa4 VA (Yx DS hr<|pa5 (pv 0) (pv 1) (pv 3) (pv 4) YX) (pv 11)<|pv 14)))))),?_⟩
 dsimp only[Vi,Cx.nox,Cx.wish];show let T0:=_;let T1:=_;let T2:=Yg (VJ _ T1 _) T0;let T3:=Yg _ T2;let T4:=Yg _ T3;let T5:=Yg _ T4;let T6:=_;let T7:=Yg _ T6;let T8:=Yg _ T7;let T9:=Yg (VJ _ T8 _) T5;Yg _ T9 _ _ _
 intros
 have f0:=S.ok.f0;have f3:=S.ok.f3;refine⟨p,sa,7,pn,by decide,by decide,λI2 H1 w7 b1 T=>?_⟩;have I4:=S.pn b1.sb pn;dsimp only[Vp];refine Vl (λU' H'=>H'=H1/\U'=[some (.ref p),some wv,some hv,some av,some<|.str y,some<|.int (d:Nat),some<|.int (I2:Nat),none,none,none,none,none,none,none,none]) ?_ ?_
 case refine_2=>
  intro N D3;refine⟨_,Y,UJ (λc1=>?_) λc1=>Y6 (by simp)<|D3 _ _ ⟨rfl,rfl⟩⟩;refine⟨_,Y,UJ (λc2=>?_) λc2=>D3 _ _ ⟨Y,Y⟩⟩;have c2':=Zr c2;obtain⟨wa,fa,ha,xf,xh,rfl,F1,R4,L1,hha,hxh⟩:=I4.at;have D0:=Y2 JW fl;have I7:=T.lst R4 L1<|Dat.nis_of D0;have I9:=L1.length;rw[ZA]at I9;refine⟨_,_,Z0 F1,Y,_,_,Z0 F1,Y,fa,_,Y,.inl<|Z1 R4,p,sa,_,T,by omega,by omega,λr4 H4 r4l b4 G3=>?_⟩;have hx4:=VU (T.tk b4.sb) _ D0 L1;obtain⟨o,ts,a,b,t,ho,ea,haT,F8,F4,co,t1,t4⟩:=RY S.ok hx4 (show r4<fl.length by omega);have om:o∈fl.map (·.1):=ZU.mpr ⟨_,ZH ho,rfl⟩;refine⟨_,_,Z1<|b4.sb _ _ I7 R4,ea,⟨_,Z0 haT,rfl,?_⟩⟩;have J5:=b1.sb.trans b4.sb;refine⟨p,sa,.ref wa,av,o,8,ks,fl,hs,ps,c,G3,S.pn J5 pn,om,by decide,by decide,λu1 e1 H5 j J M2 J2=>?_⟩;have R5:=j _ _ (G3.tup F4) F4;exists _,_,Z0<|j _ _ (G3.tup F8) F8,rfl,⟨_,Z0 R5⟩;have lts:ts.length<=4:=t4;refine U4 (us:=ts) (D:=Dat.str) (F:=rbF) (λtg z=>z.1=tg/\RK ks (Y5 hs) (Y5 rs) (kvP ps) y (d-1) z.2) (QG R5 J) J (VE ts) (λu=>by unfold Dat.ni;rfl) Sw (by omega) (λtg x H6 R hm X G2 hx hR=>?_) λvs zs q1 H6 fq X G2 R3 Z8 ez=>?_
  .obtain rfl:=has_str hx
   have Z9:=(J5.trans j).trans X;refine K7 (d:=d-1) (by show V.int ((d:Int)-1)=_;congr 1;omega) ⟨p,sa,.ref wa,hv,av,y,d-1,ks,fl,hs,rs,ps,c,G2,S.pn Z9 pn,Z.pn Z9 pn,ym,by omega,λu b' H7 U l hu sd=>⟨sl 2,λt' ht'=>?_⟩⟩;have s8:=Ye ht'<|.tup [.str tg,u];exact hR _ (tg,b') _ (U.trans s8.sb) (l.same s8) (Yu Ya<|Z2 Yv<|Z3<|hu.mono s8) ⟨rfl,sd⟩
  refine⟨q1,_,Y,.inl ⟨Z1 R3,λt1 R1=>?_⟩⟩;refine up_in R1 _ λH7 s7 g7=>?_;refine⟨sl 3,λt2 I=>?_⟩;refine up_in I _ λH8 s8 g8=>?_;have g:=s7.trans s8;have ef:=BW ez;have lb:(zs.map (·.2)).length=ts.length:=by rw[ZA];exact ez.1
  have es:∀b'∈zs.map (·.2),RK ks (Y5 hs) (Y5 rs) (kvP ps) y (d-1) b':=λb' hb'=>by
   obtain⟨z,hz,rfl⟩:=ZU.mp hb';obtain⟨_,_,e⟩:=ez.mem hz;exact e.2
  obtain⟨ts',e',_,_,_,I3⟩:=S.ok.ok _ _<|ZH ho;cases e';refine q _ (.br e1 ts<|zs.map (·.2)) H8 (((J5.trans j).trans X).trans g.sb) (G2.same g) ?_ ?_
  .unfold Rb.dat
   rw[M3,ef]at Z8;exact Yu g8<|Z2 Yv<|Z2 (UD (λb us h=>g _ _<|J.tk X _ _ h) _ (Bd.st _) M2)<|Z3<|Yu (s8 _ _ g7)<|Z8.mono g
  .rw [show d=d-1+1 by omega]
   exact RK.br (S.sk _ _<|ZH ho) J2 lb (by omega) t4 I3 es
 rintro U' H' ⟨rfl,rfl⟩;have I5:=Z.pn b1.sb pn;obtain⟨ra,xr,rfl,F5,C2⟩:=VR I5.hh;exists ⟨_,Z1 F5⟩;have l6:=Z.l6;refine UY (E:=hdT) (λh=>decide<|h.2.2=y) (itl<|Z1 F5) C2 (by omega) (λu x R hm hu rT rF=>?_) λva al H5 fal s5 F9 F2=>?_
 .obtain ⟨t',u',xs,rfl,ht,N2,hx⟩:=XS hu
  exact⟨_,_,Z0 ht,Y,Y,_,Y,UJ (λc=>rT _ (decide_eq_true<|V.str.inj<|Zr c) hu) λc=>rF<|Zw λe=>c<|decide_eq_true<|congrArg V.str e⟩
 have J:=T.same s5;have I8:al≠p:=T.ne fal;have fi:∀h∈rs.filter (λh=>decide<|h.2.2=y),h∈rs/\h.2.2=y:=λh m=>⟨(yi.mp m).1,Zr (yi.mp m).2⟩
 have fl0:0<(rs.filter λh=>decide<|h.2.2=y).length:=by
  obtain⟨h,hm,e⟩:=Z.cv y ym;exact List.length_pos_of_mem<|yi.mpr ⟨hm,decide_eq_true e⟩
 have lfi:=j3 (λh:Hd=>decide<|h.2.2=y) rs;have S2:=F2.length;rw[ZA]at S2;refine⟨al,_,Y,.inl<|Z1 F9,p,sa,_,J,by omega,by omega,λr7 H7 R7 b7 l=>?_⟩;have e7:va[r7]?=some (va[r7]'(R7)):=ZC R7;obtain⟨hd,hhd,hv7⟩:=getD F2 e7;obtain⟨F7,F6⟩:=fi hd<|ZH hhd;have ho:=Z.ho hd F7;obtain⟨t',u',xs,e8,ht,N2,hx⟩:=XS<|UD (J.tk b7.sb) _ (Jr _) hv7;rw[e8]at e7;have U:=(b1.sb.trans s5.sb).trans b7.sb;refine⟨_,_,Z1<|b7.sb _ _ I8 F9,Yw e7,⟨_,Z0 ht,rfl,?_⟩⟩;exists ⟨_,Z0 N2⟩;have l3:=ho.len;have R6:=Xm Z.nd F7;refine U4 (us:=hd.2.1) (D:=prD) (F:=Bd.dat) (λpr b'=>Sd ks (Y5 hs) (kvP ps) pr.2 5 b') (QG N2 l) l hx (λu=>Dat.ni_of<|UB u) Bd.st (by omega) (λpr x H8 R hm J4 G1 hx hR=>?_) λvs bs q1 H8 fq J4 G1 R3 Z8 ez=>?_
 .obtain ⟨t8,rfl,ht8⟩:=Xo hx
  exists _,Z0 ht8,Y;exact⟨p,sa,wv,av,pr.2,6,ks,fl,hs,ps,c,G1,S.pn (U.trans J4) pn,ho.kin pr hm,by decide,by decide,λu b' H9 M O hu sd=>hR _ b' _ M O hu sd⟩
 refine⟨q1,_,Y,.inl ⟨Z1 R3,λt1 R1=>?_⟩⟩;refine up_in R1 _ λH9 s9 g9=>?_;have M:=(U.trans J4).trans s9.sb;have O:=G1.same s9;have F3:=Z8.mono s9;refine⟨Y,_,Y,UJ (λc1=>⟨sl 3,λt2 I=>?_⟩) λc1=>?_⟩
 .refine up_in I _ λI1 v g10=>?_
  refine q _ (.on hd.1 bs) I1 (M.trans v.sb) (O.same v) ?_ (RK.on (by rw[R6,<-F6]) ez (by rw[ez.1];exact l3));unfold Rb.dat;rw[Z7];exact Yu g10<|Z2 Yv<|Z2 Yv<|Z3<|Yu (v _ _ g9)<|F3.mono v
 .refine ⟨p,sa,wv,av,y,8,ks,fl,hs,ps,c,O,S.pn M pn,ym,by decide,by decide,λu1 e1 I1 J1 R8 M2 J2=>⟨sl 4,λt2 I=>?_⟩⟩
  refine up_in I _ λI0 k g11=>?_;have tk:TK H9 I0:=λb us h=>k _ _<|O.tk J1 _ _ h;refine q _ (.thn e1 hd.1 bs) I0 ((M.trans J1).trans k.sb) (R8.same k) ?_ (RK.thn J2 (by rw[R6,<-F6]) ez (by rw[ez.1];exact l3));unfold Rb.dat;rw[Z7];exact Yu g11<|Z2 Yv<|Z2 (M2.mono k)<|Z2 Yv<|Z3<|Yu (tk _ _ g9)<|VU tk _ (Y2 Bd.st bs) F3
theorem Em(B:Blt Z)(F:Fun K "_law_row_body" "_law_row_body" E2 f G)(O:Df P w K Z base L "_law_next" pnm (Jx K))(N:Df P w K Z base L "_law_said" dps (Xd K 5))(M:Binds K G bps [])(J:Z "_law_row_body"=some (.ref f)):∀m:Nat,Yh P w K Z base CX0 (L+m) f G bps<|Wq K m
 |0=>.none λI H Q E h=>by
  obtain⟨p,U,A,t,u,y,d,z,k,g,C,X,c,j,S,R,D,T,q⟩:=h;exact Zp T<|Zu _
 |m+1=>Pr B F (O.up<|by omega) (N.up<|by omega) (Em B F O N M J m) M J
end
end K4
namespace L2
open PySem PySem.Spec PyProof.Rows
end L2
namespace L2
open PySem
theorem N9{α:Type}[DecidableEq α]:∀{xs ys:List α},xs.Nodup->(∀x∈xs,x∈ys)->xs.length<=ys.length
 |[],_,_,_=>Za _
 |x::xs,ys,nd,h=>by
  have Z:=yt.mp nd;have m:=h x ZY;have q:=N9 (xs:=xs) (ys:=ys.erase x) Z.2 λz J=>(List.mem_erase_of_ne λe:z=x=>Z.1 (by rw[<-e];exact J)).mpr<|h z<|ZK _ J;rw[List.length_erase_of_mem m]at q;have:=List.length_pos_of_mem m;rw[Zd];omega
end L2
namespace K4
open PySem L2
section
def Sl:Yn ["_law_pen","_law_taken","_law_letters"] ["_law_pen","_law_taken","_law_letters"] (Yc Lv):=Y7
def Cw:List.Nodup [("_law_word":Str),"_law_taken"]:=by decide +kernel
def FQ(K:W.Frag)(sa p:Addr)(o:Nat)(tk:kq)(H:Hp)(Q:VK):Prop:=∀(x:Str)(Z:Hp),SameB p H Z->Pen K sa Z p->x∉tk->(1<=x.length/\x.length<=8/\∀c∈x.cps.toList,o<=c/\c<o+26)->Q (.str x) Z
inductive On(K:W.Frag)(H:Hp)(Q:VK):List V->Prop
 |mk (p sa:Addr) (v:V) (o:Nat) (tk:List Str) (pn:Pen K sa H p) (hv:Has H v (.lst (tk.map Dat.str))) (tl:tk.length<=12) (q:FQ K sa p o tk H Q):On K H Q [.ref p,v,.str (alpha o)]
def Bu(K:W.Frag):Sp:=λZ H Q _=>On K H Q Z
def P1(F:Fun K "_law_free" "_law_free" Lv f fd)(DS:Df P w K a base n "_law_spelt" ["_law_pen","_law_many","_law_letters"] (Nu K)):Yh P w K a base CX0 (n+1) f fd ["_law_pen","_law_taken","_law_letters"] (Bu K):=by
 refine F.oi Sl λZ8 A T s H g Q E hr h=>?_;obtain⟨p,c,v,o,Z,X,hv,tl,q⟩:=h;refine⟨_,YZ<|Yo<|Ym Y3 (M8 ["_law_word"] [1] (VF<|Yx DS hr<|pa3 (pv 0) YX<|pv 2) (VM (i:=0)<|by decide) (λt C z s H=>Yb 0 Cw rfl (Or.inl rfl) (Or.inr rfl)) (λt C z s H=>Yq (r:=rIn K true) JZ (pv 0) (pv 1) rfl) λt C z s H=>pv 0) YX,?_⟩;dsimp only[Vi,Cx.nox,Cx.wish];refine⟨p,c,13,o,X,by decide,λr J H1 L O fr M ly N=>?_⟩;exists ⟨_,Z1 M⟩;obtain⟨k,xt,rfl,S,B⟩:=VR<|VV L X _ (UW<|Y2 (λx=>by unfold Dat.st;rfl) Z) hv;obtain rfl:=Uc B;refine UY (us:=J) (D:=Dat.str) (E:=Dat.str) (λx=>decide<|x∉Z) (itl<|Z1 M) (VE J) (by omega) (λu x R hm hu d b=>?_) λg l H2 fl U y I=>?_
 .obtain rfl:=has_str hu
  exists k,_,Y,.inl<|Z1 S,rfl,Jj _,_,rfl;rw[J9]
  by_cases m:u∈Z
  .exact Y6 (by simp[m]) (b<|by simp[m])
  .exact Vf (by simp[m]) (d _ (by simp[m]) Yv)
 .obtain rfl:=Uc I
  cases e:J.filter λx=>decide (x∉Z)with
  |nil=>
   have:J.length<=Z.length:=N9 N.nd λx G=>Classical.not_not.mp λm=>by
    have:x∈J.filter λx=>decide (x∉Z):=yi.mpr ⟨G,decide_eq_true m⟩;rw[e]at this;cases this
   omega
  |cons x r=>
   rw[e]at y;have G:x∈J.filter λx=>decide (x∉Z):=by rw[e];exact ZY
   exact⟨_,_,Z1 y,Yw (j:=0) Y,q x H2 (L.trans U.sb) (O.same U) (Zr (yi.mp G).2) ⟨(N.len x (yi.mp G).1).1,(N.len x (yi.mp G).1).2,N.abc x (yi.mp G).1⟩⟩
def Kv:Yn ["_law_pen","_law_taken"] ["_law_pen","_law_taken"] (Yc NG):=Y7
inductive FS(K:W.Frag)(H:Hp)(Q:VK):List V->Prop
 |mk (p sa:Addr) (v:V) (tk:List Str) (pn:Pen K sa H p) (hv:Has H v (.lst (tk.map Dat.str))) (tl:tk.length<=12) (q:FQ K sa p 97 tk H Q):FS K H Q [.ref p,v]
def Xc(K:W.Frag):Sp:=λZ H Q _=>FS K H Q Z
def Fz(F:Fun K "_law_small_word" "_law_small_word" NG f T)(D:Df P w K N base n "_law_free" ["_law_pen","_law_taken","_law_letters"] (Bu K)):Yh P w K N base CX0 (n+1) f T ["_law_pen","_law_taken"] (Xc K):=by
 refine F.oi Kv λB A Z s H I Q E R h=>?_;obtain⟨p,L,v,G,M,O,J,q⟩:=h;exists _,YZ<|Yo<|Yx D R<|pa3 (pv 0) (pv 1) VA;have z:=On.mk (K:=K) (H:=H) p L v 97 G M O J q;rw[<-Wt]at z;exact z
end
end K4
namespace L2
open PySem
def Js{α:Type}{us:List α}{D F:α->Dat}(O:∀Z,Same H Z->Itx J Z T)(A:HasL H T (us.map D))(j:us.length<=10000)(U:∀u x N (R:V->Hp->Prop),u∈us->Same H N->Has N x (D u)->(∀v M,Same N M->Has M v (F u)->R v M)->g x s0 N λL P=>te L P R)(C:∀G q Z,H q=none->Same H Z->Z q=some (.lst G)->HasL Z G (us.map F)->Q (.ref q) Z):Rh J g te s0 Q H:=by
 have E:=A.length;rw[ZA]at E;refine JN T.length (Ti<|by omega) (λi G Z=>Same H Z/\G.length=i/\HasL Z G ((us.take i).map F)) ⟨Z6 _,rfl,Z4⟩ (λi G Z z=>z.2.1) ?_ ?_ ?_ ?_
 .rintro i G Z hi ⟨s,_⟩
  exact(O Z s).go i hi
 .rintro G Z ⟨s,_⟩
  exact(O Z s).stop
 .rintro i G Z x H'' R hi ⟨s,z2,z3⟩ yl rT
  obtain⟨rfl,y⟩:=(O Z s).yld i x H'' yl;obtain⟨u,I,S⟩:=getD A y;refine U u x _ R (ZH I) s (S.mono s) λv M B X=>rT _ _ ⟨s.trans B,by rw[ZJ,z2];rfl,?_⟩;rw[take_snoc I,ZI];exact Z5 (z3.mono B)<|Z3 X
 .rintro G Z q ⟨s,z2,z3⟩ hq
  rw[Ze (vY E.symm)]at z3;have L:=Ye hq<|.lst G;exact C G q _ (s.free hq) (s.trans L) Ya<|z3.mono L
abbrev Rw:=Hd×Rb
def Vb(x:Rw):Dat:=.tup [.str x.1.1,psD x.1.2.1,.str x.1.2.2,x.2.dat]
def Vn(x:Rw):(Vb x).st=true:=by unfold Vb;simp[Dat.st,Dat.sts,RE,Rb.st]
def JL(h:Has H v (Vb x)):∃t u Z w,v=.ref t/\H t=some (.tup [.str x.1.1,.ref u,.str x.1.2.2,w])/\H u=some (.tup Z)/\HasL H Z (x.1.2.1.map prD)/\Has H w x.2.dat:=by
 unfold Vb at h;obtain⟨t,I,rfl,T,B⟩:=Yz h;obtain⟨C,j,rfl,A,M⟩:=Yf B;obtain⟨U,Q,rfl,F,L⟩:=Yf M;obtain⟨S,P,rfl,E,G⟩:=Yf L;obtain⟨N,X,rfl,D,J⟩:=Yf G;obtain rfl:=VP J;obtain rfl:=has_str A;obtain rfl:=has_str E;obtain⟨u,Z,rfl,R,O⟩:=Yz F;exact⟨t,u,Z,N,Y,T,R,O,D⟩
def Nr(ks:kL)(y:Str):Str:=match VS ks y with|some (.tags (t::_))=>t|_=>""
def Jo(ks:kL)(ps:List (Str×Str)):List Bd:=ps.map λp=>.tag<|Nr ks p.2
def FlK(ks:kL)(ns:kq):Prop:=∀y∈ns,∃Z,VS ks y=some (.tags Z)/\1<=Z.length/\Z.length<=4
def FlK.at(f:FlK Z G)(m:y∈G):∃r,VS Z y=some (.tags (Nr Z y::r)):=by
 obtain⟨J,h,l,_⟩:=f y m
 cases J with
 |nil=>cases l
 |cons t r=>exact⟨r,by unfold Nr;rw[h]⟩
def J3.flk(k:J3 Z c d):FlK Z ((flat Z).map (·.1)):=λy m=>by
 obtain⟨⟨G,s⟩,J,rfl⟩:=ZU.mp m;obtain⟨L,rfl,_,N,M,_⟩:=k.fl.ok G s J;exact⟨L,Xu k.nd (yi.mp J).1,N,M⟩
structure zV(ks fl:List (Str×Shp))(hs:List Hd)(c:Str->Nat)(rs:List Rw):Prop where
 f:fl.length<=rs.length
 l6:rs.length<=6
 wd:Wds 97 (rs.map λx=>x.1.1)
 ho:∀x∈rs,Ur (fl.map (·.1)) c 24 x.1
 to:tot c (rs.map (·.1))<=24
 cv:∀y∈fl.map (·.1),∃x∈rs,x.1.2.2=y
 rk:∀x∈rs,RK ks (Y5 hs) (Y5 (rs.map (·.1))) (kvP x.1.2.1) x.1.2.2 2 x.2
end L2
namespace K4
open PySem L2
section
def XD:Yn ["_law_pen","_law_world_here","_law_heads_here","_law_found","_law_name","_law_parameters","_law_own","_law_body_here"] ["_law_pen","_law_world_here"] (Yc Lr):=Y7
inductive Ol(K:W.Frag)(H:Hp)(Q:VK):List V->Prop
 |mk (p sa:Addr) (wv:V) (ks fl:List (Str×Shp)) (hs:List Hd) (c:Str->Nat) (pn:Pen K sa H p) (w:Wld H wv ks fl hs c)
  (q:∀(l:Addr)(xs:List V)(rs:List Rw)(H':Hp),SameB p H H'->Pen K sa H' p->H l=none->H' l=some (.lst xs)->HasL H' xs (rs.map Vb)->zV ks fl hs c rs->Q (.ref l) H'):Ol K H Q [.ref p,wv]
def MZ(K:W.Frag):Sp:=λZ H Q _=>Ol K H Q Z
def LW(B:Blt mg)(F:Fun K "_law_rows_drawn" "_law_rows_drawn" Lr f fd)(DH:Df P w K mg base n "_law_row_heads" ["_law_pen","_law_flat_here"] (Br K))(DB:Df P w K mg base n "_law_row_body" bps (Wq K 3)):Yh P w K mg base CX0 (n+1) f fd ["_law_pen","_law_world_here"] (MZ K):=by
 refine F.oi XD λR8 A G1 s H vs Q E hr h=>?_;obtain⟨p,sa,wv,ks,fl,hs,c,pn,wl,q⟩:=h;refine⟨_,YW (Yk 2 XD.nd<|Yx DH hr<|pa2 (pv 0)<|Ym Yp (pv 1) YX)
  (YW (Yk 3 XD.nd<|Vv Vd)
  (YW (Vq Zt rfl (VF<|pv 2) (VO (n:=3) rfl (Yi (Yb 4 XD.nd)<|Yi (Yb 5 XD.nd)<|Yi (Yb 6 XD.nd) VC))
   (YW (Yk 7 XD.nd<|Yx DB hr<|pa6 (pv 0) (pv 1) (pv 2) (VB Vw rfl B.list Vm (pa1<|pv 5)) (pv 6) YX)
   (YZ<|Ve<|Ui Zx Zy Zz V2 (pv 3)<|pa1<|Y0<|pa4 (pv 4) (pv 5) (pv 6)<|pv 7)))
  (YZ<|Yo<|pv 3))),?_⟩
 dsimp only[Vi,Cx.nox,Cx.wish];show let T0:=_;let T1:=_;let T2:=Yg _ T1;let T3:=Yg (Jt _ _ T2) T0;let T4:=Yg _ T3;Yg _ T4 _ _ _
 intros
 obtain⟨wa,fa,ha,xf,xh,rfl,M2,R4,L1,R7,a⟩:=wl.at;exists _,_,Z0 M2,Y;refine⟨p,sa,.ref fa,fl,c,pn,VD R4 L1,wl.ok,λhl xr g H1 G M R5 D R Z8 l6 J T J1 Z9=>?_⟩;have R6:=Y2 Jr g;have v:hl≠p:=pn.ne R5;have G2:=R.length;rw[ZA]at G2;refine⟨sl 0,λl R3=>?_⟩;have N:=Lb.new M R3;generalize upd H1 l (.lst [])=H2 at N |-;exists ⟨_,Z1<|N.sb _ _ v D⟩;have J2:RWd H1 (.ref hl) fl g c:=⟨VD D R,J.nd,l6,T,λy m=>Z9.all Z8 m⟩
 let I:kH:=λi U C=>∃L:List Rw,Lb K sa H1 p l (L.map Vb) C/\L.map (·.1)=g.take i/\(∀x∈L,RK ks (Y5 hs) (Y5 g) (kvP x.1.2.1) x.1.2.2 2 x.2)/\∃z4 z5 z6 z7:kJ,U=[some (.ref p),some<|.ref wa,some<|.ref hl,some<|.ref l,z4,z5,z6,z7]
 refine UK (xs:=xr) I ⟨[],N,Y,(λx m=>nomatch m),_,_,_,_,Y⟩ (λi U C _ z=>let⟨_,h,_⟩:=z;Z1 (h.sb _ _ v D)) ?_ ?_
 .rintro BB RR i x U C hx ⟨L,lb,ers,rk,z4,z5,z6,z7,rfl⟩
  obtain⟨h,hh,a⟩:=getD R hx;have hm:=ZH hh;have ho:=T h hm;have il:=(ZE.mp hh).1;obtain⟨t,u,xs,rfl,ht,hu,o⟩:=XS<|UD (M.tk lb.sb) _ (Jr _) a;exists _,Z0 ht,Y;refine⟨u,_,Y,.inr<|Z0 hu,λla R1=>?_⟩;refine up_in R1 _ λH3 S g3=>?_;have k:=lb.pn.same S;refine⟨p,sa,.ref wa,.ref hl,.ref la,h.2.2,2,ks,fl,hs,g,h.2.1,c,k,((wl.pn (G.trans lb.sb) pn).sm S).sw (VD g3<|o.mono S) ho.nd ho.len,J2.pn (lb.sb.trans S.sb) M,ho.own,by decide,λub b H4 X J5 hb J4=>?_⟩;have r:=(lb.sm S).mv X J5;obtain⟨z0,Z,O,_⟩:=r.zs;refine⟨.inl ⟨Y,_,Z1 Z⟩,sl 4,λt1 N2=>?_⟩;refine up_in N2 _ λH5 j g5=>?_;have lr:=congrArg List.length ers;rw[ZA,ZL]at lr;have ln:=O.length;rw[ZA]at ln;refine⟨l,_,_,Y,Y,j _ _ Z,Yt<|by omega,?_⟩;have tk:TK C H5:=λb us e=>j _ _<|k.tk X _ _<|S _ _ e;have G3:=(r.sm j).ap (d:=Vb (h,b)) (j _ _ Z) (Yu g5<|Z2 Yv<|Z2 (Yu (tk _ _ hu)<|VU tk _ (Y2 UB _) o)<|Z2 Yv<|Z3<|hb.mono j)<|Vn _;refine⟨L++[(h,b)],by rw[ZI];exact G3,by rw[ZI,ers,take_snoc hh];rfl,λx hx=>?_,_,_,_,_,Y⟩;rcases ZV.mp hx with m|m
  .exact rk x m
  .rw [ZO.mp m];exact J4
 .rintro U C ⟨L,lb,ers,rk,z4,z5,z6,z7,rfl⟩
  rw[Ze (by omega)]at ers;obtain⟨z0,Z,O,_⟩:=lb.zs;have lr:=congrArg List.length ers;rw[ZA]at lr;refine q l z0 L C (G.trans lb.sb) lb.pn (G.free lb.np lb.fl) Z O ⟨by omega,by omega,?_,λx m=>T _ (by rw[<-ers];exact ZU.mpr ⟨x,m,Y⟩),by rw[ers];exact J1,λy m=>?_,by rw[ers];exact rk⟩
  .rw [<-ers,yg]at J
   exact J
  .obtain ⟨h,hm,e⟩:=Z9.all Z8 m
   rw[<-ers]at hm;obtain⟨x,hx,rfl⟩:=ZU.mp hm;exact⟨x,hx,e⟩
end
end K4
namespace L2
open PySem
def EU(e:TK H L){ws:List (kz)}(h:HasL H Z (ws.map TY)):HasL L Z (ws.map TY):=TQ (λu v J=>by
 obtain⟨a,rfl,G⟩:=NL J;exact MU<|e _ _ G) h
theorem Bd.nl_at:∀(w:kz)(b c:Bd),b.nl->b.at w=some c->c.nl
 |[],b,c,h,e=>by unfold Bd.at at e;cases e;exact h
 |i::w,b,c,h,e=>by
  unfold Bd.at at e
  split at e
  .split at e
   .rename_i c' hc'
    refine Bd.nl_at w _ c ?_ e;have m:=ZH hc'
    cases b with
    |tag t=>cases m
    |name x=>cases m
    |pair a e=>
     unfold Bd.nl at h;simp only[Bd.parts,Zb,vy,or_false]at m;rcases m with rfl|rfl
     .exact h.1
     .exact h.2
    |one e=>unfold Bd.nl at h;simp only[Bd.parts,ZO]at m;rw[m];exact h
    |other e=>unfold Bd.nl at h;simp only[Bd.parts,ZO]at m;rw[m];exact h
    |choose e Z J=>
     unfold Bd.nl at h;simp only[Bd.parts,Zb]at m;rcases m with rfl|m
     .exact h.1
     .exact Bd.nls_iff.mp h.2 _ m
    |ask f G=>unfold Bd.nl at h;exact Bd.nls_iff.mp h _ m
    |letb x k e g=>unfold Bd.nl at h;exact h.elim
   .cases e
  .cases e
def Bd.nl_word{b:Bd}(h:b.nl):b.word≠"let":=by
 cases b with
 |letb x k e g=>unfold Bd.nl at h;exact h.elim
 |_=>dsimp only[Bd.word];decide +kernel
end L2
namespace K4
open PySem L2
section
def WS:Yn ["body","found","number","part"] ["body"] (Yc G4):=Y7
def C1:List.Nodup [("place":Str),"number"]:=by decide +kernel
inductive SPl(n:Nat)(H:Hp)(Q:VK):List V->Prop
 |mk (v:V) (b:Bd) (hv:Has H v b.dat) (ok:b.ok) (dn:b.dep<n) (d20:b.dep<=20) (sz:b.size<=9000) (q:∀(r:Addr)(H':Hp),Same H H'->Has H' (.ref r) (.lst (b.places.map TY))->Q (.ref r) H'):SPl n H Q [v]
def Fe(n:Nat):Sp:=λZ H Q _=>SPl n H Q Z
def Cj(me:N "enumerate"=none)(F:Fun K "places" "places" G4 f X)(G:Yh P w K N base CX0 m f X ["body"] (Fe n))(bG:Binds K X ["body"] [])(mG:N "places"=some (.ref f))(DP:Df P w K N base m "parts" ["body"] XB):Yh P w K N base CX0 (m+1) f X ["body"] (Fe<|n+1):=by
 have DG:Df P w K N base m "places" ["body"] (Fe n):=⟨f,X,mG,F.kp,bG,G⟩;refine F.oi WS λL1 A Z9 s H vs Q E hr h=>?_;obtain⟨v,b,hv,ok,dn,G3,sz,q⟩:=h;refine⟨_,YW (Yk 1 WS.nd<|Vv<|pa1<|Y0 Vd)
  (YW (Vq Zt rfl (XH rfl me (pa1<|Yx DP hr<|pa1<|pv 0)) (VO (n:=2) rfl (Yi (Yb 2 WS.nd (hx:=Or.inr rfl))<|Yi (Yb 3 WS.nd) VC))
   (YZ (Ve (Ui Zx PySem.F.slot_list_extend PySem.F.type_list_extend IO (pv 1) (pa1 (VL ["place"] [2] (VF<|Yx DG hr<|pa1<|pv 3) (VM (i:=0)<|by decide) (λcl C fp s H=>Yb 0 C1 rfl (Or.inl rfl) (Or.inr rfl))
    (λcl C fp s H=>Y1 (r:=WX K) Wa (Y0<|pa1<|pv 1)<|pv 0)))))))
  (YZ<|Yo<|pv 1)),?_⟩
 dsimp only[Vi,Cx.nox,Cx.wish];show let T0:=_;let T1:=_;let T2:=Yg (Jt _ _ T1) T0;Yg _ T2 _ _ _
 intros
 refine⟨sl 0,λt0 J4=>?_⟩;refine up_in J4 _ λH1 l g1=>?_;refine⟨sl 1,λZ T=>?_⟩;refine up_in T _ λH2 d g2=>?_;refine⟨v,b,Y,(hv.mono l).mono d,ok,λu H3 p J2=>?_⟩;obtain⟨a,xs,rfl,ha,L⟩:=Yz J2;have lx:=L.length;rw[Z7]at L;rw[Z7,ZA]at lx;have g3:=p _ _ g2;have J1:a≠Z:=JQ ha g3 (by intro z;cases z);have Z8:=(l.trans d).trans p;have fH:H Z=none:=l.free T;exists a,true,xs,Y,Z0 ha
 let I:kH:=λi U J=>(∀b o,b≠Z->H3 b=some o->J b=some o)/\∃M,J Z=some (.lst M)/\HasL J M (([]::Bd.pls 0 (b.parts.take i)).map TY)/\∃y j:kJ,U=[some v,some<|.ref Z,y,j]
 refine X3 (tp:=true) (xs:=xs) I ⟨λb o _ e=>e,_,g3,Z3<|MU (ws:=[])<|p _ _<|d _ _ g1,_,_,rfl⟩ (λi U J _ z=>Z0<|z.1 _ _ J1 ha) ?_ ?_
 .rintro BB RR i x U J r hx ⟨fi,M,hfi,hzi,y,j,rfl⟩ hr'
  refine up_in hr' _ λHR k gR=>?_;have g:TK H3 J:=λb us h=>fi b _ (JQ h g3 (by intro z;cases z)) h;obtain⟨c,hc,G2⟩:=getD L hx;have S:=ZH hc;have dc:=Bd.dep_mem S;have le:=Bd.part_le hc;rw[Bd.places_len _ b (ZF _),Bd.places_len _ c (ZF _)]at le;exists _,Z0 gR,Y;exists .inl ⟨Y,_,Z1<|k _ _ hfi⟩;refine⟨x,c,(UD g _ (Bd.st _) G2).mono k,Bd.ok_parts ok c S,by omega,by omega,by omega,λr2 H4 s4 h4=>?_⟩;obtain⟨_,os,er,ho,G1⟩:=VR h4;cases er;exists ⟨_,Z1 ho⟩;refine Js (us:=c.places) (D:=TY) (F:=λw=>TY (((i:Nat):Int)::w)) (λH' s=>itl<|Z1<|s _ _ ho) G1 (by rw[Bd.places_len _ c (ZF _)];omega) (λw x H5 R hm s5 hx hR=>?_) λvs q1 H5 fq s5 J5 O=>?_
  .obtain ⟨pw,rfl,hpw⟩:=NL hx
   exact⟨sl 1,QX hpw (ZZ (Bd.way_len _ c (ZF _) w hm)<|by omega) λt H6 s6 ht=>hR _ _ s6<|MU ht⟩
  .have sA:=(k.trans s4).trans s5
   have B:=sA _ _ hfi;have lz:=hzi.length;rw[ZA,Zd]at lz;have lv:=O.length;rw[ZA,Bd.places_len _ c (ZF _)]at lv;refine⟨Z,q1,_,_,Y,Y,B,J5,Zf<|Ti<|by omega,?_⟩;have tk:TK H5 (upd H5 Z<|.lst<|M++ vs):=Jv B λxs z=>nomatch z
   refine⟨λb o n e=>by rw[Yd n];exact sA _ _<|fi b o n e,_,Ya,?_,_,_,Y⟩;rw[Bd.pls_snoc hc,<-jS,ZI];refine Z5 (EU tk<|hzi.mono sA) ?_;rw[yg];have:=EU tk (ws:=c.places.map λw=>((i:Nat):Int)::w) (by rw[yg];exact O);rw[yg]at this;exact this
 .rintro U J ⟨fi,M,hfi,hzi,y,j,rfl⟩
  rw[lx,vj,<-Bd.places_eq]at hzi;exact q Z J (λb o e=>fi b o (Yj e fH)<|Z8 _ _ e)<|VD hfi hzi
theorem Qn(J:Z "enumerate"=none)(F:Fun K "places" "places" G4 f L)(M:Binds K L ["body"] [])(G:Z "places"=some (.ref f))(N:Df P w K Z base 1 "parts" ["body"] XB):∀n,Yh P w K Z base CX0 (1+n) f L ["body"]<|Fe n
 |0=>.none λT H Q E h=>by
  obtain⟨v,b,A,D,O,R,B,q⟩:=h;exact Zp O<|Zu _
 |n+1=>Cj (m:=1+n) J F (Qn J F M G N n) M G<|N.up<|by omega
def Xv:Yn ["body","place","part","number"] ["body","place"] (Yc Ts):=Y7
inductive FU(H:Hp)(Q:VK):List V->Prop
 |mk (v:V) (a:Addr) (b c:Bd) (ws:List Int) (hv:Has H v b.dat) (ok:b.ok) (ha:H a=some (.tup (ws.map V.int))) (hc:b.at ws=some c) (q:∀u H',Same H H'->Has H' u c.dat->Q u H'):FU H Q [v,.ref a]
def Wr:Sp:=λZ H Q _=>FU H Q Z
def Dt(F:Fun K "part_at" "part_at" Ts f l)(DP:Df P w K j base n "parts" ["body"] XB):Yh P w K j base CX0 (n+1) f l ["body","place"] Wr:=by
 refine F.oi Xv λZ8 A L s H vs Q E g h=>?_;obtain⟨v,a,b,c,R,t,X,B,k,q⟩:=h;refine⟨_,YW (Yk 2 Xv.nd<|pv 0) (YW (Vq Zt rfl (V9<|pv 1) (Yb 3 Xv.nd)
  (YZ<|Yk 2 Xv.nd<|Ym Yp (Yx DP g<|pa1<|pv 2) (pv 3) λ_ _=>rfl))
  (YZ<|Yo<|pv 2)),?_⟩
 dsimp only[Vi,Cx.nox,Cx.wish];show let T0:=_;let T1:=_;let T2:=Yg (Jt _ _ T1) T0;Yg _ T2 _ _ _
 intros
 refine Ee Y ?_;exists ⟨_,Z0 B⟩
 let I:kH:=λi U J=>Same H J/\∃u z Z,U=[some v,some<|.ref a,some u,z]/\Has J u (Bd.dat Z)/\Z.ok/\Z.at (R.drop i)=some c
 refine RX (xs:=R.map V.int) I ⟨Z6 _,v,none,b,Y,t,X,k⟩ (λi U J _ z=>Z0<|z.1 _ _ B) ?_ ?_
 .rintro BB RR i x U J hx ⟨sj,u,z,Z,rfl,hu,okb,e⟩
  obtain⟨m,r,rfl,e1,o,hm⟩:=Id hx;rw[e1]at e;unfold Bd.at at e
  by_cases hm0:0<=m
  case neg=>rw[Zo hm0]at e;cases e
  rw[Zn hm0]at e
  cases hp:Z.parts[m.toNat]? with
  |none=>rw[hp]at e;cases e
  |some S=>
   rw[hp]at e;refine⟨u,Z,Y,hu,okb,λu2 H2 C p=>?_⟩;obtain⟨p2,xs,rfl,N,O⟩:=Yz p;rw[Z7]at O;have y:=O.length;rw[ZA]at y;have hi:=(ZE.mp hp).1;have G:m.toNat<xs.length:=by omega
   obtain⟨d,T,M⟩:=getD O<|ZC G;rw[hp]at T;cases T;have D:=Yw<|ZC G;rw[show((m.toNat:Nat):Int)=m by omega]at D;exact⟨_,xs[m.toNat],Z0 N,D,sj.trans C,_,_,S,Y,M,Bd.ok_parts okb S<|ZH hp,by rw[o];exact e⟩
 .rintro U J ⟨sj,u,z,Z,rfl,hu,okb,e⟩
  rw[ZA,List.drop_length]at e;unfold Bd.at at e;cases e;exact q u J sj hu
end
end K4
namespace L2
open PySem
structure BE(H:Hp)(C CK t:Addr)(ks:List (Str×Shp))(c d:Str->Nat)(ds:List Dd):Prop where
 bi:BI H C CK t ks d ds
 kk:KK 30 c d ks
 hk:HK (ks.map (·.1)) (Y5 (ds.map (·.1)))
 pl:∀x∈ds,x.1.2.1.length<=3
 k6:ks.length<=6
def BE.mono(b:BE H C L t Z c d J)(s:Same H G):BE G C L t Z c d J:={b with bi:=b.bi.mono s}
structure Bo(b:Bd):Prop where
 ok:b.ok
 dep:b.dep<=4
 nl:b.nl
def Bo.size(h:Bo b):b.size<=9000:=ZZ (Bd.size_le 4 b h.dep h.ok)<|by decide
def Sd.bo(h:Sd J G Z y 5 b):Bo b:=⟨h.ok,Nat.le_of_lt_succ h.dep,h.nl⟩
end L2
namespace K4
open PySem L2
section
variable{C CK:Addr}
def To:Yn ["book","around","body","kind","place"] ["book","around","body"] (Yc Mj):=Y7
inductive SKW(C CK:Addr)(H:Hp)(Q:VK):List V->Prop
 |mk (t a:Addr) (v:V) (ks:List (Str×Shp)) (c d:Str->Nat) (ds:List Dd) (kv:List (Key×V)) (b:Bd) (be:BE H C CK t ks c d ds) (nk:NK (ks.map (·.1)) kv) (ha:Rd H a (.dK kv)) (k3:kv.length<=3) (hv:Has H v b.dat) (bo:Bo b) (q:∀H',Same H H'->Q (Up (kdn ks (Y5 (ds.map (·.1))) 13 kv b)) H'):SKW C CK H Q [.ref t,.ref a,v]
def Nv(C CK:Addr):Sp:=λZ H Q _=>SKW C CK H Q Z
def Ck(F:Fun K "kind_within" "kind_within" Mj f D)(j:Df P w K N base n "kind_or_place" ["book","around","body"] (Tf C CK 13)):Yh P w K N base CX0 (n+1) f D ["book","around","body"] (Nv C CK):=by
 refine F.oi To λS A J s H y Q E G h=>?_;obtain⟨t,a,v,R,c,d,I,O,b,Z,M,B,z,T,L,q⟩:=h;exists _,YW (V5 (Yx j G<|pa3 (pv 0) (pv 1)<|pv 2)<|VO (n:=2) rfl (Yi (Yb 3 To.nd)<|Yi (Yb 4 To.nd) VC))<|YZ<|Yo<|pv 3;show let U:=_;Yg _ U _ _ _
 intros
 have:=L.dep;exact⟨t,a,v,R,c,d,I,O,b,Y,Z.bi,Z.kk,Z.hk,M,Z.pl,B,by omega,T,L.ok,by omega,by decide,λr p X s G _=>⟨_,Z0 G,Y,q X s⟩⟩
def Ny:Yn ["book","around","body","lets"] ["book","around","body"] (Yc My):=Y7
def C3:List.Nodup [("place":Str),"body"]:=by decide +kernel
def Qt:List.Nodup [("part":Str)]:=by decide +kernel
def Cq(B:Blt O)(F:Fun K "kind_around" "kind_around" My f fd)(DW:Df P w K O base n "kind_within" ["book","around","body"] (Nv C CK))(DL:Df P w K O base n "places" ["body"] (Fe 5))(DA:Df P w K O base n "part_at" ["body","place"] Wr)(DN:Df P w K O base n "is_name" ["text"] (Xb 97)):Yh P w K O base CX0 (n+1) f fd ["book","around","body"] (Nv C CK):=by
 refine F.oi Ny λZ9 A m s H S Q E X h=>?_;obtain⟨t,a,v,ks,c,d,ds,kv,b,be,nk,ha,k3,p,L,q⟩:=h;refine⟨_,YW (G5 (i0:=3) ["part"] [] Ny.nd Y (Or.inl Y) (VF<|VL ["place"] [2] (VF<|Yx DL X<|pa1<|pv 2) (VM (i:=0)<|by decide) (λN C M s H=>Yb 0 C3 rfl (Or.inl rfl) (Or.inr rfl)) λN C M s H=>Yx DA X<|pa2 (pv 1)<|pv 0)
   (VM (i:=0)<|by decide) (λN C M s H=>Yb 0 Qt rfl (Or.inl rfl) (Or.inr rfl)) (λN C M s H=>Yq JK (Ym (r:=UG K) Yp (pv 0) YX) VA<|Yy _) (λN C M s H=>pv 0))
  (YW (Y4 (V8<|V7<|Yr (Wj rfl) rfl B.all X5 (pa1<|VL ["part"] [] (VF<|pv 3) (VM (i:=0)<|by decide) (λN C M s H=>Yb 0 Qt rfl (Or.inl rfl) (Or.inr rfl)) λN C M s H=>Yx DN X<|pa1<|Ym (r:=UG K) Yp (pv 0) YX)) (YZ<|Yo Vu) Ys)
  (YZ<|Yo<|Yx DW X<|pa3 (pv 0) (pv 1)<|pv 2)),?_⟩
 dsimp only[Vi,Cx.nox,Cx.wish];show let T0:=_;let T1:=_;let T2:=Yg (VJ _ T1 _) T0;Yg _ T2 _ _ _
 intros
 have dp:=L.dep;refine⟨v,b,p,L.ok,by omega,by omega,L.size,λr H1 s1 h1=>?_⟩;obtain⟨_,os,er,ho,o⟩:=VR h1;cases er;exists ⟨_,Z1 ho⟩;have lb:b.places.length<=10000:=by rw[Bd.places_len _ b (ZF _)];have:=L.size;omega
 refine Js (us:=b.places) (D:=TY) (F:=λw=>((b.at w).getD b).dat) (λH' s=>itl<|Z1<|s _ _ ho) o lb (λw x H2 R I y U hR=>?_) λS q1 H2 fq y T g=>?_
 .obtain ⟨pw,rfl,hpw⟩:=NL U
  obtain⟨c',Z⟩:=Bd.at_places _ b (ZF _) w I;exact⟨v,pw,b,c',w,(p.mono s1).mono y,L.ok,hpw,Z,λu H' s hu=>hR _ _ s (by rw[Z];exact hu)⟩
 exists ⟨_,Z1 T⟩;refine UY (us:=b.places) (E:=λw=>((b.at w).getD b).dat) (λ_=>false) (itl<|Z1 T) g lb (λw x R I U rT rF=>?_) λS l H3 fl s3 hl G=>?_
 .obtain ⟨c',Z⟩:=Bd.at_places _ b (ZF _) w I
  rw[Z]at U;obtain⟨bt,ys,rfl,hb⟩:=BO U;refine⟨_,_,Z0 hb,Yw (j:=0) Y,Y,_,Y,Y6 (λz=>?_)<|rF rfl⟩;exact Bd.nl_word (Bd.nl_at w b c' L.nl Z)<|V.str.inj<|Zr z
 obtain rfl:S=[]:=VP (by rw[show b.places.filter (λ_=>false)=[]from List.filter_eq_nil_iff.mpr λ_ _ z=>nomatch z]at G;exact G);exists ⟨_,Z1 hl⟩;refine JM (us:=([]:List Nat)) (D:=λ_=>.non) (E:=λ_=>.non) (itl<|Z1 hl) Z4 (by decide) (λu x R I=>nomatch I) λS q2 H4 Z8 s4 e k=>?_;obtain rfl:=VP k;refine⟨q2,[],Y,Z1 e,_,Y,Y6 (by simp) ?_⟩;have J:=((s1.trans y).trans s3).trans s4;exact⟨t,a,v,ks,c,d,ds,kv,b,be.mono J,nk,ha.same J,k3,p.mono J,L,λH' s=>q H'<|J.trans s⟩
def Fj:Yn ["parameters"] ["parameters"] (Yc Tt):=Y7
def Qu:List.Nodup [("name":Str),"kind"]:=by decide +kernel
inductive SKO(H:Hp)(Q:VK):List V->Prop
 |mk (v:V) (ps:List (Str×Str)) (hv:Has H v (psD ps)) (l3:ps.length<=3) (q:∀l H',H l=none->Same H H'->H' l=some (.lst ((ps.map (·.2)).map V.str))->Q (.ref l) H'):SKO H Q [v]
def Km:Sp:=λZ H Q _=>SKO H Q Z
def Co(F:Fun K "kinds_of" "kinds_of" Tt f X):Yh P w K g base CX0 (n+1) f X ["parameters"] Km:=by
 refine F.oi Fj λy A Z s H N Q E c h=>?_;obtain⟨v,G,L,k,q⟩:=h;exists _,YZ<|Yo<|VL ["name","kind"] [] (V9<|pv 0) UE (λj C S s H=>VO (n:=2) rfl (Yi (Yb 0 Qu rfl (Or.inl rfl) (Or.inr rfl))<|Yi (Yb 1 Qu rfl (Or.inl rfl) (Or.inr rfl)) VC)) λj C S s H=>pv 1;rw[M5]at L;obtain⟨a,m,rfl,M,T⟩:=Yz L;exists ⟨_,Z0 M⟩;refine JM (us:=G) (D:=prD) (E:=λp=>.str p.2) (itt<|Z0 M) T (by omega) (λu x R d B O=>?_) λN l z U s I J=>?_
 .obtain ⟨t,rfl,ht⟩:=Xo B
  exact⟨_,Z0 ht,Y,O _ Yv⟩
 .obtain rfl:=Uc (ns:=G.map (·.2)) (by rw[yg];exact J)
  exact q l z U s I
def Ky:Yn ["kinds","kind"] ["kinds","kind"] (Yc Mq):=Y7
end
end K4
namespace L2
open PySem
def Wd(o c:Nat):Bool:=decide (o<=c) && decide (c<o+26)
def V3(o:Nat)(x:Str):Bool:=decide (1<=x.length) && (decide (x.length<=8) && x.cps.toList.all (Wd o))
def IP(o c:Nat):decide (c∈(alpha o).cps.toList)=Wd o c:=by
 have e:(alpha o).cps.toList=(List.range 26).map (o + ·):=by show((List.range 26).map (o + ·)).toArray.toList=_;rw[List.toList_toArray]
 rw[e];unfold Wd;rw[vo,decide_eq_true_eq,ZX,decide_eq_true_eq,decide_eq_true_eq,ZU]
 constructor
 .rintro ⟨a,ha,rfl⟩
  have:=jF.mp ha;omega
 .rintro ⟨h1,h2⟩
  exact⟨c-o,jF.mpr<|by omega,by omega⟩
def WJ{x:Str}(G:1<=x.length)(J:x.length<=8)(Z:∀c∈x.cps.toList,o<=c/\c<o+26):V3 o x=true:=by
 unfold V3 Wd;rw[decide_eq_true G,decide_eq_true J,Bool.true_and,Bool.true_and,vO];intro c m;obtain⟨a,b⟩:=Z c m;rw[decide_eq_true a,decide_eq_true b];rfl
def kT(ks:kL)(y:Str):Bool:=match VS ks y with|some (.tags _)=>true|_=>false
end L2
namespace K4
open PySem L2
section
def WN:Sp:=λJ H Q _=>∃(x:Str)(o:Nat),J=[.str x,.str (alpha o)]/\x.length<=20/\∀Z,Same H Z->Q (.bl<|V3 o x) Z
def CU:R2:=λx y H Q=>∃i j,x=.str i/\y=.str j/\Q (.bl<|!(Builtin.Str.occurrences j i 0 j.length 1).isEmpty) H
def AD{X:Cx}:OpR X (compareOp .In) CU:=Fv
def A6{K:W.Frag}{x:Str}{o:Nat}{H:Hp}{Q:VK}{U:St}{N:TE}(L:∀c G R,R (.str<|alpha o) G->N (U.set 0<|some c) G R)(B:0<U.length)(A:x.length<=20)(q:∀Z,Same H Z->Q (.bl<|x.cps.toList.all<|Wd o) Z):
  Rh (Its x) (Vp 0) (tOp CU (Wo 0) N) U (λv G=>∃(p:Addr)(O:List Bool),[v]=[.ref p]/\SqL K G p (O.map V.bl)/\Q (.bl<|O.all id) G) H:=by
 have F:x.cps.size=x.length:=rfl;have I:x.cps.toList.length=x.length:=jB
 refine JN x.length (Yt<|by omega) (λi J Z=>Same H Z/\i<=x.length/\J=((x.cps.toList.take i).map<|Wd o).map V.bl) ⟨Z6 _,Za _,rfl⟩ (λi J Z z=>by
  obtain⟨_,E,T⟩:=z;rw[T,ZA,ZA,ZL];omega) ?_ ?_ ?_ ?_
 .intro i J Z hi z
  exact hi
 .intro J Z z
  exact ZF _
 .intro i J Z v H'' R hi z yl hR
  obtain⟨rfl,c,M,rfl⟩:=yl;show Nd (U.set 0<|some<|V.str ⟨#[c]⟩)[0]? _;rw[vQ B];refine L _ _ _ ⟨_,_,Y,Y,?_⟩;rw[StrLaws.found_one,IP];have D:x.cps.toList[i]?=some c:=by rw[Array.getElem?_toList];exact M
  refine hR _ _ ⟨z.1,hi,?_⟩;rw[z.2.2,take_snoc D,ZI,ZI];rfl
 .intro J Z p z hp
  refine⟨p,x.cps.toList.map<|Wd o,rfl,Z1<|by rw[Ya,z.2.2,Ze (by omega)],?_⟩;rw[show(x.cps.toList.map<|Wd o).all id=x.cps.toList.all (Wd o) by rw[jE];rfl];exact q _<|z.1.trans<|Ye hp _
def Fx(B:Blt J)(F:Fun K "is_spelt" "is_spelt" B4 f I)(T:J "LONGEST"=some u)(M:RelV (.int 8) u):Yh P w K J base CX0 (n+1) f I ["text","letters"] WN:=by
 refine F.ok O6 (λG H Q E h=>?_) λU A Z s H G Q E X h=>?_
 .obtain ⟨x,o,rfl,_⟩:=h
  rfl
 obtain⟨x,o,rfl,N,q⟩:=h;refine⟨_,YW (Y4 (V8<|V7<|RG rfl B.isi rfl B.str MI (pv 0)) (YZ<|Yo Jp) Ys)
  (YZ (Yo (WB (LS Gc Gc YX (Yr XU rfl B.len Zs (Y9 (pv 0) Vd))<|JE rfl T M)
   (WA (Yr (Wj rfl) rfl B.all X5 (Y9 (VL ["sign"] [1] (S0<|pv 0) (VM (i:=0)<|by decide)
    (λS C D s H=>Yb 0 C0 rfl (Or.inl rfl) (Or.inr rfl)) (λS C D s H=>UI AD (pv 0) (pv 1) rfl)) Vd)))))),?_⟩
 show let a:=_;let b:=_;Yg (VJ _ b _) a _ _ _
 intros
 exists _,_,_,_,Y,.str x,Wb K "str",_,Y;refine Y6 (by simp) ?_;have O:x.length<=sizeLine:=Zf (Yt<|by omega);exists x,Y,O,_,Y
 by_cases h1:1<=x.length
 .refine Vf (by simp;omega) ?_
  exists _,Y
  by_cases h8:x.length<=8
  .refine Vf (by simp;omega) ?_
   exists x,Y;refine A6 (λc j R q=>q) (Nat.zero_lt_succ _) N λy L=>?_;have e:V3 o x=x.cps.toList.all (Wd o):=by unfold V3;simp[h1,h8]
   rw[<-e];exact q _ L
  .refine Y6 (by simp;omega) ?_
   have e:V3 o x=false:=by unfold V3;simp[h8]
   rw[e]at q;exact q _<|Z6 _
 .refine Y6 (by simp;omega) ?_
  have e:V3 o x=false:=by unfold V3;simp[h1]
  rw[e]at q;exists _,Y;refine Y6 (by simp) ?_;exact q _<|Z6 _
def Td:Sp:=λJ H Q _=>∃(x:Str),J=[.str x]/\x.length<=20/\∀Z,Same H Z->Q (.bl<|V3 97 x) Z
def Fa:∀Z H Q E,Xb 97 Z H Q E->Td Z H Q E:=λZ H Q E ⟨x,e,G,J,L,q⟩=>⟨x,e,by omega,λM s=>by rw[WJ G J L];exact q M s⟩
def LZ(F:Fun K "is_name" "is_name" Mu f I)(G:Yh P w K J base CX0 n g D ["text","letters"] WN)(U:Binds K D ["text","letters"] [])(R:W.keepIn K (.ref g)=true)(N:J "is_spelt"=some (.ref g))(B:J "SMALL"=some u)(M:RelV (.str<|Str.ofString "abcdefghijklmnopqrstuvwxyz") u):Yh P w K J base CX0 (n+1) f I ["text"] Td:=by
 refine F.ok K1 (λL H Q E h=>?_) λS A Z s H L Q E T h=>?_
 .obtain ⟨x,rfl,_⟩:=h
  rfl
 obtain⟨x,rfl,O,q⟩:=h;exists _,YZ<|Yo<|Xx G T rfl N R U .nil VN (Y9 (pv 0)<|Y9 (JE rfl B M) Vd);refine⟨x,97,?_,O,q⟩;rw[<-Wt];rfl
def Fd:∀Z H Q E,MY Z H Q E->WN Z H Q E:=λZ H Q E ⟨x,o,e,_,G,J,L,q⟩=>⟨x,o,e,by omega,λM s=>by rw[WJ G J L];exact q M s⟩
end
section
variable{f g C CK:Addr}
def X8(ks:kL)(ps:List (Str×Str)):Prop:=ps.length<=3/\∀i p,ps[i]?=some p->V3 97 p.1=true/\p.1∉(ps.take i).map (·.1)/\p.2∈ks.map (·.1)
def WP(CK:Addr):Sp:=λM H Q _=>∃(L:Addr)(G:kL)(d:kM)(Z:List (Str×Str))(v:V),M=[.ref L,v]/\KI H CK L G d/\G.length<=6/\Has H v (psD Z)/\Z.length<=5/\(∀p∈Z,p.1.length<=20)/\
 (X8 G Z->∀J,Same H J->Q (.bl true) J)/\(¬X8 G Z->∀J,Same H J->Q (.bl false) J)
def IN(B:Blt o)(TC:KCl K CK)(F:Fun K "are_parameters" "are_parameters" Dg f fd)(hM:o "MOST_PARAMETERS"=some u)(rM:RelV (.int 3) u)(DN:Df P w K o base n "is_name" ["text"] Td)(m2:Vk K CK "names" g)(G2:Yh P w K o base CX0 n g gd ["self"] (XC CK))(b2:Binds K gd ["self"] []):Yh P w K o base CX0 (n+1) f fd ["kinds","parameters"] (WP CK):=by
 obtain⟨gn,J2,mN,kN,bN,GN⟩:=DN;refine F.ok G0 (λvs H Q E h=>?_) λJ4 A Z8 s H vs Q E hr h=>?_
 .obtain ⟨so,R,d,N,v,rfl,_⟩:=h
  rfl
 obtain⟨so,R,d,N,v,rfl,ki,k6,hv,l5,Z9,qt,r⟩:=h;have hu:=Jg hr;unfold psD at hv;obtain⟨pa,xs,rfl,L,X⟩:=Yz hv;have lx:=X.length;rw[ZA]at lx;refine⟨_,YW (Y4 (Yq Uz (Yr Yl Y B.len Zs (Y9 (pv 1) Vd)) (JE Y hM rM)<|Yy _) (YZ<|Yo Jp) Ys)
  (YW (Yk 2 G0.nd JJ)
  (YW (Vq Zt rfl (V9<|pv 1) (VO (n:=2) rfl (Yi (Yb 3 G0.nd)<|Yi (Yb 4 G0.nd) VC))
   (YW (Y4 (PW.pt<|Jm (V8<|V7<|Xx GN hr rfl mN kN bN .nil VN (Y9 (pv 3) Vd))<|Jm (Jy<|WC hu (pv 3)<|pv 2)<|Jc<|Yq JZ (pv 4) (VW (pv 0) TC.cl m2 G2 hr b2 .nil VN) rfl) (YZ<|Yo Jp) Ys)
   (YZ<|JP hu (pv 2) (pv 3) Jp rfl)))
  (YZ<|Yo Jp))),?_⟩
 dsimp only[Vi,Cx.nox,Cx.wish];show let a:=_;let b:=_;let c:=_;let d:=Yg (VJ _ c _) b;let e:=Yg (Jt _ _ d) a;let f:=Yg _ e;let g:=_;Yg (VJ _ g _) f _ _ _
 intros
 exists pa,_,Y,.inr<|Z0 L,_,rfl
 by_cases l3:N.length<=3
 case neg=>exact Vf (by simp;omega)<|r (λz=>l3 z.1) H<|Z6 _
 refine Y6 (by simp;omega) ?_;intro D y;have s1:=Ye y<|.dK [];have g1:upd H D (.dK []) D=some (.dK []):=Ya;generalize upd H D (.dK [])=H1 at s1 g1 |-;exists ⟨_,Z0<|s1 _ _ L⟩
 let I:kH:=λi U T=>Same H T/\(∀j p,j<i->N[j]?=some p->V3 97 p.1=true/\p.1∉(N.take j).map (·.1)/\p.2∈R.map (·.1))/\∃O z3 z4,T D=some (.dK O)/\O.map (·.1)=(N.take i).map (λp=>(Sum.inr p.1:Key))/\U=[some (.ref so),some<|.ref pa,some<|.ref D,z3,z4]
 refine FA (xs:=xs) I ⟨s1,λj p hj=>Zp hj<|Zu _,[],_,_,g1,rfl,rfl⟩ (λi U T _ z=>Z0<|z.1 _ _ L) ?_ ?_
 .rintro i x U T hx ⟨si,good,O,z3,z4,hk,ek,rfl⟩
  obtain⟨p,t,Z,rfl,ht⟩:=Dn X hx;have J1:=ZH Z;exists _,Z0<|si _ _ ht,rfl;refine⟨p.1,Y,Z9 p J1,λH2 J=>⟨_,Y,?_⟩⟩
  cases hw:V3 97 p.1 with
  |false=>exact Vf (by simp)<|r (λz=>by rw[(z.2 i p Z).1]at hw;cases hw) H2<|si.trans J
  |true=>
  refine Y6 (by simp) ?_;exists _,V1.k (k:=Sum.inr p.1)<|J _ _ hk,_,rfl
  by_cases nk:VI O (Sum.inr p.1)=none
  case neg=>
   refine Vf (by rw[Option.isSome_iff_ne_none.mpr nk])<|r (λz=>(z.2 i p Z).2.1 ?_) H2<|si.trans J;have m:(Sum.inr p.1:Key)∈O.map (·.1):=Classical.not_not.mp λz=>nk<|U7 z;rw[ek]at m;obtain⟨q1,G,q⟩:=ZU.mp m;exact ZU.mpr ⟨q1,G,Sum.inr.inj q⟩
  have nt:p.1∉(N.take i).map (·.1):=λz=>by
   refine Ng nk ?_;rw[ek];obtain⟨q1,G,q⟩:=ZU.mp z;exact ZU.mpr ⟨q1,G,by rw[q]⟩
  refine Y6 (by rw[nk];simp) ?_;have S:=ki.mono<|si.trans J;obtain⟨AK,SK,q,kd,kr⟩:=id S;refine⟨_,_,by rw[<-q];exact kd.ins,Y,so,R,d,Y,S,λl H3 s3 hl g3=>?_⟩;have el:(R.map λk=>V.str k.1)=(R.map (·.1)).map V.str:=by rw[yg];rfl
  rw[el]at g3;exists l,_,Y,.inl<|Z1 g3,rfl,Jj _,_,rfl;rw[J9]
  by_cases pk:p.2∈R.map (·.1)
  case neg=>exact Vf (by simp[pk])<|r (λz=>pk (z.2 i p Z).2.2) H3<|(si.trans J).trans s3
  refine Y6 (by simp[pk]) ?_
  have lk:O.length<=3:=by
   have:=congrArg List.length ek;rw[ZA,ZA,ZL]at this;omega
  refine⟨_,Us.k (k:=Sum.inr p.1) (s3 _ _<|J _ _ hk)<|Yt<|by omega,?_⟩;refine⟨((si.trans J).trans s3).putN y,λj p' hj M=>?_,_,_,_,Ya,?_,Y⟩
  .by_cases e:j=i
   .rw [e,Z]at M;cases M;rw[e];exact⟨hw,nt,pk⟩
   .exact good j p' (by omega) M
  .rw [Ux _ nk,ZI,ek,take_snoc Z,ZI]
   rfl
 .rintro U T ⟨si,good,_⟩
  exact qt ⟨l3,λi p Z=>good i p (by rw[lx];exact(ZE.mp Z).1) Z⟩ T si
def Ir:∀Z H Q E,Mf CK Z H Q E->WP CK Z H Q E:=λZ H Q E ⟨R,F,d,T,v,e,A,I,S,D,J,B,G,q⟩=>⟨R,F,d,T,v,e,A,I,S,by omega,λp m=>by have:=(G p m).2.1;omega,λ_=>q,λn=>(n ⟨D,λi p L=>by
 have m:=ZH L;obtain⟨O,N,M⟩:=G p m;refine⟨WJ O N M,?_,J p m⟩;rw[vd];exact X0 B (by rw[ZG,L];rfl)⟩).elim⟩
inductive zP(CK:Addr)(H:Hp)(Q:VK):List V->Prop
 |mk (so:Addr) (y:Str) (ks:List (Str×Shp)) (d:Str->Nat) (ki:KI H CK so ks d) (q:∀H',Same H H'->Q (.bl (kT ks y)) H'):zP CK H Q [.ref so,.str y]
def Kl(CK:Addr):Sp:=λZ H Q _=>zP CK H Q Z
def AJ(S:KCl K CK)(F:Fun K "is_of_tags" "is_of_tags" Mq f o)(t:Vk K CK "names" L)(G1:Yh P w K D base CX0 n L x ["self"] (XC CK))(b1:Binds K x ["self"] [])(X:Vk K CK "shape_of" r)(G2:Yh P w K D base CX0 n r a ["self","kind"] (Jw CK))(b2:Binds K a ["self","kind"] []):Yh P w K D base CX0 (n+1) f o ["kinds","kind"] (Kl CK):=by
 refine F.oi Ky λZ8 A M s H vs Q E I h=>?_;obtain⟨T,y,Z,d,N,q⟩:=h;exists _,YZ<|Yo<|WB (UI W3 (pv 1) (VW (pv 0) S.cl t G1 I b1 .nil VN) rfl)<|WA<|UI JK (Ym Yp (Vg (pv 0) S.cl X G2 I b2 .nil VN<|pa1<|pv 1) YX) VA<|Yy _;dsimp only[Vi,Cx.nox,Cx.wish];obtain⟨AK,SK,R,O,p⟩:=id N;refine⟨_,_,by rw[<-R];exact O.ins,Y,T,Z,d,Y,N,λl H1 G hl L=>?_⟩;have i:(Z.map λk=>V.str k.1)=(Z.map (·.1)).map V.str:=by rw[yg];rfl
 rw[i]at L;exists l,_,Y,.inl<|Z1 L,rfl,Jj _;rw[J9];unfold kT at q
 cases hs:VS Z y with
 |none=>
  rw[hs]at q;have U:y∉Z.map (·.1):=λm=>by obtain⟨B,e⟩:=JC m;rw[hs]at e;cases e
  exact⟨_,Y,Y6 (by exact λz=>U<|Zr z)<|q _ G⟩
 |some B=>
  rw[hs]at q;refine⟨_,Y,Vf (by exact decide_eq_true<|ZU.mpr ⟨_,JU hs,rfl⟩) ?_⟩;have J:=N.mono G;obtain⟨AK,SK,R,O,p⟩:=id J;refine⟨_,_,by rw[<-R];exact O.ins,Y,T,Z,d,y,_,Y,J,hs,λv c=>?_⟩;obtain⟨b,zs,rfl,u⟩:=Tl c;exists _,_,Z0 u,Yw (j:=0) Y,Y
  cases B with
  |tags ts=>exact q _ G
  |pair e g=>exact q _ G
end
end K4
namespace L2
open PySem
structure RA7 where
 t:Addr
 dx:Addr
 bk:Addr
 td:Addr
 sd:Addr
def Ga(A:RA7):List (Str×V):=[("book",.ref A.bk),("told",.ref A.td),("steps",.ref A.sd)]
def GZ(x:Rw):Dat:=.tup [psD x.1.2.1,.str x.1.2.2,x.2.dat]
def Ta(x:Rw):(GZ x).st=true:=by unfold GZ;simp[Dat.st,Dat.sts,RE,Rb.st]
structure RD(H:Hp)(CW:Addr)(A:RA7)(kv:List (Key×V))(rs:List Rw):Prop where
 ins:H A.t=some (.ins CW A.dx (Ga A))
 td:H A.td=some (.dK kv)
 ke:kv.map (·.1)=rs.map (λx=>(Sum.inr x.1.1:Key))
 va:HasL H (kv.map (·.2)) (rs.map GZ)
 nd:(rs.map λx=>x.1.1).Nodup
def RD.mono(r:RD H CW A Z rs)(s:Same H J):RD J CW A Z rs:=⟨s _ _ r.ins,s _ _ r.td,r.ke,r.va.mono s,r.nd⟩
def RD.at(b:RD H CW A J rs)(h:x∈rs):∃v,V1 H A.td (.str x.1.1) (some v)/\Has H v (GZ x):=by
 obtain⟨i,L⟩:=yh.mp h;have O:(J.map (·.1))[i]?=(rs.map λx=>(Sum.inr x.1.1:Key))[i]?:=by rw[b.ke]
 rw[ZG,ZG,L]at O;obtain⟨q,M,B⟩:=Zh.mp O
 have T:(J.map (·.1)).Nodup:=by
  rw[b.ke];have Z:=b.nd;unfold List.Nodup at Z |-;rw[vV]at Z |-;exact Z.imp λG z=>G<|Sum.inr.inj z
 obtain⟨y,R,D⟩:=getD b.va (show(J.map (·.2))[i]?=some q.2 by rw[ZG,M];rfl);rw[L]at R;cases R;refine⟨q.2,?_,D⟩;have N:=Gu T<|ZH M;rw[B]at N;rw[<-N];exact V1.k (k:=Sum.inr x.1.1) b.td
def RD.no(b:RD H CW A G rs)(h:r∉rs.map λx=>x.1.1):V1 H A.td (.str r) none:=by
 have:VI G (Sum.inr r)=none:=U7 (by
  rw[b.ke];intro z;obtain⟨J,Z,L⟩:=ZU.mp z;exact h<|ZU.mpr ⟨J,Z,Sum.inr.inj L⟩)
 rw[<-this];exact V1.k (k:=Sum.inr r) b.td
def U1(h:Has H v (GZ x)):∃a u w,v=.ref a/\H a=some (.tup [u,.str x.1.2.2,w])/\Has H u (psD x.1.2.1)/\Has H w x.2.dat:=by
 unfold GZ at h;obtain⟨t,D,rfl,N,O⟩:=Yz h;obtain⟨M,I,rfl,B,G⟩:=Yf O;obtain⟨E,A,rfl,T,J⟩:=Yf G;obtain⟨L,F,rfl,R,Z⟩:=Yf J;obtain rfl:=VP Z;obtain rfl:=has_str T;exact⟨t,M,L,Y,N,B,R⟩
structure RCl(K:W.Frag)(CW:Addr):Prop where
 cl:Cls K CW
 bk:JG K CW "book"
 td:JG K CW "told"
 sd:JG K CW "steps"
def Fo(A:RA7):(Ga A).lookup ("book":Str)=some (V.ref A.bk):=rfl
def Tz(A:RA7):(Ga A).lookup ("told":Str)=some (V.ref A.td):=rfl
theorem An:∀{ns:List Bool}{Z:kF},HasL H Z (ns.map Dat.bl)->Z=ns.map V.bl
 |[],Z,h=>VP h
 |n::ns,Z,h=>by
  obtain⟨x,r,rfl,J,G⟩:=Yf h;unfold Has at J;rw[J,An G];rfl
def FlK.mem(f:FlK J Z)(m:y∈Z):y∈J.map (·.1):=let⟨_,h,_⟩:=f y m;ZU.mpr ⟨_,JU h,rfl⟩
end L2
namespace K4
open PySem L2
section
variable{C CK CW:Addr}
def Kx:Yn ["self"] ["self"] (Yc Ml):=Y7
inductive SRN(CW:Addr)(H:Hp)(Q:VK):List V->Prop
 |mk (A:RA7) (kv:List (Key×V)) (rs:List Rw) (rd:RD H CW A kv rs) (q:∀l H',H l=none->Same H H'->H' l=some (.lst ((rs.map λx=>x.1.1).map V.str))->Q (.ref l) H'):SRN CW H Q [.ref A.t]
def Kg(CW:Addr):Sp:=λZ H Q _=>SRN CW H Q Z
def Cc(B:Blt L)(T:RCl K CW)(F:Fun K "names" "Rows.names" Ml f M):Yh P w K L base CX0 (n+1) f M ["self"] (Kg CW):=by
 refine F.oi Kx λN A Z s H O Q E D h=>?_;obtain⟨I,J,R,b,q⟩:=h;exists _,YZ<|Yo<|VB (Ua rfl) rfl B.list Vm (pa1<|Y8 (pv 0) rfl);refine⟨CW,_,_,_,b.ins,T.cl,T.td,Tz _,_,_,Y,b.td,λl G=>?_⟩;refine q l _ G (Ye G _) ?_;rw[Ya];have e:(J.map λq=>kV q.1)=(J.map (·.1)).map kV:=by rw[yg];rfl
 rw[e,b.ke,yg,yg]
 rfl
def Eh:Yn ["self","r"] ["self","r"] (Yc Mm):=Y7
inductive SRK(CW:Addr)(H:Hp)(Q:VK):List V->Prop
 |mk (A:RA7) (kv:List (Key×V)) (rs:List Rw) (x:Rw) (rd:RD H CW A kv rs) (hx:x∈rs) (q:Q (.str x.1.2.2) H):SRK CW H Q [.ref A.t,.str x.1.1]
def Kh(CW:Addr):Sp:=λZ H Q _=>SRK CW H Q Z
def Cd(T:RCl K CW)(F:Fun K "kind_of" "Rows.kind_of" Mm f R):Yh P w K j base CX0 (n+1) f R ["self","r"] (Kh CW):=by
 refine F.oi Eh λB A Z s H U Q E M h=>?_;obtain⟨z,y,X,x,b,L,q⟩:=h;have J:=Jg M;refine⟨_,YW (Y4 (Jy<|UM J (pv 1)<|Y8 (pv 0) rfl) (YZ Jn) Ys)
  (YZ<|Yo<|Ym Yp (JF J (Y8 (pv 0) rfl) (pv 1) λ_ _=>rfl) YX),?_⟩
 dsimp only[Vi,Cx.nox,Cx.wish];show let I:=_;let D:=_;Yg (VJ _ D _) I _ _ _
 intros
 obtain⟨v,G,O⟩:=b.at L;obtain⟨a,u,S,rfl,N,_,_⟩:=U1 O;refine⟨CW,_,_,_,b.ins,T.cl,T.td,Tz _,_,G,_,Y,Y6 (by simp) ?_⟩;exact⟨CW,_,_,_,b.ins,T.cl,T.td,Tz _,_,G,_,_,Z0 N,Y,q⟩
def Ei:Yn ["self","name","parameters","kind","kinds"] ["self","name","parameters","kind"] (Yc B6):=Y7
def AU:List.Nodup [("one":Str),"kinds"]:=by decide +kernel
def FY(ks:kL)(kv:kE)(h:Hd):Prop:=V3 97 h.1=true/\VI kv (Sum.inr h.1)=none/\X8 ks h.2.1/\∀y∈h.2.2::h.2.1.map (·.2),kT ks y=true
inductive zO(CW C CK:Addr)(H:Hp)(Q:VK):List V->Prop
 |mk (A:RA7) (kv:List (Key×V)) (h:Hd) (v:V) (ks:List (Str×Shp)) (c d:Str->Nat) (ds:List Dd) (ins:H A.t=some (.ins CW A.dx (Ga A))) (td:H A.td=some (.dK kv)) (be:BE H C CK A.bk ks c d ds) (ln:h.1.length<=20) (hv:Has H v (psD h.2.1)) (l5:h.2.1.length<=5) (l20:∀p∈h.2.1,p.1.length<=20) (qt:FY ks kv h->∀H',Same H H'->Q (.bl true) H') (qf:¬FY ks kv h->∀H',Same H H'->Q (.bl false) H'):zO CW C CK H Q [.ref A.t,.str h.1,v,.str h.2.2]
def Kj(CW C CK:Addr):Sp:=λZ H Q _=>zO CW C CK H Q Z
def AH(B:Blt L)(T:RCl K CW)(TB:BCl K C)(F:Fun K "is_head" "Rows.is_head" B6 f fd)(m1:Vk K C "kinds" g1)(G1:Yh P w K L base CX0 n g1 d1 ["self"] (JH C CK))(b1:Binds K d1 ["self"] [])(DN:Df P w K L base n "is_name" ["text"] Td)(DA:Df P w K L base n "are_parameters" ["kinds","parameters"] (WP CK))(DK:Df P w K L base n "kinds_of" ["parameters"] Km)(DO:Df P w K L base n "is_of_tags" ["kinds","kind"] (Kl CK)):Yh P w K L base CX0 (n+1) f fd ["self","name","parameters","kind"] (Kj CW C CK):=by
 refine F.oi Ei λZ9 A X s H vs Q E M h=>?_;obtain⟨A',kv,h,v,G,c,d,ds,ins,td,g,ln,hv,o,j,qt,I⟩:=h;have hu:=Jg M;refine⟨_,YW (Yk 4 Ei.nd (VW (Y8 (pv 0) Y) TB.cl m1 G1 M b1 .nil VN) (by exact Y)<|Or.inr rfl)
  (YW (Y4 (PW.pt<|Jm (V8<|V7<|Yx DN M<|pa1<|pv 1)<|Jm (Jy<|WC hu (pv 1)<|Y8 (pv 0) rfl)<|Jc<|V8<|V7<|Yx DA M<|pa2 (pv 4)<|pv 2) (YZ<|Yo Jp) Ys)
  (YZ<|Yo<|Yr (Wj rfl) rfl B.all X5 (pa1<|VL ["one"] [4] (VF<|Y1 Dr (Vv<|pa1<|pv 3)<|Yx DK M<|pa1<|pv 2) (VM (i:=0)<|by decide) (λcl C fp s H=>Yb 0 AU rfl (Or.inl rfl) (Or.inr rfl)) λcl C fp s H=>Yx DO M<|pa2 (pv 1)<|pv 0))),?_⟩
 dsimp only[Vi,Cx.nox,Cx.wish];show let T0:=_;let T1:=_;let T2:=Yg (VJ _ T1 _) T0;Yg _ T2 _ _ _
 intros
 obtain⟨AB,Z8,eB,bd⟩:=id g.bi;refine⟨CW,_,_,_,ins,T.cl,T.bk,Fo _,_,_,by rw[<-eB];exact bd.ins,Y,A'.bk,G,d,ds,Y,g.bi,λu a=>?_⟩;refine⟨h.1,Y,ln,λH1 Z=>⟨_,Y,?_⟩⟩
 by_cases cw:V3 97 h.1=true
 case neg=>exact Vf (by simp[cw])<|I (λz=>cw z.1) H1 Z
 refine Y6 (by simp[cw]) ?_;exists CW,_,_,_,Z _ _ ins,T.cl,T.td,Tz _,_,V1.k (k:=Sum.inr h.1)<|Z _ _ td,_,rfl
 by_cases nk:VI kv (Sum.inr h.1)=none
 case neg=>exact Vf (by rw[Option.isSome_iff_ne_none.mpr nk])<|I (λz=>nk z.2.1) H1 Z
 refine Y6 (by rw[nk];simp) ?_;refine⟨u,G,d,h.2.1,v,Y,a.mono Z,g.k6,hv.mono Z,o,j,λS H2 U=>⟨_,Y,Y6 (by simp) ?_⟩,λS H2 U=>⟨_,Y,Vf (by simp)<|I (λz=>S z.2.2.1) H2<|Z.trans U⟩⟩;have N:=Z.trans U;have l3:=S.1;refine⟨sl 1,λl hl=>?_⟩;refine up_in hl _ λH3 b g3=>?_;refine⟨v,h.2.1,(hv.mono N).mono b,l3,λl2 H4 f4 r g4=>?_⟩;refine⟨l,l2,_,_,Y,Y,r _ _ g3,g4,Zf (Yt (by rw[ZA,ZA];show 1+_<=1000;omega)),λo h5=>?_⟩;refine up_in h5 _ λH5 s5 g5=>?_;have J:=((N.trans b).trans r).trans s5;exists ⟨_,Z1 g5⟩;refine Js (us:=h.2.2::h.2.1.map (·.2)) (D:=Dat.str) (F:=λy=>.bl<|kT G y) (λH' s=>itl<|Z1<|s _ _ g5) (VE (h.2.2::h.2.1.map (·.2))) (by rw[Zd,ZA];omega) (λy x p R hm O hx hR=>?_) λvs q1 p fq O t q=>?_
 .obtain rfl:=has_str hx
  exact⟨u,y,G,d,(a.mono J).mono O,λH7 s7=>hR _ _ s7 (by unfold Has;rfl)⟩
 .obtain rfl:=An (ns:=(h.2.2::h.2.1.map (·.2)).map<|kT G) (by rw[yg];exact q)
  exists q1,_,Y,Z1 t
  cases e:((h.2.2::h.2.1.map (·.2)).map<|kT G).all id with
  |true=>
   rw[jE]at e;exact qt ⟨cw,nk,S,λy m=>vO.mp e y m⟩ p<|J.trans O
  |false=>
   rw[jE]at e;refine I (λz=>?_) p<|J.trans O;have e':(h.2.2::h.2.1.map (·.2)).all (id ∘ kT G)=true:=vO.mpr λy m=>z.2.2.2 y m;rw[e']at e;cases e
end
end K4
namespace L2
open PySem
inductive RO:Nat->Rb->Prop
 |on {n:Nat}{r:Str}{as:List Bd}:(∀a∈as,Bo a)->as.length<=9->RO (n+1) (.on r as)
 |thn {n:Nat}{r:Str}{as:List Bd}{e:Bd}:Bo e->(∀a∈as,Bo a)->as.length<=9->RO (n+1) (.thn e r as)
 |br {n:Nat}{ts:List Str}{e:Bd}{bs:List Rb}:Bo e->bs.length=ts.length->ts.length<=9->(∀b∈bs,RO n b)->RO (n+1) (.br e ts bs)
open Classical in
noncomputable def goG (kd:Bd->Option Str) (rh:Hds) (y r:Str) (as:List Bd):Bool:=decide (∃ps,rh r=some (ps,y)/\as.map kd=(ps.map (·.2)).map some)
open Classical in
noncomputable def rbG (kd:Bd->Option Str) (ks:kL) (rh:Hds) (y:Str):Nat->Rb->Bool
 |0,_=>false
 |n+1,.br e ts bs=>decide (∃z,kd e=some z/\VS ks z=some (.tags ts)) && bs.all (rbG kd ks rh y n)
 |_+1,.on r as=>goG kd rh y r as
 |_+1,.thn e r as=>decide (kd e=some y) && goG kd rh y r as
def RI(o:Option Str):Dat:=(o.map Dat.str).getD .non
def LV(o:Option Str):Has H (Up o) (RI o):=by cases o <;> (unfold Has;rfl)
theorem Ew:∀(J:List (Option Str))(Z:kq),Dat.pqs (J.map RI) (Z.map Dat.str)=decide (J=Z.map some)
 |[],[]=>by unfold List.map Dat.pqs;rfl
 |[],w::ws=>by unfold List.map Dat.pqs;rfl
 |z::Z,[]=>by unfold List.map Dat.pqs;rfl
 |z::Z,w::ws=>by
  rw[ZT,ZT,ZT];unfold Dat.pqs;rw[Ew Z ws,vo];cases z <;> simp[RI,Dat.pq]
def yK(Z:Bd->Option Str)(J:List Bd):(J.map λb=>RI<|Z b)=(J.map Z).map RI:=by rw[yg];rfl
theorem N4:∀Z:List (Option Str),Dat.deps (Z.map RI)=0
 |[]=>by unfold List.map Dat.deps;rfl
 |o::Z=>by rw[ZT];unfold Dat.deps;rw[N4 Z];cases o <;> (simp[RI];unfold Dat.dep;rfl)
def Pj(Z:List (Option Str)):(Dat.lst<|Z.map RI).dep<=1:=by unfold Dat.dep;rw[N4];decide
def S9(J:List (Option Str))(Z:kq):(Dat.lst<|J.map RI).pq (.lst<|Z.map Dat.str)=decide (J=Z.map some):=by unfold Dat.pq;exact Ew J Z
def Ed(s:Shp)(Z:kq):s.dat.pq (.tup [.str "tags",.tup (Z.map Dat.str)])=true↔s=.tags Z:=by
 cases s with
 |tags J=>unfold Shp.dat;simp[Dat.pq,Dat.pqs,WY]
 |pair c e=>unfold Shp.dat;simp[Dat.pq,Dat.pqs]
def O4(s:Shp):s.dat.dep<=2:=by
 cases s with
 |tags Z=>unfold Shp.dat;simp[Dat.dep,Dat.deps,Wp]
 |pair c e=>unfold Shp.dat;simp[Dat.dep,Dat.deps]
def E5(h:Has H v (rbF x)):∃t w,v=.ref t/\H t=some (.tup [.str x.1,w])/\Has H w x.2.dat:=by
 unfold rbF at h;obtain⟨t,R,rfl,L,M⟩:=Yz h;obtain⟨T,D,rfl,O,J⟩:=Yf M;obtain⟨G,B,rfl,N,Z⟩:=Yf J;obtain rfl:=VP Z;obtain rfl:=has_str O;exact⟨t,G,Y,L,N⟩
def Am(h:Has H v (Rb.br e M N).dat)(l:N.length=M.length):∃t u b Z,v=.ref t/\H t=some (.tup [.str "by",u,.ref b])/\Has H u e.dat/\H b=some (.tup Z)/\HasL H Z ((M.zip N).map rbF):=by
 unfold Rb.dat at h;obtain⟨t,I,rfl,B,D⟩:=Yz h;obtain⟨U,P,rfl,A,L⟩:=Yf D;obtain⟨O,X,rfl,F,G⟩:=Yf L;obtain⟨S,C,rfl,E,J⟩:=Yf G;obtain rfl:=VP J;obtain rfl:=has_str A;obtain⟨u,Z,rfl,T,R⟩:=Yz E;exists t,O,u,Z,Y,B,F,T;rw[M3,qF<|by omega,qG (by omega)];exact R
structure GoH(H:Hp)(v:V)(b:Rb)(a:Addr)(w:Str)(xs:List V)(r:Str)(al:Addr)(ys:List V)(as:List Bd):Prop where
 ev:v=.ref a
 ha:H a=some (.tup (.str w::xs))
 wb:w≠"by"
 ct:XT (.str w::xs) (some (-2)) none=[.str r,.ref al]
 nw:¬(HT.sIx (V.str w::xs).length 0 (some (-2))=0/\HT.sIx (V.str w::xs).length (V.str w::xs).length none=(V.str w::xs).length)
 hl:H al=some (.tup ys)
 hy:HasL H ys (as.map Bd.dat)
 bo:∀a∈as,Bo a
 l9:as.length<=9
 go:(w≠"then" /\b=.on r as)\/(w="then" /\∃e u rest,xs=u::rest/\Has H u e.dat/\Bo e/\b=.thn e r as)
def CP(h:Has H v b.dat)(Q:RO (n+1) b):(∃e T U,b=.br e T U/\Bo e/\U.length=T.length/\T.length<=9/\∀b∈U,RO n b) \/ ∃a w L r k ys g,GoH H v b a w L r k ys g:=by
 cases Q with
 |br R O N S=>exact .inl ⟨_,_,_,Y,R,O,N,S⟩
 |on I B=>
  unfold Rb.dat at h;obtain⟨t,ys,rfl,E,A⟩:=Yz h;obtain⟨P,q,rfl,R,G⟩:=Yf A;obtain⟨C,y,rfl,O,J⟩:=Yf G;obtain⟨X,j,rfl,N,Z⟩:=Yf J;obtain rfl:=VP Z;obtain rfl:=has_str R;obtain rfl:=has_str O;obtain⟨u,L,rfl,D,M⟩:=Yz N;rw[Z7]at M;exact .inr ⟨t,"on",_,_,u,L,_,Y,E,by decide +kernel,Y,(λz=>Zp (show HT.sIx 3 0 (some<|-2)=0 from z.1)<|by decide),D,M,I,B,.inl ⟨by decide +kernel,rfl⟩⟩
 |thn m I B=>
  unfold Rb.dat at h;obtain⟨t,ys,rfl,E,A⟩:=Yz h;obtain⟨P,q,rfl,R,G⟩:=Yf A;obtain⟨C,y,rfl,O,J⟩:=Yf G;obtain⟨X,j,rfl,N,Z⟩:=Yf J;obtain⟨p,c,rfl,S,F⟩:=Yf Z;obtain rfl:=VP F;obtain rfl:=has_str R;obtain rfl:=has_str N;obtain⟨u,L,rfl,D,M⟩:=Yz S;rw[Z7]at M;exact .inr ⟨t,"then",_,_,u,L,_,Y,E,by decide +kernel,Y,(λz=>Zp (show HT.sIx 4 0 (some<|-2)=0 from z.1)<|by decide),D,M,I,B,.inr ⟨rfl,_,C,_,rfl,O,m,rfl⟩⟩
open Classical in
def Eo(h:¬ ∃z,kd e=some z/\VS J z=some (.tags Z)):rbG kd J rh y (n+1) (.br e Z G)=false:=by unfold rbG;rw[Zw h];rfl
open Classical in
def En(h:∃z,kd e=some z/\VS Z z=some (.tags J)):rbG kd Z rh y (n+1) (.br e J G)=G.all (rbG kd Z rh y n):=by(conv=>lhs;unfold rbG);rw[decide_eq_true h];rfl
open Classical in
def Aq(h:¬ ∃Z,rh r=some (Z,y)/\J.map kd=(Z.map (·.2)).map some):goG kd rh y r J=false:=by unfold goG;exact Zw h
open Classical in
def Ap{Z:List (Str×Str)}(h:rh r=some (Z,y)):goG kd rh y r G=decide (G.map kd=(Z.map (·.2)).map some):=by
 unfold goG;rw[vo,decide_eq_true_iff,decide_eq_true_iff]
 constructor
 .rintro ⟨ps',h1,J⟩
  rw[h]at h1;cases h1;exact J
 .exact λJ=>⟨Z,h,J⟩
def Kq(o:Option Str)(y:Str):Se (Up o) (.str y)=true:=by cases o <;> rfl
def Pk{o:Option Str}{y:Str}:Up o=.str y↔o=some y:=by cases o <;> simp[Up]
end L2
namespace K4
open PySem L2
section
variable{C CK CW:Addr}
def Pd(K:W.Frag)(Z:PE X e ta)(J:attributeBase e f X.env (eval e X.env)=eval e X.env)(G:X.K=K:=by rfl):PE X (.Attribute e f pos) (SL K ta f):=G ▸ Y8 Z J
def Gz:Yn ["self","around","kind","body","own","r","arguments"] ["self","around","kind","body"] (Yc Mp):=Y7
def Qy:List.Nodup [("tag":Str),"branch","self","around","kind"]:=by decide +kernel
def AX:List.Nodup [("argument":Str),"self","around"]:=by decide +kernel
inductive SRB(CW C CK:Addr)(m:Nat)(H:Hp)(Q:VK):List V->Prop
 |mk (A:RA7) (a:Addr) (y:Str) (v:V) (kw:List (Key×V)) (rs:List Rw) (ks:List (Str×Shp)) (c d:Str->Nat) (ds:List Dd) (kv:List (Key×V)) (b:Rb) (rd:RD H CW A kw rs) (p3:∀x∈rs,x.1.2.1.length<=3) (be:BE H C CK A.bk ks c d ds) (nk:NK (ks.map (·.1)) kv) (ha:Rd H a (.dK kv)) (k3:kv.length<=3) (hv:Has H v b.dat) (ro:RO m b)
  (q:∀H',Same H H'->Q (.bl (rbG (kdn ks (Y5 (ds.map (·.1))) 13 kv) ks (Y5 (rs.map (·.1))) y m b)) H'):SRB CW C CK m H Q [.ref A.t,.ref a,.str y,v]
def Kk(CW C CK:Addr)(m:Nat):Sp:=λZ H Q _=>SRB CW C CK m H Q Z
abbrev rbp:kq:=["self","around","kind","body"]
def Ci(B:Blt mg)(T:RCl K CW)(TB:BCl K C)(TC:KCl K CK)(F:Fun K "is_body" "Rows.is_body" Mp f fd)(hL:3<=L)(mG:Vk K CW "is_body" f)(G:Yh P w K mg base CX0 L f fd rbp (Kk CW C CK m))(bG:Binds K fd rbp [])(m1:Vk K C "kinds" g1)(G1:Yh P w K mg base CX0 L g1 d1 ["self"] (JH C CK))(b1:Binds K d1 ["self"] [])(m2:Vk K CK "shape_of" g2)(G2:Yh P w K mg base CX0 L g2 d2 ["self","kind"] (Jw CK))(b2:Binds K d2 ["self","kind"] [])(m3:Vk K CW "kind_of" g3)(G3:Yh P w K mg base CX0 L g3 d3 ["self","r"] (Kh CW))(b3:Binds K d3 ["self","r"] [])(DA:Df P w K mg base L "kind_around" ["book","around","body"] (Nv C CK))(DK:Df P w K mg base L "kinds_of" ["parameters"] Km):Yh P w K mg base CX0 (L+1) f fd rbp (Kk CW C CK<|m+1):=by
 refine F.oi Gz λF3 A R1 s H vs Q E o h=>?_;obtain⟨A',a,y,v,kw,rs,Z,c,d,X,U,b,rd,p3,be,nk,ha,k3,hv,ro,q⟩:=h;have hu:=Jg o;have R8:Vj (2+1) _:=o.mono hL;have D0:Vj (1+1) _:=o.mono<|ZZ (by decide) hL;refine⟨_,YW (Y4 (Yq JK (Ym Yp (pv 3) YX) VA<|Yy _)
   (YW (Yk 4 Gz.nd<|Yx DA o<|pa3 (Y8 (pv 0) rfl) (pv 1)<|Ym Yp (pv 3) YX)
   (YW (Y4 (PW.pt (Jm (Yq RM (pv 4) Vu<|Yy _) (Jc (Yq (Xg R8) (Vg (VW (Y8 (pv 0) rfl) TB.cl m1 G1 o b1 .nil VN) TC.cl m2 G2 o b2 .nil VN<|pa1<|pv 4)
     (Y0<|pa2 VA<|VB VH rfl B.tuple VY (pa1<|VL ["tag","branch"] [] (V9<|Ym Yp (pv 3) YX) UE (λcl C fp s H=>VO (n:=2) rfl (Yi (Yb 0 NC rfl (Or.inl rfl) (Or.inr rfl))<|Yi (Yb 1 NC rfl (Or.inl rfl) (Or.inr rfl)) VC)) λcl C fp s H=>pv 0)) (Yy _)))))
    (YZ<|Yo Jp) Ys)
   (YZ (Yo (Yr (Wj rfl) rfl B.all X5 (pa1 (VL ["tag","branch"] [0,1,2] (V9<|Ym Yp (pv 3) YX) UE (λcl C fp s H=>VO (n:=2) rfl (Yi (Yb 0 Qy rfl (Or.inl rfl) (Or.inr rfl))<|Yi (Yb 1 Qy rfl (Or.inl rfl) (Or.inr rfl)) VC))
    (λcl C fp s H=>Vg (pv 2) T.cl mG G o bG .nil VN<|pa3 (pv 3) (pv 4)<|pv 1)))))))) Ys)
  (YW (Y4 (PW.pt<|XG (Yq JK (Ym Yp (pv 3) YX) VA<|Yy _)<|UH<|Yq Uy (Yx DA o<|pa3 (Y8 (pv 0) rfl) (pv 1)<|Ym Yp (pv 3) YX) (pv 2)<|Yy _) (YZ<|Yo Jp) Ys)
  (YW (V5 (Vt Mh (pv 3) (V4<|Er MV YX) JD)<|VO (n:=2) rfl (Yi (Yb 5 Gz.nd)<|Yi (Yb 6 Gz.nd) VC))
  (YW (Y4 (PW.pt<|Jm (Jy<|UM hu (pv 5)<|Y8 (pv 0) rfl)<|Jc<|Yq Uy (Vg (pv 0) T.cl m3 G3 o b3 .nil VN<|pa1<|pv 5) (pv 2)<|Yy _) (YZ<|Yo Jp) Ys)
  (YZ (Yo (UI (Dq D0) (VL ["argument"] [0,1] (V9<|pv 6) (VM (i:=0)<|by decide) (λcl C fp s H=>Yb 0 AX rfl (Or.inl rfl) (Or.inr rfl)) λcl C fp s H=>Yx DA o<|pa3 (Pd K (pv 1) rfl) (pv 2)<|pv 0)
   (Yx DK o<|pa1<|Ym Yp (JF hu (Y8 (pv 0) rfl) (pv 5) λ_ _=>rfl) YX) (Yy _))))))),?_⟩
 dsimp only[Vi,Cx.nox,Cx.wish];show let T0:=_;let T1:=_;let T2:=Yg (VJ _ T1 _) T0;let T3:=Yg _ T2;let T4:=_;let T5:=Yg (VJ _ T4 _) T3;let T6:=_;let T7:=_;let T8:=Yg (VJ _ T7 _) T6;let T9:=Yg _ T8;Yg (VJ _ T9 _) T5 _ _ _
 intros
 rcases CP hv ro with⟨e,p,bs,rfl,bo,lb,l9,N2⟩|⟨b0,w,xs,r,al,ys,as,g⟩
 .obtain ⟨b0,u,bl,xs,rfl,hb,he,hbl,hxs⟩:=Am hv lb
  refine⟨_,_,Z0 hb,Y,Y,_,Y,Vf (by decide +kernel) ?_⟩;refine⟨CW,_,_,_,rd.ins,T.cl,T.bk,Fo _,_,_,Z0 hb,Y,⟨A'.bk,a,u,Z,c,d,X,U,e,be,nk,ha,k3,he,bo,λH1 k=>?_⟩⟩;have lz:(p.zip bs).length=p.length:=by rw[List.length_zip];omega
  have D3:=k _ _ hb;have Z8:=k _ _ hbl
  cases ek:kdn Z (Y5<|X.map (·.1)) 13 U e with
  |none=>
   rw[Eo (by rw[ek];rintro⟨z,h,_⟩;cases h)]at q;exact⟨Y,_,Y,Vf (by decide)<|q _ k⟩
  |some z=>
   obtain⟨sz,Z9⟩:=JC<|NH be.kk be.hk 13 U e z nk ek;refine⟨Y,_,Y,Y6 (by simp[Up]) ?_⟩;have M2:=be.mono k;obtain⟨AB,F2,eB,bd⟩:=id M2.bi;refine⟨CW,_,_,_,k _ _ rd.ins,T.cl,T.bk,Fo _,_,_,by rw[<-eB];exact bd.ins,Y,A'.bk,Z,d,X,Y,M2.bi,λso ki=>?_⟩;obtain⟨AK,SK,e1,kd,kr⟩:=id ki;refine⟨_,_,by rw[<-e1];exact kd.ins,Y,so,Z,d,z,sz,Y,ki,Z9,λv R4=>?_⟩;exists _,_,Z0 D3,Y,⟨_,Z0 Z8⟩;refine JM (us:=p.zip bs) (D:=rbF) (E:=λx=>.str x.1) (itt<|Z0 Z8) (hxs.mono k) (by omega) (λu x R hm hu rT=>?_) λvs l H2 fl s2 hl S=>?_
   .obtain ⟨t,w',rfl,ht,_⟩:=E5 hu
    exact⟨_,Z0 ht,Y,rT _ Yv⟩
   obtain rfl:=Uc (ns:=p) (by rw[<-qG (l₁:=p) (l₂:=bs) (by omega),yg];exact S);refine⟨l,_,Y,.inl ⟨Z1 hl,λt3 R6=>?_⟩⟩;refine up_in R6 _ λH3 s3 g3=>?_;refine⟨sl 2,λt4 R5=>?_⟩;refine up_in R5 _ λH4 s4 g4=>?_;have J2:=(s2.trans s3).trans s4;have O:=k.trans J2;exists sz.dat,.tup [.str "tags",.tup (p.map Dat.str)],R4.mono J2,Yu g4<|Z2 Yv<|Z3<|Yu (s4 _ _ g3)<|VE p,O4 sz,_,rfl
   by_cases ct:sz=.tags p
   case neg=>
    rw[Eo (by rintro⟨z',h1,h2⟩;rw[ek]at h1;cases h1;rw[Z9]at h2;exact ct<|ZP h2)]at q;exact Vf (by rw[Bool.eq_false_iff.mpr λz=>ct ((Ed sz p).mp z)];rfl)<|q _ O
   rw[En ⟨z,ek,by rw[Z9,ct]⟩]at q;refine Y6 (by rw[(Ed sz p).mpr ct];decide) ?_;exists _,_,Z0<|O _ _ hb,rfl,⟨_,Z0<|O _ _ hbl⟩;refine Js (us:=p.zip bs) (D:=rbF) (F:=λx=>.bl<|rbG (kdn Z (Y5<|X.map (·.1)) 13 U) Z (Y5<|rs.map (·.1)) y m x.2) (λH' s=>itt<|Z0<|s _ _<|O _ _ hbl) (hxs.mono O) (by omega) (λx x' H5 R hm s5 hx hR=>?_) λvs q1 H5 fq s5 J1 S=>?_
   .obtain ⟨t,w',rfl,ht,hw⟩:=E5 hx
    have J:=O.trans s5;refine⟨_,Z0 ht,Y,_,_,J _ _ rd.ins,Y,A',a,y,w',kw,rs,Z,c,d,X,U,x.2,rd.mono J,p3,be.mono J,nk,ha.same J,k3,hw,N2 _ (jy hm).2,λH6 s6=>hR _ _ s6 (by unfold Has;rfl)⟩
   .obtain rfl:=An (ns:=bs.map<|rbG (kdn Z (Y5<|X.map (·.1)) 13 U) Z (Y5<|rs.map (·.1)) y m) (by
     rw[<-qF (l₁:=p) (l₂:=bs) (by omega),yg,yg];exact S)
    exists q1,_,Y,Z1 J1;rw[jE];exact q _<|O.trans s5
 .obtain ⟨rfl,hb,wb,ct,nw,hl,hy,bo,l9,go⟩:=g
  refine⟨_,_,Z0 hb,Yw (j:=0) Y,Y,_,Y,Y6 (λz=>wb<|V.str.inj<|Zr z) ?_⟩;dsimp only[KO];refine Vl (λU' H'=>Same H H'/\U'=[some (.ref A'.t),some<|.ref a,some<|.str y,some<|.ref b0,none,none,none]/\rbG (kdn Z (Y5<|X.map (·.1)) 13 U) Z (Y5<|rs.map (·.1)) y (m+1) b=goG (kdn Z (Y5<|X.map (·.1)) 13 U) (Y5<|rs.map (·.1)) y r as) ?_ ?_
  .rintro U' H' ⟨k,rfl,eg⟩
   rw[eg]at q;refine⟨2,Y,-2,Y,b0,_,Y,Z0<|k _ _ hb,nw,λt2 R7=>?_⟩;rw[ct];refine up_in R7 _ λH2 s2 g2=>?_;have M:=k.trans s2;exists _,Z0 g2,Y;have I:=rd.mono M
   by_cases mr:r∈rs.map λx=>x.1.1
   case neg=>
    rw[Aq (by
     rintro⟨ps,h1,_⟩;obtain⟨x,hx,ex⟩:=ZU.mp<|TN h1;exact mr<|ZU.mpr ⟨x,hx,by rw[ex]⟩)]at q
    exact⟨CW,_,_,_,I.ins,T.cl,T.td,Tz _,_,I.no mr,_,Y,Vf (by simp)<|q _ M⟩
   obtain⟨x,hx,rfl⟩:=ZU.mp mr;have hh:Y5 (rs.map (·.1)) x.1.1=some x.1.2:=Xm (h:=x.1) (by rw[yg];exact rd.nd)<|ZU.mpr ⟨x,hx,rfl⟩;obtain⟨v1,h1,h2⟩:=I.at hx;obtain⟨ta,u,w',rfl,L1,J5,_⟩:=U1 h2;refine⟨CW,_,_,_,I.ins,T.cl,T.td,Tz _,_,h1,_,Y,Y6 (by simp) ?_⟩;exists _,_,I.ins,Y,A',kw,rs,x,I,hx,Y,_,Y
   by_cases cy:x.1.2.2=y
   case neg=>
    rw[Aq (by rintro⟨ps,h1,_⟩;rw[hh]at h1;exact cy<|congrArg (·.2)<|ZP h1)]at q;exact Vf (by simp[cy])<|q _ M
   subst cy;refine Y6 (by simp) ?_;rw[Ap hh]at q;exists ⟨_,Z0<|M _ _ hl⟩;refine Js (us:=as) (D:=Bd.dat) (F:=λb=>RI<|kdn Z (Y5<|X.map (·.1)) 13 U b) (λH' s=>itt<|Z0<|s _ _<|M _ _ hl) (hy.mono M) (by omega) (λe x' H5 R hm s5 R3 hR=>?_) λvs q1 H5 fq s5 J1 S=>?_
   .have J:=M.trans s5
    exact⟨CW,_,_,_,J _ _ rd.ins,T.cl,T.bk,Fo _,⟨A'.bk,a,x',Z,c,d,X,U,e,be.mono J,nk,ha.same J,k3,R3,bo e hm,λH6 s6=>hR _ _ s6<|LV _⟩⟩
   have J4:=I.mono s5;obtain⟨v1,h1,h2⟩:=J4.at hx;obtain⟨ta,u,w',rfl,L1,J5,_⟩:=U1 h2;refine⟨CW,_,_,_,J4.ins,T.cl,T.td,Tz _,_,h1,_,_,Z0 L1,Y,u,x.1.2.1,J5,p3 x hx,λl6 H6 f6 s6 g6=>?_⟩;rw[yK (kdn Z (Y5<|X.map (·.1)) 13 U) as]at S;generalize kdn Z (Y5<|X.map (·.1)) 13 U=kd at S q;exists .lst<|(as.map kd).map RI,.lst<|(x.1.2.1.map (·.2)).map Dat.str,VD (s6 _ _ J1)<|S.mono s6,VD g6<|VE _,Pj _;rw[S9];exact q _<|(M.trans s5).trans s6
  .intro N key
   rcases go with⟨nt,rfl⟩|⟨rfl,e,u,rest,rfl,he,F1,rfl⟩
   .exact ⟨_,_,Z0 hb,Yw (j:=0) rfl,rfl,_,rfl,Y6 (λz=>nt<|V.str.inj<|Zr z)<|key _ _ ⟨Z6 _,rfl,by unfold rbG;rfl⟩⟩
   .refine ⟨_,_,Z0 hb,Yw (j:=0) rfl,rfl,_,rfl,Vf (by decide +kernel) ?_⟩
    refine⟨CW,_,_,_,rd.ins,T.cl,T.bk,Fo _,_,_,Z0 hb,Yw (j:=1) Y,⟨A'.bk,a,u,Z,c,d,X,U,e,be,nk,ha,k3,he,F1,λH1 k=>?_⟩⟩;exists Kq _ _,_,Y
    by_cases ce:kdn Z (Y5<|X.map (·.1)) 13 U e=some y
    .refine Y6 (by rw[ce];simp[Up]) (key _ _ ⟨k,rfl,?_⟩)
     unfold rbG;rw[decide_eq_true ce];rfl
    .refine Vf ?_ ?_
     .rw [Zw λz=>ce (Pk.mp z)];rfl
     .have:=q _ k
      unfold rbG at this;rw[Zw ce]at this;exact this
theorem Qm(B:Blt Z)(T:RCl K CW)(U:BCl K C)(S:KCl K CK)(F:Fun K "is_body" "Rows.is_body" Mp f O)(p:3<=L)(J:Vk K CW "is_body" f)(R:Binds K O rbp [])(N:Vk K C "kinds" r)(z:Yh P w K Z base CX0 L r e ["self"] (JH C CK))(I:Binds K e ["self"] [])(M:Vk K CK "shape_of" u)(j:Yh P w K Z base CX0 L u l ["self","kind"] (Jw CK))(A:Binds K l ["self","kind"] [])(G:Vk K CW "kind_of" g3)(X:Yh P w K Z base CX0 L g3 d3 ["self","r"] (Kh CW))(D:Binds K d3 ["self","r"] [])(g:Df P w K Z base L "kind_around" ["book","around","body"] (Nv C CK))(t:Df P w K Z base L "kinds_of" ["parameters"] Km):∀m,Yh P w K Z base CX0 (L+m) f O rbp<|Kk CW C CK m
 |0=>.none λo H Q E h=>by
  obtain⟨A',a,y,v,kw,i,ks,c,d,ds,kv,b,s,n,be,x,ha,k3,hv,k,q⟩:=h;cases k
 |m+1=>Ci (L:=L+m) B T U S F (by omega) J (Qm B T U S F p J R N z I M j A G X D g t m) R N (z.mono<|by omega) I M (j.mono<|by omega) A G (X.mono<|by omega) D (g.up<|by omega)<|t.up<|by omega
end
end K4
namespace L2
open PySem
structure RB0(Hm H:Hp)(CW:Addr)(A:RA7):Prop where
 ins:H A.t=some (.ins CW A.dx (Ga A))
 sm:Same Hm H
 nd:Hm A.td=none
 n1:A.t≠A.td
def RB0.same{Z:Addr}(b:RB0 J H Z A)(s:Same H G):RB0 J G Z A:=⟨s _ _ b.ins,b.sm.trans s,b.nd,b.n1⟩
def RB0.td{Z:Addr}(b:RB0 J H Z A)(o:HO):RB0 J (upd H A.td o) Z A:=⟨by rw[Yd b.n1];exact b.ins,b.sm.putN b.nd,b.nd,b.n1⟩
def RD.put{M:Addr}(r:RD H M A kw rs)(O:A.t≠A.td)(G:x.1.1∉rs.map λx=>x.1.1)(R:Has H v (GZ x)):RD (upd H A.td<|.dK<|putK kw (Sum.inr x.1.1) v) M A (putK kw (Sum.inr x.1.1) v) (rs++[x]):=by
 have L:VI kw (Sum.inr x.1.1)=none:=U7 (by
  rw[r.ke];intro z;obtain⟨N,J,T⟩:=ZU.mp z;exact G<|ZU.mpr ⟨N,J,Sum.inr.inj T⟩)
 have Z:TK H (upd H A.td<|.dK<|putK kw (Sum.inr x.1.1) v):=Jv r.td λB z=>nomatch z
 exists by rw[Yd O];exact r.ins,Ya,?_,?_
 .rw [Ux v L,ZI,ZI,r.ke];rfl
 .rw [Ux v L]at Z |-
  rw[ZI,ZI];exact Z5 (VU Z _ (Y2 Ta rs) r.va)<|Z3<|UD Z _ (Ta x) R
 .rw [ZI]
  exact Ez r.nd G
structure TxR(x:Rw):Prop where
 ln:x.1.1.length<=20
 l5:x.1.2.1.length<=5
 l20:∀p∈x.1.2.1,p.1.length<=20
end L2
namespace K4
open PySem L2
def Gm(ks:kL)(seen:kq)(h:Hd):Prop:=V3 97 h.1=true/\h.1∉seen/\X8 ks h.2.1/\∀y∈h.2.2::h.2.1.map (·.2),kT ks y=true
def NW(ks:kL)(rs:List Rw)(n:Nat):Prop:=∀i x,i<n->rs[i]?=some x->Gm ks ((rs.take i).map λy=>y.1.1) x.1
def GX(ks:kL)(rs:List Rw)(k:Nat):Prop:=(rs=[]/\k=0)\/(6<rs.length/\k=6)\/(rs.length<=6/\∃x,rs[k]?=some x/\NW ks rs k/\ ¬Gm ks ((rs.take k).map λy=>y.1.1) x.1)
def NA(N:Addr)(Hm:Hp)(E:XK)(k:Nat):Prop:=∀Z d,Same Hm Z->Z d=some (xdO d [("number",.int (k:Nat))])->E (.ref N) (some d) Z
def MB(h:kw.map (·.1)=J.map (λn=>(Sum.inr n:Key))):FY G kw Z↔Gm G J Z:=by
 have e:VI kw (Sum.inr Z.1)=none↔Z.1∉J:=by
  constructor
  .intro n m
   refine Ng n ?_;rw[h];exact ZU.mpr ⟨_,m,Y⟩
  .intro n
   refine U7 ?_;rw[h];intro m;obtain⟨x,L,e⟩:=ZU.mp m;cases e;exact n L
 unfold FY Gm;rw[e]
section
variable{C CK CW:Addr}
variable{N fI:Addr}
inductive SRT(CW C CK N:Addr)(H:Hp)(Q:VK)(E:XK):List V->Prop
 |mk (Hm:Hp) (A:RA7) (la:Addr) (xs:List V) (rs:List Rw) (ks:List (Str×Shp)) (c d:Str->Nat) (ds:List Dd) (rb:RB0 Hm H CW A) (td:H A.td=some (.dK [])) (be:BE Hm C CK A.bk ks c d ds) (hl:Hm la=some (.lst xs)) (hx:HasL Hm xs (rs.map Vb)) (l7:rs.length<=7) (tx:∀x∈rs,TxR x)
  (q:1<=rs.length->rs.length<=6->NW ks rs rs.length->∀H' kw,RB0 Hm H' CW A->RD H' CW A kw rs->Q .non H') (qx:∀k,GX ks rs k->NA N Hm E k):SRT CW C CK N H Q E [.ref A.t,.ref la]
def SS(CW C CK N:Addr):Sp:=λZ H Q E=>SRT CW C CK N H Q E Z
def Fun.oiX{K:W.Frag}{L:Stmt}(F:Fun K x qual L f I)(S:Yn M B (Yc L))(J:∀(O:Value)(A:Around)(Z:List Env)(s:Shared)(H:Hp)(G:kF)(Q:VK)(E:XK),Vj k (A.deeper<|PyProof.Rows.envOfC qual (Yc L) s.heap.objs.size f O)->T G H Q E->
   ∃t,PSs (Vi (CX1 P w) P w K D base M qual (Yc L) f O A Z s H E) (Ja L) t/\t {nx:=λ_ U=>Q .non U,rt:=Q} (L2.start M G) H)(R:∀G H Q E,T G H Q E->G.length=B.length:=by intro G H Q E h;cases h;rfl):Yh P w K D base (CX1 P w) (k+1) f I B T:=F.okX S R J
def Rx:Yn ["self","told","number","name","parameters","kind","body"] ["self","told"] (Yc B5):=Y7
def Ca(B:Blt L)(me:L "enumerate"=none)(T:RCl K CW)(F:Fun K "take_heads" "Rows.take_heads" B5 f fd)(h1:L "MOST_ROWS_rows"=some u1)(r1:RelV (.int 6) u1)(hN:L "NoRows"=some (.ref N))(cN:XCl K N fI)(kN:W.keepIn K (.ref N)=true)(hf:W.isFn K (.ref fI)=true)(GI:Yh P w K L base CX0 n fI iD ["self","number"] (Nt N "number"))(bI:Binds K iD ["self","number"] [])(mH:Vk K CW "is_head" g)(GH:Yh P w K L base CX0 (n+1) g gd ["self","name","parameters","kind"] (Kj CW C CK))(bH:Binds K gd ["self","name","parameters","kind"] []):Yh P w K L base (CX1 P w) (n+2) f fd ["self","told"] (SS CW C CK N):=by
 refine Fun.oiX F Rx λG3 A Z8 s H vs Q E m h=>?_;obtain⟨Hm,A',la,xs,D,ks,c,d,ds,S,td,be,hl,hx,l7,tx,q,qx⟩:=h;have hu:=Jg m;have a:=hx.length;rw[ZA]at a;refine⟨_,YW (Y4 (Yq JK (Yr Yl Y B.len Zs (pa1<|pv 1)) YX<|Yy _) (YZ<|UU XN rfl rfl rfl hN cN kN hf GI m bI (pa1 YX)) Ys)
  (YW (Y4 (Yq Uz (Yr Yl rfl B.len Zs (pa1<|pv 1)) (JE rfl h1 r1)<|Yy _) (YZ<|UU XN rfl rfl rfl hN cN kN hf GI m bI (pa1<|JE rfl h1 r1)) Ys)
  (YZ (Vq PassesOwn.leaving rfl (XH rfl me (pa1<|pv 1)) (VO (n:=2) rfl (Yi (Yb 2 Rx.nd)<|Yi (M6 rfl (Yb 3 Rx.nd) (Yb 4 Rx.nd) (Yb 5 Rx.nd) (Yb 6 Rx.nd)) VC))
   (YW (Y4 (V8<|V7<|Vg (pv 0) T.cl mH GH m bH .nil VN<|pa3 (pv 3) (pv 4)<|pv 5) (YZ<|UU XN rfl rfl rfl hN cN kN hf GI m bI (pa1<|pv 2)) Ys)
   (YZ<|JP hu (Y8 (pv 0) rfl) (pv 3) (Y0<|pa3 (pv 4) (pv 5)<|pv 6) rfl))))),?_⟩
 dsimp only[Vi,Cx.nox,Cx.wish];show let T0:=_;let T1:=_;let T2:=Yg (VJ _ T1 _) T0;let T3:=Jt _ _ T2;let T4:=_;let T5:=Yg (VJ _ T4 _) T3;let T6:=_;Yg (VJ _ T6 _) T5 _ _ _
 intros
 have J:=S.sm _ _ hl;exists la,_,Y,.inl<|Z1 J,rfl,_,rfl
 by_cases c0:D.length=0
 case pos=>
  refine Vf (by rw[a,c0];decide) ⟨_,Y,λe p=>qx 0 (.inl ⟨jx c0,Y⟩) _ e (S.sm.trans<|Ye p _) Ya⟩
 refine Y6 (λz=>by have z1:=Zr z;injection z1 with b;omega) ?_;exists la,_,Y,.inl<|Z1 J,_,rfl
 by_cases c6:6<D.length
 case pos=>
  refine Vf (by exact decide_eq_true (by rw[a];omega)) ⟨_,Y,λe p=>qx 6 (.inr<|.inl ⟨c6,rfl⟩) _ e (S.sm.trans<|Ye p _) Ya⟩
 refine Y6 (λz=>by have z1:=Zr z;omega) ?_;exists la,false,xs,Y,Z1 J
 let I:kH:=λi U R=>RB0 Hm R CW A'/\NW ks D i/\∃(Z:kE)(b z3 z4 z5 z6:kJ),RD R CW A' Z (D.take i)/\U=[some (.ref A'.t),some<|.ref la,b,z3,z4,z5,z6]
 refine X3 (tp:=false) (xs:=xs) I ⟨S,λi x hi=>Zp hi<|Zu _,[],_,_,_,_,_,⟨S.ins,td,rfl,Z4,List.nodup_nil⟩,rfl⟩ (λi U R _ z=>Z1<|z.1.sm _ _ hl) ?_ ?_
 .rintro BB' RR i x U R r hxi ⟨bi,good,Z,b,z3,z4,z5,z6,rdi,rfl⟩ hr'
  obtain⟨M,hc,G2⟩:=getD hx hxi;have hm:=ZH hc;refine up_in hr' _ λHR sR gR=>?_;have O:=bi.same sR;have rR:=rdi.mono sR;obtain⟨ta,u,us,wv,rfl,G1,J4,J2,Z9⟩:=JL<|G2.mono O.sm;have X:Has HR (.ref u) (psD M.1.2.1):=by rw[M5];exact Yu J4 J2
  have lk:Z.length<=6:=by
   have:=congrArg List.length rdi.ke;rw[ZA,ZA,ZL]at this;omega
  have l:Z.map (·.1)=((D.take i).map λy=>y.1.1).map λn=>(Sum.inr n:Key):=by rw[rdi.ke,yg];rfl
  have t1:=tx M hm;refine⟨_,Z0 gR,Y,⟨_,Z0 G1,Y,?_⟩⟩;refine⟨_,_,O.ins,Y,A',Z,M.1,.ref u,ks,c,d,ds,O.ins,rR.td,be.mono O.sm,t1.ln,X,t1.l5,t1.l20,λhk H1 G=>⟨_,Y,Y6 (by simp) ?_⟩,λhk H1 G=>⟨_,Y,Vf (by simp) ⟨_,Y,λe p=>?_⟩⟩⟩
  case refine_2=>exact qx i (.inr<|.inr ⟨by omega,M,hc,good,λz=>hk<|(MB l).mpr z⟩) _ e ((O.sm.trans G).trans<|Ye p _) Ya
  have t:=(MB l).mp hk;refine⟨sl 3,λtt J5=>?_⟩;refine up_in J5 _ λH3 o g3=>?_;have b3:=(O.same G).same o;have r3:=(rR.mono G).mono o;have J1:Has H3 (.ref tt) (GZ M):=Yu g3<|Z2 ((X.mono G).mono o)<|Z2 Yv<|Z3<|(Z9.mono G).mono o;refine⟨CW,_,_,_,b3.ins,T.cl,T.td,Tz _,_,Us.k (k:=Sum.inr M.1.1) r3.td<|Yt<|by omega,?_⟩;have v:=r3.put b3.n1 t.2.1 J1;rw[<-take_snoc hc]at v;refine⟨b3.td _,λj y hj hy=>?_,_,_,_,_,_,_,v,Y⟩;rcases Nat.lt_succ_iff_lt_or_eq.mp hj with hj|rfl
  .exact good j y hj hy
  .rw [hc]at hy
   cases hy;exact t
 .rintro U R ⟨bi,good,Z,b,z3,z4,z5,z6,rdi,rfl⟩
  rw[Ze (by omega)]at rdi;exact q (by omega) (by omega) (by rw[a]at good;exact good) R Z bi rdi
end
end K4
namespace L2
open PySem
noncomputable def rG (ks:kL) (hd:Hds) (rs:List Rw) (x:Rw):Bool:=rbG (kdn ks hd 13<|kvP x.1.2.1) ks (Y5<|rs.map (·.1)) x.1.2.2 3 x.2
def GW(ks:kL)(hd:Hds)(rs:List Rw)(k:Nat):Prop:=∃x,rs[k]?=some x/\(∀i y,i<k->rs[i]?=some y->rG ks hd rs y=true)/\rG ks hd rs x=false
theorem RK.ro:∀{n:Nat}{b:Rb},RK B D rh T y n b->RO (n+1) b
 |n,.on r as,h=>by
  cases h with
  |on M Z L=>exact .on (λa G=>by
    obtain⟨i,J⟩:=yh.mp G;have l:=(ZE.mp J).1;rw[Z.1]at l;exact(Z.2 i _ a (ZC l) J).bo)<|by omega
 |n,.thn e r as,h=>by
  cases h with
  |thn R M Z L=>exact .thn R.bo (λa G=>by
    obtain⟨i,J⟩:=yh.mp G;have l:=(ZE.mp J).1;rw[Z.1]at l;exact(Z.2 i _ a (ZC l) J).bo)<|by omega
 |0,.br e ts bs,h=>by cases h
 |n+1,.br e ts bs,h=>by
  cases h with
  |br M Z L A F E O=>exact .br Z.bo L (by omega) λb N=>(O b N).ro
def FC(T:KG Z)(R:∀z G,VS Z z=some (.tags G)->1<=G.length)(h:Each (λ(O:Str×Str) b=>Sd Z M J O.2 5 b) L N):N.map (kdn Z M 13 J)=(L.map (·.2)).map some:=by
 apply vU;intro i;rw[ZG,ZG,ZG]
 cases ea:N[i]? with
 |none=>
  have:L[i]?=none:=by rw[yo]at ea |-;rw[<-h.1];exact ea
  rw[this];rfl
 |some a=>
  have l:=(ZE.mp ea).1;rw[h.1]at l;have s:=h.2 i _ a (ZC l) ea;rw[ZC l];show some (kdn Z M 13 J a)=_;rw[s.kd.kdn T R 13 J a _ (by have:=s.dep;omega)];rfl
def Kp(M:KG Z)(L:∀z J,VS Z z=some (.tags J)->1<=J.length)(s:Sd Z N G y 5 e):kdn Z N 13 G e=some y:=s.kd.kdn M L 13 G e _ (by have:=s.dep;omega)
theorem RK.good(J:KG N)(Z:∀z M,VS N z=some (.tags M)->1<=M.length):∀{n:Nat}{b:Rb},RK N T rh R y n b->rbG (kdn N T 13 R) N rh y (n+1) b=true
 |n,.on r as,h=>by
  cases h with
  |on L G O=>unfold rbG;rw[Ap L];exact decide_eq_true<|FC J Z G
 |n,.thn e r as,h=>by
  cases h with
  |thn E L G O=>
   unfold rbG;rw[Ap L,Kp J Z E];simp[FC J Z G]
 |0,.br e M bs,h=>by cases h
 |n+1,.br e M bs,h=>by
  cases h with
  |br L G O I A F D=>
   rw[En ⟨_,Kp J Z G,L⟩,vO];exact λb B=>(D b B).good J Z
end L2
namespace K4
open PySem L2
section
variable{C CK CW N:Addr}
def zw:Yn ["self","number"] ["self","number"] (Yc Mr):=Y7
def F0(F:Fun K "__init__" "NoRows.__init__" Mr f O)(c:XCl K N f)(G:W.findIn K (.ref N) "number"=some none):Yh P w K B base CX0 (n+1) f O ["self","number"] (Nt N "number"):=by
 refine F.oq zw λR A Z s H T Q E D h=>?_;obtain⟨I,a,rfl,L,q⟩:=h;exists _,YZ<|CV c G (pv 0)<|pv 1;exact⟨L,λd M J=>q d M J⟩
inductive SRC(CW C CK N:Addr)(H:Hp)(Q:VK)(E:XK):List V->Prop
 |mk (A:RA7) (kw:List (Key×V)) (rs:List Rw) (ks:List (Str×Shp)) (ns:List Str) (c d:Str->Nat) (ds:List Dd) (tp:Nat) (rd:RD H CW A kw rs) (be:BE H C CK A.bk ks c d ds) (ho:∀x∈rs,Ur ns c tp x.1) (fk:FlK ks ns) (ro:∀x∈rs,RO 3 x.2) (l6:rs.length<=6)
  (q:(∀x∈rs,rG ks (Y5 (ds.map (·.1))) rs x=true)->∀H',Same H H'->Q .non H') (qx:∀k,GW ks (Y5 (ds.map (·.1))) rs k->NA N H E k):SRC CW C CK N H Q E [.ref A.t]
def SU(CW C CK N:Addr):Sp:=λZ H Q E=>SRC CW C CK N H Q E Z
def Fi:Yn ["self","number","name","parameters","kind","body"] ["self"] (Yc Mo):=Y7
def Cg(B:Blt O)(me:O "enumerate"=none)(T:RCl K CW)(F:Fun K "check_bodies" "Rows.check_bodies" Mo f fd)(hN:O "NoRows"=some (.ref N))(cN:XCl K N fI)(kN:W.keepIn K (.ref N)=true)(hf:W.isFn K (.ref fI)=true)(GI:Yh P w K O base CX0 n fI iD ["self","number"] (Nt N "number"))(bI:Binds K iD ["self","number"] [])(mH:Vk K CW "names" g)(GH:Yh P w K O base CX0 (n+1) g gd ["self"] (Kg CW))(bH:Binds K gd ["self"] [])(mB:Vk K CW "is_body" g2)(GB:Yh P w K O base CX0 (n+1) g2 d2 rbp (Kk CW C CK 3))(bB:Binds K d2 rbp []):Yh P w K O base (CX1 P w) (n+2) f fd ["self"] (SU CW C CK N):=by
 refine Fun.oiX F Fi λM2 A Z8 s H vs Q E o h=>?_;obtain⟨A',kw,M,ks,ns,c,d,ds,tp,rd,be,ho,fk,ro,l6,q,qx⟩:=h;have hu:=Jg o;refine⟨_,YZ (Vq PassesOwn.leaving Y (XH Y me (pa1<|VW (pv 0) T.cl mH GH o bH .nil VN)) (VO (n:=2) rfl (Yi (Yb 1 Fi.nd)<|Yi (Yb 2 Fi.nd) VC))
   (YW (V5 (JF hu (Y8 (pv 0) rfl) (pv 2) λ_ _=>rfl)<|VO (n:=3) rfl (Yi (Yb 3 Fi.nd)<|Yi (Yb 4 Fi.nd)<|Yi (Yb 5 Fi.nd) VC))
   (YZ<|Y4 (V8<|V7<|Vg (pv 0) T.cl mB GB o bB .nil VN<|pa3 (VB (U6 rfl) rfl B.dict WI (pa1<|pv 3)) (pv 4)<|pv 5) (YZ<|UU XN rfl rfl rfl hN cN kN hf GI o bI (pa1<|pv 1)) Ys))),?_⟩
 dsimp only[Vi,Cx.nox,Cx.wish];show let T0:=_;let T1:=VJ _ T0 _;let T2:=Yg _ T1;Jt _ _ T2 _ _ _
 intros
 refine⟨_,_,rd.ins,Y,A',kw,M,rd,λnl H1 L1 s1 t=>?_⟩;exists nl,false,_,Y,Z1 t
 let I:kH:=λi U k=>Same H1 k/\(∀j y,j<i->M[j]?=some y->rG ks (Y5<|ds.map (·.1)) M y=true)/\∃(z1 z2 z3 z4 z5:kJ),U=[some (.ref A'.t),z1,z2,z3,z4,z5]
 refine X3 (tp:=false) (xs:=(M.map λx=>x.1.1).map V.str) I ⟨Z6 _,λj y m=>Zp m<|Zu _,_,_,_,_,_,rfl⟩ (λi U k _ z=>Z1<|z.1 _ _ t) ?_ ?_
 .rintro BB' RR i x U k r b ⟨si,good,z1,z2,z3,z4,z5,rfl⟩ hr'
  rw[yg,ZG]at b;obtain⟨Z,hc,rfl⟩:=Zh.mp b;have hm:=ZH hc;have o1:=ho Z hm;refine up_in hr' _ λHR sR gR=>?_;have R:=(s1.trans si).trans sR;have J:=rd.mono R;obtain⟨v,e1,e2⟩:=J.at hm;obtain⟨ta,u,wv,rfl,J4,X,J2⟩:=U1 e2;exists _,Z0 gR,Y;exists CW,_,_,_,J.ins,T.cl,T.td,Tz _,_,e1;exists _,Z0 J4,Y;unfold psD at X;obtain⟨l,xp,rfl,hl,S⟩:=Yz X;obtain⟨tp,rfl,L⟩:=Dj (K:=K) S;replace L:FX K HR tp (kvP Z.1.2.1):=L;have G3:(kvP Z.1.2.1).length=Z.1.2.1.length:=ZA _;have G:=o1.nd
  have Z9:((kvP Z.1.2.1).map (·.1)).Nodup:=by
   unfold kvP;rw[yg];unfold List.Nodup at G |-;rw[vV]at G |-;exact G.imp λJ5 q=>J5<|Sum.inr.inj q
  refine⟨_,_,J.ins,Y,l,tp,_,Y,hl,L,Z9,λaA G1=>?_⟩;refine up_in G1 _ λH3 p g3=>?_;have l3:=o1.len;have D:=R.trans p;refine⟨A',aA,Z.1.2.2,wv,kw,M,ks,c,d,ds,kvP Z.1.2.1,Z.2,J.mono p,λx' J1=>(ho x' J1).len,be.mono D,λq' hq=>?_,.inl g3,by omega,J2.mono p,ro Z hm,λH4 s4=>?_⟩
  .obtain ⟨pr,hpr,rfl⟩:=ZU.mp hq
   exact⟨pr.1,pr.2,Y,fk.mem<|o1.kin pr hpr⟩
  have a:=D.trans s4;exists _,Y
  cases eg:rG ks (Y5<|ds.map (·.1)) M Z with
  |true=>
   unfold rG at eg;refine Y6 (by rw[eg];decide) ?_;refine⟨((si.trans sR).trans p).trans s4,λj y m hy=>?_,_,_,_,_,_,Y⟩;rcases Nat.lt_succ_iff_lt_or_eq.mp m with m|rfl
   .exact good j y m hy
   .rw [hc]at hy
    cases hy;exact eg
  |false=>
   have G2:=qx i ⟨Z,hc,good,eg⟩;unfold rG at eg;exact Vf (by rw[eg];rfl) ⟨_,Y,λe he=>G2 _ e (a.trans<|Ye he _) Ya⟩
 .rintro U k ⟨si,good,_⟩
  exact q (λx b=>by
   obtain⟨i,hi,e⟩:=List.getElem_of_mem b;exact good i x (by rw[ZA,ZA];exact hi)<|by rw[ZC hi,e]) k<|s1.trans si
end
end K4
namespace L2
open PySem
def Ni(c:kM){Z:List Rw}(h:Z[i]?=some x):tot c ((Z.take<|i+1).map (·.1))=tot c ((Z.take i).map (·.1))+Vs c x.1.2.1:=by
 rw[take_snoc h,ZI];exact Nj c _ _
def KM(c:kM)(Z:List Rw)(i:Nat):tot c ((Z.take i).map (·.1))<=tot c (Z.map (·.1)):=by
 have:tot c (Z.map (·.1))=tot c ((Z.take i).map (·.1))+tot c ((Z.drop i).map (·.1)):=by
  unfold tot;rw[<-jY,<-ZI,<-ZI,vA]
 omega
def GU(c:kM)(rs:List Rw)(k:Nat):Prop:=k<rs.length/\tot c ((rs.take k).map (·.1))<=24/\24<tot c ((rs.take<|k+1).map (·.1))
end L2
namespace K4
open PySem L2
section
variable{C CK CW N fI:Addr}
inductive SRS(CW C CK N:Addr)(H:Hp)(Q:VK)(E:XK):List V->Prop
 |mk (A:RA7) (kw:List (Key×V)) (rs:List Rw) (ks:List (Str×Shp)) (ns:List Str) (c d:Str->Nat) (ds:List Dd) (rd:RD H CW A kw rs) (be:BE H C CK A.bk ks c d ds) (ho:∀x∈rs,Ur ns c 125 x.1) (fk:FlK ks ns)
  (q:tot c (rs.map (·.1))<=24->∀H',Same H H'->Q .non H') (qx:∀k,GU c rs k->NA N H E k):SRS CW C CK N H Q E [.ref A.t]
def ST(CW C CK N:Addr):Sp:=λZ H Q E=>SRS CW C CK N H Q E Z
def Kw:Yn ["self","in_all","number","name"] ["self"] (Yc Tr):=Y7
def Cb(B:Blt Z)(me:Z "enumerate"=none)(T:RCl K CW)(TB:BCl K C)(F:Fun K "check_stands" "Rows.check_stands" Tr f fd)(h1:Z "MOST_STANDS"=some u1)(r1:RelV (.int 24) u1)(hN:Z "NoRows"=some (.ref N))(cN:XCl K N fI)(kN:W.keepIn K (.ref N)=true)(hf:W.isFn K (.ref fI)=true)(GI:Yh P w K Z base CX0 n fI iD ["self","number"] (Nt N "number"))(bI:Binds K iD ["self","number"] [])(mH:Vk K CW "names" g)(GH:Yh P w K Z base CX0 (n+1) g gd ["self"] (Kg CW))(bH:Binds K gd ["self"] [])(m1:Vk K C "kinds" g1)(G1:Yh P w K Z base CX0 (n+1) g1 d1 ["self"] (JH C CK))(b1:Binds K d1 ["self"] [])(DC:Df P w K Z base (n+1) "row_count" ["kinds","parameters"] (U9 CK)):Yh P w K Z base (CX1 P w) (n+2) f fd ["self"] (ST CW C CK N):=by
 refine Fun.oiX F Kw λJ2 A y s H vs Q E M h=>?_;obtain⟨l,kw,L,ks,ns,c,d,ds,j,be,ho,fk,q,qx⟩:=h;have hu:=Jg M;refine⟨_,YW (Yk 1 Kw.nd YX) (YZ (Vq PassesOwn.leaving Y (XH Y me (pa1<|VW (pv 0) T.cl mH GH M bH .nil VN)) (VO (n:=2) rfl (Yi (Yb 2 Kw.nd)<|Yi (Yb 3 Kw.nd) VC))
   (YW (Dk (i:=1) Kw.nd rfl (Or.inl rfl) (Yx DC M<|pa2 (VW (Y8 (pv 0) rfl) TB.cl m1 G1 M b1 .nil VN)<|Ym Yp (JF hu (Y8 (pv 0) rfl) (pv 3) λ_ _=>rfl) YX) E4)
   (YZ<|Y4 (Yq Uz (pv 1) (JE rfl h1 r1)<|Yy _) (YZ<|UU XN rfl rfl rfl hN cN kN hf GI M bI (pa1<|pv 2)) Ys)))),?_⟩
 dsimp only[Vi,Cx.nox,Cx.wish];show let T0:=_;let T1:=VJ _ T0 _;let T2:=Yg _ T1;let T3:=Jt _ _ T2;Yg _ T3 _ _ _
 intros
 refine X7 ?_;refine⟨_,_,j.ins,Y,l,kw,L,j,λnl H1 J1 s1 O=>?_⟩;exists nl,false,_,Y,Z1 O
 let I:kH:=λi U D=>Same H1 D/\tot c ((L.take i).map (·.1))<=24/\∃(X S:kJ),U=[some (.ref l.t),some<|.int (tot c ((L.take i).map (·.1)):Nat),X,S]
 refine X3 (tp:=false) (xs:=(L.map λx=>x.1.1).map V.str) I ⟨Z6 _,Za _,_,_,Y⟩ (λi U D _ z=>Z1<|z.1 _ _ O) ?_ ?_
 .rintro BB' RR i x U D r hx ⟨si,good,X,S,rfl⟩ hr'
  rw[yg,ZG]at hx;obtain⟨dx,k,rfl⟩:=Zh.mp hx;have hm:=ZH k;have o1:=ho dx hm;have o2:=o1.rows;have b:=Ni c k;refine up_in hr' _ λHR o gR=>?_;have J:=(s1.trans si).trans o;have G:=j.mono J;have R:=be.mono J;obtain⟨v,e1,e2⟩:=G.at hm;obtain⟨ta,u,wv,rfl,m,t,Z9⟩:=U1 e2;obtain⟨AB,Z8,eB,bd⟩:=id R.bi;exists _,Z0 gR,Y;refine⟨_,Y,CW,_,_,_,G.ins,T.cl,T.bk,Fo _,_,_,by rw[<-eB];exact bd.ins,Y,l.bk,ks,d,ds,Y,R.bi,λso ki=>?_⟩;exists CW,_,_,_,G.ins,T.cl,T.td,Tz _,_,e1,_,_,Z0 m,Y;refine⟨so,ks,c,d,dx.1.2.1,u,Y,ki,be.kk,t,λp hp=>fk.mem<|o1.kin p hp,by omega,λH2 a=>?_⟩;exists _,Y
  by_cases c4:24<tot c ((L.take<|i+1).map (·.1))
  .refine Vf (by exact decide_eq_true (by rw[b]at c4;omega)) ⟨_,rfl,λe he=>qx i ⟨(ZE.mp k).1,good,c4⟩ _ e ((J.trans a).trans<|Ye he _) Ya⟩
  refine Y6 (λz=>by have z1:=Zr z;omega) ?_;exact⟨(si.trans o).trans a,by omega,_,_,by rw[b];rfl⟩
 .rintro U D ⟨si,good,X,S,rfl⟩
  refine q ?_ D<|s1.trans si;rw[Ze (by rw[ZA,ZA];exact ZF _)]at good;exact good
end
section
def TX{x:Str}(h:V3 97 x=true):WdS x:=by
 unfold V3 at h;rw[ZX,ZX]at h;refine⟨Zr h.1,Zr h.2.1,λc m=>?_⟩;have:=vO.mp h.2.2 c m;unfold Wd at this;rw[ZX]at this;exact⟨Zr this.1,Zr this.2⟩
def TH(L:J3 Z c d)(h:kT Z y=true):y∈(flat Z).map (·.1)/\c y<=5:=by
 unfold kT at h
 cases e:VS Z y with
 |none=>rw[e]at h;cases h
 |some s=>
  cases s with
  |pair a b=>rw[e]at h;cases h
  |tags G=>
   have m:(y,Shp.tags G)∈flat Z:=yi.mpr ⟨JU e,rfl⟩;obtain⟨J,M,O,_,N,_⟩:=L.fl.ok _ _ m;cases M;exact⟨ZU.mpr ⟨_,m,Y⟩,by omega⟩
def S5(h:X8 M J):(J.map (·.1)).Nodup:=by
 unfold List.Nodup;rw[jL];intro i j L G Z e;rw[ZA]at L G;rw[jV,jV]at e;refine(h.2 j _<|ZC G).2.1<|ZU.mpr ⟨J[i],?_,e⟩;exact ZH (i:=i)<|by rw[vz,Zn Z,ZC L]
theorem PN:∀{Z:List (Str×Str)},Z.length<=3->(∀p∈Z,c p.2<=5)->Vs c Z<=125
 |[],_,_=>by show 1<=125;decide
 |[p],_,h=>by
  have:=h p (by simp);show 1*c p.2<=125;omega
 |[p,q],_,h=>by
  have a:=h p (by simp);have b:=h q (by simp);have:=jj a b;show 1*c p.2*c q.2<=125;rw[Nat.one_mul];omega
 |[p,q,r],_,h=>by
  have a:=h p (by simp);have b:=h q (by simp);have e:=h r (by simp);have:=jj (jj a b) e;show 1*c p.2*c q.2*c r.2<=125;rw[Nat.one_mul];omega
 |_::_::_::_::_,l,_=>by simp at l
def L9(L:J3 G c d)(h:Gm G seen N):Ur ((flat G).map (·.1)) c 125 N:=by
 obtain⟨_,_,J,M⟩:=h;have Z:∀p∈N.2.1,kT G p.2=true:=λp m=>M _<|ZK _<|ZU.mpr ⟨p,m,rfl⟩;refine⟨J.1,λp m=>(TH L<|Z p m).1,(TH L<|M _ ZY).1,S5 J,λp m=>?_,PN J.1 λp m=>(TH L<|Z p m).2⟩;obtain⟨i,O⟩:=yh.mp m;exact TX (J.2 i p O).1
def OkH(ks:kL)(rs:List Rw):Prop:=1<=rs.length/\rs.length<=6/\NW ks rs rs.length
def OkH.ho(G:J3 Z c d)(h:OkH Z rs):∀x∈rs,Ur ((flat Z).map (·.1)) c 125 x.1:=λx m=>by
 obtain⟨i,J⟩:=yh.mp m;exact L9 G<|h.2.2 i x (ZE.mp J).1 J
def Fault(ks:kL)(hd:Hds)(c:kM)(rs:List Rw)(k:Nat):Prop:=GX ks rs k\/(OkH ks rs/\(GW ks hd rs k\/((∀x∈rs,rG ks hd rs x=true)/\GU c rs k)))
def TV(ks:kL)(hd:Hds)(c:kM)(rs:List Rw):Prop:=OkH ks rs/\(∀x∈rs,rG ks hd rs x=true)/\tot c (rs.map (·.1))<=24
def IZ(a:GW G N rs k)(b:GW G N rs j):k=j:=by
 obtain⟨x,M,R,J⟩:=a;obtain⟨y,L,O,Z⟩:=b;rcases ji k j with h|h|h
 .rw [O k x h M]at J;cases J
 .exact h
 .rw [R j y h L]at Z;cases Z
def GE(a:GW J L rs k)(g:∀x∈rs,rG J L rs x=true):False:=by
 obtain⟨x,G,M,Z⟩:=a;rw[g x (ZH G)]at Z;cases Z
def Nk(c:kM)(Z:List Rw){i j:Nat}(h:i<=j):tot c ((Z.take i).map (·.1))<=tot c ((Z.take j).map (·.1)):=by
 have:=KM c (Z.take j) i;rw[jJ,vh h]at this;exact this
def IY(a:GU c rs k)(b:GU c rs j):k=j:=by
 obtain⟨_,L,G⟩:=a;obtain⟨_,J,Z⟩:=b;rcases ji k j with h|h|h
 .have:=Nk c rs (show k+1<=j from h);omega
 .exact h
 .have:=Nk c rs (show j+1<=k from h);omega
def GG(a:GX J rs k)(h:OkH J rs):False:=by
 rcases a with⟨rfl,_⟩|⟨G,_⟩|⟨_,x,Z,_,n⟩
 .exact Zp h.1 (by simp)
 .have:=h.2.1;omega
 .exact n (h.2.2 k x (ZE.mp Z).1 Z)
def Ia(a:GX M rs k)(b:GX M rs j):k=j:=by
 rcases a with⟨rfl,rfl⟩|⟨J,rfl⟩|⟨L,x,Z,g,n⟩
 .rcases b with⟨_,rfl⟩|⟨J,_⟩|⟨_,x,Z,_⟩
  .rfl
  .simp at J
  .simp at Z
 .rcases b with⟨rfl,_⟩|⟨_,rfl⟩|⟨L,_⟩
  .simp at J
  .rfl
  .omega
 .rcases b with⟨rfl,_⟩|⟨J,_⟩|⟨_,y,N,O,G⟩
  .simp at Z
  .omega
  .rcases ji k j with h|h|h
   .exact (n<|O k x h Z).elim
   .exact h
   .exact (G<|g j y h N).elim
def OO(a:Fault J G c rs k)(b:Fault J G c rs j):k=j:=by
 rcases a with a|⟨o,a⟩
 .rcases b with b|⟨Z,_⟩
  .exact Ia a b
  .exact (GG a Z).elim
 .rcases b with b|⟨_,b⟩
  .exact (GG b o).elim
  .rcases a with a|⟨g,a⟩
   .rcases b with b|⟨L,_⟩
    .exact IZ a b
    .exact (GE a L).elim
   .rcases b with b|⟨_,b⟩
    .exact (GE b g).elim
    .exact IY a b
def RP(n:TV Z J c rs)(b:Fault Z J c rs j):False:=by
 obtain⟨o,g,t⟩:=n;rcases b with b|⟨_,b|⟨_,_,_,b⟩⟩
 .exact GG b o
 .exact GE b g
 .have:=KM c rs<|j+1;omega
end
section
variable{C CK CW N:Addr}
def zy(A:RA7):(Ga A).lookup ("take_heads":Str)=none:=rfl
def yA(A:RA7):(Ga A).lookup ("check_bodies":Str)=none:=rfl
def zz(A:RA7):(Ga A).lookup ("check_stands":Str)=none:=rfl
inductive SRI(CW C CK N:Addr)(H:Hp)(Q:VK)(E:XK):List V->Prop
 |mk (Hm:Hp) (x dx bk la:Addr) (xs:List V) (rs:List Rw) (ks:List (Str×Shp)) (c d:Str->Nat) (ds:List Dd) (hx:H x=some (.ins CW dx [])) (sm:Same Hm H) (xm:Hm x=none) (be:BE Hm C CK bk ks c d ds) (kS:J3 ks c d) (hl:Hm la=some (.lst xs)) (hr:HasL Hm xs (rs.map Vb)) (l7:rs.length<=7) (tx:∀x∈rs,TxR x) (ro:∀x∈rs,RO 3 x.2)
  (q:TV ks (Y5 (ds.map (·.1))) c rs->∀H' A kw,Same Hm H'->A.t=x->RD H' CW A kw rs->Q .non H') (qx:∀k,Fault ks (Y5 (ds.map (·.1))) c rs k->NA N Hm E k):SRI CW C CK N H Q E [.ref x,.ref bk,.ref la]
def Ki(CW C CK N:Addr):Sp:=λZ H Q E=>SRI CW C CK N H Q E Z
def zu:Yn ["self","book","told"] ["self","book","told"] (Yc Mn):=Y7
def Ce(T:RCl K CW)(F:Fun K "__init__" "Rows.__init__" Mn f fd)(m1:Vk K CW "take_heads" g1)(G1:Yh P w K g base (CX1 P w) n g1 d1 ["self","told"] (SS CW C CK N))(b1:Binds K d1 ["self","told"] [])(m2:Vk K CW "check_bodies" g2)(G2:Yh P w K g base (CX1 P w) n g2 d2 ["self"] (SU CW C CK N))(b2:Binds K d2 ["self"] [])(m3:Vk K CW "check_stands" g3)(G3:Yh P w K g base (CX1 P w) n g3 d3 ["self"] (ST CW C CK N))(b3:Binds K d3 ["self"] []):
  Yh P w K g base (CX1 P w) (n+1) f fd ["self","book","told"] (Ki CW C CK N):=by
 refine Fun.oiX F zu λZ9 A R s H vs Q E hr h=>?_;obtain⟨S,x,J,D,la,xs,m,p,c,d,ds,hx,sm,xm,be,kS,hl,Z8,l7,tx,ro,q,v⟩:=h;have r:Ub (CX1 P w) (Vi (CX1 P w) P w K g base ["self","book","told"] "Rows.__init__" (Yc Mn) f Z9 A R s H E) E:=XN.passes rfl;refine⟨_,YW (Jz (pv 0) (pv 1) Y) (YW (Jz (pv 0) JJ Y) (YW (Jz (pv 0) JJ Y)
  (YW (Ve<|Vg (pv 0) T.cl m1 G1 hr b1 .nil r<|pa1<|pv 2)
  (YW (Ve<|VW (pv 0) T.cl m2 G2 hr b2 .nil r)
  (YZ<|Ve<|VW (pv 0) T.cl m3 G3 hr b3 .nil r))))),?_⟩
 dsimp only[Vi,Cx.nox,Cx.wish];show let T0:=_;let T1:=Yg _ T0;let T2:=Yg _ T1;let T3:=Yg _ T2;let T4:=Yg _ T3;Yg _ T4 _ _ _
 intros
 refine⟨x,CW,J,_,Y,hx,T.cl,T.bk,by decide,?_⟩;have j:upd H x (.ins CW J<|Vc "book" (.ref D) []) x=some (.ins CW J<|Vc "book" (.ref D) []):=Ya;have r9:∀b o,b≠x->H b=some o->upd H x (.ins CW J<|Vc "book" (.ref D) []) b=some o:=λb o n e=>by rw[Yd n];exact e
 generalize upd H x (.ins CW J<|Vc "book" (.ref D) [])=H9 at j r9 |-;intro U B;refine⟨x,CW,J,_,Y,by rw[Yd (Yj j B)];exact j,T.cl,T.td,(by show 1<1000;decide),?_⟩;obtain⟨y,a1,n1,e1⟩:=JX (f:="told") (o:=.dK []) j B;generalize upd (upd H9 U<|.dK []) x (.ins CW J<|Vc "told" (.ref U)<|Vc "book" (.ref D) [])=H1 at y a1 e1 |-;intro l X;refine⟨x,CW,J,_,Y,by rw[Yd (Yj y X)];exact y,T.cl,T.sd,(by show 2<1000;decide),?_⟩;obtain⟨u,a2,n2,e2⟩:=JX (f:="steps") (o:=.dK []) y X;generalize upd (upd H1 l<|.dK []) x (.ins CW J<|Vc "steps" (.ref l)<|Vc "told" (.ref U)<|Vc "book" (.ref D) [])=H2 at u a2 e2 |-
 let L:RA7:=⟨x,J,D,U,l⟩
 have i:∀{b o},S b=some o->b≠x:=λ{b o} h z=>by rw[z,xm]at h;cases h
 have f9:Same S H9:=λb o h=>r9 b o (i h)<|sm b o h;have s2:Same S H2:=λb o h=>e2 b o (i h)<|e1 b o (i h)<|f9 b o h
 have rb:RB0 S H2 CW L:=⟨u,s2,(by
  cases e:S U with
  |none=>rfl
  |some o=>have:=f9 _ _ e;rw[B]at this;cases this),Zq n1⟩
 refine⟨_,_,u,zy L,S,L,la,xs,m,p,c,d,ds,rb,e2 _ _ n1 a1,be,hl,Z8,l7,tx,λl1 l6 hh H3 a Z O=>?_,λk fh=>v k<|.inl fh⟩;have G:OkH p m:=⟨l1,l6,hh⟩;have ho:=G.ho kS;refine⟨_,_,Z.ins,yA L,L,a,m,p,_,c,d,ds,125,O,be.mono Z.sm,ho,kS.flk,ro,l6,λgood H4 I=>?_,λk fr H4 e I he=>v k (.inr ⟨G,.inl fr⟩) H4 e (Z.sm.trans I) he⟩;have M:=Z.sm.trans I;exact⟨_,_,I _ _ Z.ins,zz L,L,a,m,p,_,c,d,ds,O.mono I,be.mono M,ho,kS.flk,λto H5 t=>q ⟨G,good,to⟩ H5 L a (M.trans t) Y ((O.mono I).mono t),λk fs H5 e t he=>v k (.inr ⟨G,.inr ⟨good,fs⟩⟩) H5 e (M.trans t) he⟩
end
end K4
namespace L2
open PySem
def L8{J:List Dd}(M:∀x∈J,Ur L c 40 x.1):HK L (Y5<|J.map (·.1)):=λf O k e=>by
 obtain⟨G,Z,N⟩:=ZU.mp<|TN e;have:=(M G Z).own;rw[N]at this;exact this
def Pen.oth(h:Pen K sa H p)(e:H r=some o)(n:∀J,o≠.lst J):r≠p:=λz=>by
 obtain⟨G,k,x,M,Z,L⟩:=h.ex;rw[<-z,e]at Z;cases Z;exact n _ Y
mutual
theorem W.ni:∀w:W,w.dat.ni=true
 |.non=>by unfold W.dat Dat.ni;rfl
 |.tag _=>by unfold W.dat Dat.ni;rfl
 |.pair a b=>by unfold W.dat Dat.ni;unfold Dat.nis;rw[W.ni a];unfold Dat.nis;rw[W.ni b];unfold Dat.nis;rfl
end
def BE.pn(b:BE H C X t D c d F)(s:SameB p H I)(M:Pen K sa H p):BE I C X t D c d F:=by
 have Z:∀{r:Addr}{o:HO},H r=some o->(∀O,o≠.lst O)->I r=some o:=λh n=>s _ _ (M.oth h n) h;obtain⟨A,U,rfl,L⟩:=b.bi;obtain⟨P,S,e,G,J⟩:=L.so;refine{b with bi:=⟨A,U,rfl,Z L.ins (λ_ z=>nomatch z),⟨P,S,e,⟨Z G.ins (λ_ z=>nomatch z),Z G.sh (λ_ z=>nomatch z),Z G.wo (λ_ z=>nomatch z),Z G.he (λ_ z=>nomatch z),Z G.pd (λ_ z=>nomatch z),Z G.tk (λ_ z=>nomatch z),Z G.pk (λ_ z=>nomatch z),G.nd⟩,?_⟩,Z L.td (λ_ z=>nomatch z),L.ke,Vo s M _ (Dat.nis_of<|TZ F) L.va,L.nd⟩};refine⟨J.ke,λy T h=>let⟨v,R,N⟩:=J.sh y T h;⟨v,R,VV s M _ (Dat.ni_of<|Shp.st T) N⟩,λy h=>?_,J.he,J.pd,J.tk,J.pk,J.ln⟩;obtain⟨l,O,R,N,E⟩:=J.wo y h;have B:=P8 W.ni<|VG D 3 y;exact⟨l,O,R,s _ _ (M.lst N E B) N,Vo s M _ B E⟩
end L2
namespace K4
open PySem L2
section
variable{f g C CK:Addr}
inductive SBK(C CK:Addr)(H:Hp)(Q:VK):List V->Prop
 |mk (A:BA) (kv:List (Key×V)) (ks:List (Str×Shp)) (c d:Str->Nat) (ds:List Dd) (bd:BD H C CK A kv ks d ds) (kg:KG ks) (kk:KK 30 c d ks) (k6:ks.length<=6) (ho:∀x∈ds,Ur (ks.map (·.1)) c 40 x.1) (dok:∀x∈ds,Sd ks (Y5 (ds.map (·.1))) (kvP x.1.2.1) x.1.2.2 5 x.2) (q:∀H',Same H H'->Q .non H'):SBK C CK H Q [.ref A.t]
def Sa(C CK:Addr):Sp:=λZ H Q _=>SBK C CK H Q Z
def AQ(B:Blt S)(me:S "enumerate"=none)(TB:BCl K C)(F:Fun K "check_bodies" "Book.check_bodies" Mx f fd)(mH:Vk K C "names" g)(GH:Yh P w K S base CX0 n g gd ["self"] (Xe C CK))(bH:Binds K gd ["self"] [])(DK:Df P w K S base n "kind_or_place" ["book","around","body"] (Tf C CK 13)):Yh P w K S base CX0 (n+1) f fd ["self"] (Sa C CK):=by
 refine F.oi J8 λL1 A m s H vs Q E hr h=>?_;obtain⟨D,kv,ks,c,d,j,bd,kg,kk,k6,ho,J5,q⟩:=h;have hu:=Jg hr;refine⟨_,YZ (Vq Zt Y (XH Y me (pa1<|VW (pv 0) TB.cl mH GH hr bH .nil VN)) (VO (n:=2) rfl (Yi (Yb 1 J8.nd)<|Yi (Yb 2 J8.nd) VC))
   (YW (V5 (JF hu (Y8 (pv 0) rfl) (pv 2) λ_ _=>rfl)<|VO (n:=3) rfl (Yi (Yb 3 J8.nd)<|Yi (Yb 4 J8.nd)<|Yi (Yb 5 J8.nd) VC))
   (YW (V5 (Yx DK hr<|pa3 (pv 0) (VB (U6 rfl) rfl B.dict WI (pa1<|pv 3))<|pv 5)<|VO (n:=2) rfl (Yi (Yb 6 J8.nd)<|Yi (Yb 7 J8.nd) VC))
   (YW (Y4 (Yq RM (pv 6) Vu<|Yy _) (YZ Jn) Ys)
   (YZ<|Y4 (Yq Uy (pv 6) (pv 4)<|Yy _) (YZ Jn) Ys))))),?_⟩
 dsimp only[Vi,Cx.nox,Cx.wish];show let T0:=_;let T1:=VJ _ T0 _;let T2:=_;let T3:=Yg (VJ _ T2 _) T1;let T4:=Yg _ T3;let T5:=Yg _ T4;Jt _ _ T5 _ _ _
 intros
 show let a:=_;let b:=VJ _ a _;let c:=_;let d:=Yg (VJ _ c _) b;let e:=Yg _ d;let f:=Yg _ e;Jt _ _ f _ _ _
 intros
 refine⟨_,_,bd.ins,yS _,D.t,ks,d,j,Y,⟨D,kv,Y,bd⟩,λnl H1 s1 G2 R=>?_⟩;exists nl,false,_,Y,Z1 R
 let I:kH:=λi U T=>Same H1 T/\∃(z1 z2 z3 z4 z5 z6 z7:kJ),U=[some (.ref D.t),z1,z2,z3,z4,z5,z6,z7]
 refine X3 (tp:=false) (xs:=j.map λx=>V.str x.1.1) I ⟨Z6 _,_,_,_,_,_,_,_,Y⟩ (λi U T _ z=>Z1<|z.1 _ _ R) ?_ ?_
 .rintro BB' RR i x U T r hx ⟨si,z1,z2,z3,z4,z5,z6,z7,rfl⟩ hr'
  rw[ZG]at hx
  cases hc:j[i]? with
  |none=>rw[hc]at hx;cases hx
  |some Z=>
   rw[hc]at hx;cases hx;have hm:=ZH hc;have o:=ho Z hm;have p:=J5 Z hm;refine up_in hr' _ λHR sR gR=>?_;have M:=bd.mono<|(s1.trans si).trans sR;obtain⟨v,e1,e2⟩:=M.at hm;obtain⟨ta,u,wv,rfl,J1,O,Z9⟩:=RV e2;exists _,Z0 gR,Y;exists C,_,_,_,M.ins,TB.cl,TB.td,IV _,_,e1;exists _,Z0 J1,Y;unfold psD at O;obtain⟨l,xp,rfl,hl,N⟩:=Yz O;obtain⟨tp,rfl,G⟩:=Dj (K:=K) N;replace G:FX K HR tp (kvP Z.1.2.1):=G;have G1:(kvP Z.1.2.1).length=Z.1.2.1.length:=ZA _;have J:=o.nd
   have Z8:((kvP Z.1.2.1).map (·.1)).Nodup:=by
    unfold kvP;rw[yg];unfold List.Nodup at J |-;rw[vV]at J |-;exact J.imp λJ2 q=>J2<|Sum.inr.inj q
   refine⟨l,tp,_,Y,hl,G,Z8,λaA J4=>?_⟩;refine up_in J4 _ λH3 t g3=>?_;have l3:=o.len;have G3:=p.dep;refine⟨D.t,aA,wv,ks,c,d,j,kvP Z.1.2.1,Z.2,Y,⟨D,kv,Y,M.mono t⟩,kk,λf ps k e=>?_,λq' hq=>?_,λy L=>(ho y L).len,.inl g3,by omega,Z9.mono t,p.ok,by omega,by omega,λr4 p4 H4 s4 X _=>?_⟩
   .obtain ⟨y,L,e'⟩:=ZU.mp<|TN e
    have:=(ho y L).own;rw[e']at this;exact this
   .obtain ⟨pr,hpr,rfl⟩:=ZU.mp hq
    exact⟨pr.1,pr.2,Y,o.kin pr hpr⟩
   rw[Kp kg (λz ts e=>(kk.at e).1) p]at X;replace X:H4 r4=some (.tup [.str Z.1.2.2,p4]):=X;exists _,Z0 X,Y;refine⟨Y,_,Y,Y6 (by simp) ?_⟩;refine⟨Y,_,Y,Y6 (by simp) ?_⟩;exact⟨((si.trans sR).trans t).trans s4,_,_,_,_,_,_,_,Y⟩
 .rintro U T ⟨si,_⟩
  exact q T<|s1.trans si
inductive SBN(C CK:Addr)(H:Hp)(Q:VK):List V->Prop
 |mk (x dx kl dl:Addr) (xs zs:List V) (ks:List (Str×Shp)) (c d:Str->Nat) (ds:List Dd) (hx:H x=some (.ins C dx [])) (hkl:H kl=some (.lst xs)) (hxs:HasL H xs (ks.map Vx)) (kS:J3 ks c d) (hdl:H dl=some (.lst zs)) (hzs:HasL H zs (ds.map BZ)) (d0:0<ds.length) (d8:ds.length<=8) (wd:Wds 97 (ds.map λx=>x.1.1)) (ho:∀x∈ds,Ur (ks.map (·.1)) c 40 x.1) (dok:∀x∈ds,Sd ks (Y5 (ds.map (·.1))) (kvP x.1.2.1) x.1.2.2 5 x.2)
  (q:∀H',(∀b o,b≠x->H b=some o->H' b=some o)->BE H' C CK x ks c d ds->Q .non H'):SBN C CK H Q [.ref x,.ref kl,.ref dl]
def SZ(C CK:Addr):Sp:=λZ H Q _=>SBN C CK H Q Z
def AO(hm:m+1<=n)(L:BCl K C)(F:Fun K "__init__" "Book.__init__" Dc f fd)(R6:Mk K CK gi)(mC:a "Kinds"=some (.ref CK))(GI:Yh P w K a base CX0 m gi J1 ["self","told"] (Bt CK))(bI:Binds K J1 ["self","told"] [])(m1:Vk K C "take_heads" g1)(G1:Yh P w K a base CX0 n g1 d1 ["self","definitions"] (Ko C CK))(b1:Binds K d1 ["self","definitions"] [])(m2:Vk K C "check_bodies" g2)(G2:Yh P w K a base CX0 n g2 d2 ["self"] (Sa C CK))(b2:Binds K d2 ["self"] []):
  Yh P w K a base CX0 (n+1) f fd ["self","kinds","definitions"] (SZ C CK):=by
 refine F.oi PJ λT5 A Z8 s H vs Q E hr h=>?_;obtain⟨x,J,kl,dl,xs,zs,S,c,d,ds,hx,L1,J4,kS,N2,J2,d0,d8,wd,ho,R1,q⟩:=h;obtain⟨kk,nd,kg,k0,k6,_,_,_⟩:=id kS;have G3:Vj (m+1) _:=hr.mono hm;refine⟨_,YW (Jz (pv 0) (M7 R6 GI G3 Y mC bI .nil VN (pa1<|pv 1)) rfl)
  (YW (Jz (pv 0) JJ rfl) (YW (Jz (pv 0) JJ rfl) (YW (Jz (pv 0) JJ rfl)
  (YW (Ve<|Vg (pv 0) L.cl m1 G1 hr b1 .nil VN<|pa1<|pv 2)
  (YZ<|Ve<|VW (pv 0) L.cl m2 G2 hr b2 .nil VN))))),?_⟩
 dsimp only[Vi,Cx.nox,Cx.wish];show let T0:=_;let T1:=Yg _ T0;let T2:=Yg _ T1;let T3:=Yg _ T2;let T4:=Yg _ T3;Yg _ T4 _ _ _
 intros
 refine λt O ht M2 R8=>?_;have tx:upd (upd H O<|.own t) t (.ins CK O []) t=some (.ins CK O []):=Ya;have r:Same H (upd (upd H O<|.own t) t<|.ins CK O []):=λb o e=>by rw[Yd (Yj e ht),Yd (Yj e M2)];exact e
 generalize upd (upd H O<|.own t) t (.ins CK O [])=H7 at tx r |-;have R7:x≠t:=Yj hx ht;refine⟨t,O,kl,xs,S,c,d,Y,tx,r _ _ L1,J4.mono r,kk,nd,kg,k0,k6,λZ f8 Z9=>⟨Y,?_⟩⟩;have s8:Same H Z:=λb o e=>f8 b o (Yj e ht)<|r b o e;have x8:=s8 _ _ hx;refine⟨x,C,J,_,Y,x8,L.cl,L.so,by decide,?_⟩;have k:upd Z x (.ins C J<|Vc "sorts" (.ref t) []) x=some (.ins C J<|Vc "sorts" (.ref t) []):=Ya;have l:∀b o,b≠x->Z b=some o->upd Z x (.ins C J<|Vc "sorts" (.ref t) []) b=some o:=λb o n e=>by rw[Yd n];exact e
 generalize upd Z x (.ins C J<|Vc "sorts" (.ref t) [])=H9 at k l |-;intro I T;refine⟨x,C,J,_,Y,by rw[Yd (Yj k T)];exact k,L.cl,L.td,(by show 1<1000;decide),?_⟩;obtain⟨v,a1,n1,r1⟩:=JX (f:="told") (o:=.dK []) k T;generalize upd (upd H9 I<|.dK []) x (.ins C J<|Vc "told" (.ref I)<|Vc "sorts" (.ref t) [])=H1 at v a1 r1 |-;intro U N;refine⟨x,C,J,_,Y,by rw[Yd (Yj v N)];exact v,L.cl,L.rd,(by show 2<1000;decide),?_⟩;obtain⟨u,a2,n2,r2⟩:=JX (f:="rows") (o:=.dK []) v N;generalize upd (upd H1 U<|.dK []) x (.ins C J<|Vc "rows" (.ref U)<|Vc "told" (.ref I)<|Vc "sorts" (.ref t) [])=H2 at u a2 r2 |-;intro p3 X;refine⟨x,C,J,_,Y,by rw[Yd (Yj u X)];exact u,L.cl,L.tn,(by show 3<1000;decide),?_⟩;obtain⟨x3,a3,n3,i⟩:=JX (f:="turns") (o:=.dK []) u X;generalize upd (upd H2 p3<|.dK []) x (.ins C J<|Vc "turns" (.ref p3)<|Vc "rows" (.ref U)<|Vc "told" (.ref I)<|Vc "sorts" (.ref t) [])=H3 at x3 a3 i |-
 let R:BA:=⟨x,J,t,I,U,p3⟩
 have M:∀{b:Addr}{o:HO},WZ Z x b=some o->b≠x/\Z b=some o:=λ{b o} h=>by
  unfold WZ at h
  by_cases e:b=x
  .rw [Zn e]at h;cases h
  .rw [Zo e]at h;exact⟨e,h⟩
 have fr:∀b o,b≠x->Z b=some o->H3 b=some o:=λb o n e=>i b o n<|r2 b o n<|r1 b o n<|l b o n e;have sm:Same (WZ Z x) H3:=λb o h=>fr b o (M h).1 (M h).2
 have free:∀p:Addr,(∀o,p≠x->Z p=some o->False)->WZ Z x p=none:=λp h=>by
  cases e:WZ Z x p with
  |none=>rfl
  |some o=>exact(h o (M e).1 (M e).2).elim
 have R5:=r2 _ _ n1 a1;have R4:=i _ _ n1 R5;have R3:=i _ _ n2 a2;have bb:BB (WZ Z x) H3 C CK R S d:=⟨x3,sm,Z9.out x8,free I λo n e=>(by have:=l _ _ n e;rw[T]at this;cases this),free U λo n e=>(by have:=r1 _ _ n<|l _ _ n e;rw[N]at this;cases this),Yj a1 N,Zq n1,Zq n2⟩;have bt:BT H3 R [] [] S []:=⟨R4,R3,rfl,Z4,(λy hy=>nomatch hy),ZF _⟩;have B:∀{b:Addr}{o:HO},H b=some o->o≠.ins C J []->WZ Z x b=some o:=λ{b o} h n=>Dp (JQ h hx n)<|s8 _ _ h;have tl:TL H (WZ Z x):=⟨λb xs h=>B h (by intro z;cases z),λb xs h=>B h (by intro z;cases z)⟩;refine⟨_,_,x3,yQ R,WZ Z x,R,dl,zs,S,c,d,ds,Y,bb,bt,kk,k6,B N2 (by intro z;cases z),HasL.tl tl _ J2,d0,d8,wd,ho,λH4 kv rv G D=>?_⟩;have j:BD H4 C CK R kv S d ds:=⟨G.ins,G.so.mono G.sm,D.td,D.ke,D.va,wd.nd⟩;refine⟨_,_,G.ins,yU R,R,kv,S,c,d,ds,j,kg,kk,k6,ho,R1,λH5 s5=>?_⟩;exact q H5 (λb o n e=>s5 _ _<|G.sm _ _<|Dp n<|s8 _ _ e) ⟨⟨R,kv,rfl,j.mono s5⟩,kk,L8 ho,λx' J5=>(ho x' J5).len,k6⟩
end
end K4
namespace L2
open PySem
theorem HasL.drop9:∀{J:kK}{Z:kF}(n:Nat),HasL H Z J->HasL H (Z.drop n) (J.drop n)
 |_,_,0,h=>h
 |[],[],n+1,h=>h
 |[],_::_,_+1,h=>by unfold HasL at h;exact h.elim
 |_::_,[],_+1,h=>by unfold HasL at h;exact h.elim
 |d::J,x::Z,n+1,h=>by unfold HasL at h;exact HasL.drop9 n h.2
theorem HasL.take9:∀{J:kK}{Z:kF}(n:Nat),HasL H Z J->HasL H (Z.take n) (J.take n)
 |_,_,0,h=>Z4
 |[],[],n+1,h=>h
 |[],_::_,_+1,h=>by unfold HasL at h;exact h.elim
 |_::_,[],_+1,h=>by unfold HasL at h;exact h.elim
 |d::J,x::Z,n+1,h=>by unfold HasL at h;exact Z2 h.1<|HasL.take9 n h.2
def U3{α:Type}(ls:List α)(lo hi:ky):List α:=(ls.drop<|HT.sIx ls.length 0 lo).take<|HT.sIx ls.length ls.length hi-HT.sIx ls.length 0 lo
def Bb{α:Type}{Z:List α}{x:α}(h:x∈U3 Z lo hi):x∈Z:=j8<|Zi h
section
variable{α:Type}{D:α->Dat}{ls l1 l2:List α}
def TU{Q:VK}(h:Has H u (.tup<|ls.map D))(q:∀L G,Same H G->Has G L (.tup<|(U3 ls lo hi).map D)->Q L G):PR u lo hi H Q:=by
 obtain⟨a,Z,rfl,R,M⟩:=Yz h;have J:=M.length;rw[ZA]at J;refine⟨a,Z,Y,R,λN=>q _ H (Z6 _) ?_,λp O=>q _ _ (Ye O _) ?_⟩
 .have e:U3 ls lo hi=ls:=by
   unfold U3;rw[<-J,N.1,N.2,Nat.sub_zero,j7,J,vj]
  rw[e];exact h
 .have e:(U3 ls lo hi).map D=((ls.map D).drop<|HT.sIx Z.length 0 lo).take (HT.sIx Z.length Z.length hi-HT.sIx Z.length 0 lo):=by
   unfold U3;rw[vd,List.map_drop,J]
  rw[e];exact Yu Ya<|HasL.take9 _<|HasL.drop9 _<|M.mono<|Ye O _
def NT{Q:VK}(A:Has H u (.tup<|l1.map D))(F:Has H v (.tup<|l2.map D))(l:l1.length+l2.length<=900)(q:∀M J,Same H J->Has J M (.tup<|(l1++ l2).map D)->Q M J):Ry K u v H Q\/WX K u v H Q:=by
 obtain⟨a,L,rfl,E,T⟩:=Yz A;obtain⟨b,G,rfl,B,R⟩:=Yz F;have O:=T.length;have N:=R.length;rw[ZA]at O N
 by_cases e:L=[]
 .subst e
  refine .inl ⟨a,b,G,Y,Y,Z0 E,Z0 B,q _ H (Z6 _) ?_⟩;rw[jx O.symm];exact F
 .refine .inr ⟨a,b,L,G,rfl,rfl,Z0 E,Z0 B,e,Zf<|Yt<|by omega,λI=>q _ H (Z6 _) ?_,λ_ p Z=>q _ _ (Ye Z _) ?_⟩
  .subst I
   rw[jx N.symm,vE];exact A
  .rw [ZI]
   exact Yu Ya<|Z5 (T.mono<|Ye Z _)<|R.mono<|Ye Z _
end
def GL{α:Type}(Z:List α)(k:Nat)(h:k<=Z.length):U3 Z none (some (k:Int))=Z.take k:=by
 unfold U3;rw[HT.sIx_none,HT.sIx_nat,j7,Nat.sub_zero,vh h]
def Lb.of{J:kF}(G:Pen K sa H p)(Z:H l=none)(N:HasL H J L)(M:Dat.sts L=true):Lb K sa H p l L (upd H l<|.lst J):=⟨G,Z,(Ye Z _).sb,G.same<|Ye Z _,J,Ya,N.mono<|Ye Z _,M⟩
def Gv(h:Dat.sts Z=true):(Dat.tup Z).st=true:=by unfold Dat.st;exact h
def A2{zs:List (Str×Rb)}:(Rb.br e (zs.map (·.1))<|zs.map (·.2)).dat=.tup [.str "by",e.dat,.tup (zs.map rbF)]:=by unfold Rb.dat;rw[M3]
def BM{Z:List Hd}(h:r∉Z.map (·.1)):Y5 Z r=none:=by
 unfold Y5;rw[ql.mpr λx m z=>h (ZU.mpr ⟨x,m,Zr z⟩)];rfl
def EL(t:Str):Bo (.tag t):=⟨by unfold Bd.ok;trivial,by unfold Bd.dep;decide,by unfold Bd.nl;trivial⟩
def PQ(h:¬ ∃Z,rh r=some (Z,y)/\J.map kd=(Z.map (·.2)).map some):rbG kd G rh y (n+1) (.on r J)=false:=by unfold rbG;exact Aq h
def Bd.dat_tag(t:Str):(Bd.tag t).dat=.tup [.str "tag",.str t]:=by unfold Bd.dat;rfl
def Rb.dat_on(r:Str)(Z:List Bd):(Rb.on r Z).dat=.tup [.str "on",.str r,.tup (Z.map Bd.dat)]:=by unfold Rb.dat;rw[Z7]
def Rb.dat_thn(e:Bd)(r:Str)(Z:List Bd):(Rb.thn e r Z).dat=.tup [.str "then",e.dat,.str r,.tup (Z.map Bd.dat)]:=by unfold Rb.dat;rw[Z7]
def FE(L:DW m d)(G:DW m e)(J:DW m f):DW (1+m) (.tup [d,e,f]):=UX (λx Z=>by
 simp only[Zb,vP,or_false]at Z;rcases Z with rfl|rfl|rfl
 .exact L
 .exact G
 .exact J) (by show 3<=1000;decide)
def FD(M:DW m d)(L:DW m e)(G:DW m f)(J:DW m g):DW (1+m) (.tup [d,e,f,g]):=UX (λx Z=>by
 simp only[Zb,vP,or_false]at Z;rcases Z with rfl|rfl|rfl|rfl
 .exact M
 .exact L
 .exact G
 .exact J) (by show 4<=1000;decide)
def Bo.dw(h:Bo b):DW 15 b.dat:=Bd.dw 4 b h.dep h.ok
def Og{Z:List Bd}(h:∀a∈Z,Bo a)(l:Z.length<=9):DW 16 (.tup<|Z.map Bd.dat):=UX (m:=15) (λd J=>by obtain⟨a,G,rfl⟩:=ZU.mp J;exact(h a G).dw) (by rw[ZA];omega)
theorem RO.dw:∀{n:Nat}{b:Rb},RO n b->DW (3*n+17) b.dat
 |n+1,.on r as,h=>by
  cases h with
  |on J Z=>rw[Rb.dat_on];exact(FE ((Jf _).up<|by decide) ((Jf _).up<|by decide)<|Og J Z).up<|by omega
 |n+1,.thn e r as,h=>by
  cases h with
  |thn G J Z=>rw[Rb.dat_thn];exact(FD ((Jf _).up<|by decide) (G.dw.up<|by decide) ((Jf _).up<|by decide)<|Og J Z).up<|by omega
 |n+1,.br e ts bs,h=>by
  cases h with
  |br G J Z T=>
   have M:(ts.zip bs).map (·.1)=ts:=qG (by omega);have N:(ts.zip bs).map (·.2)=bs:=qF (by omega);have B:(ts.zip bs).length=ts.length:=by rw[List.length_zip];omega
   have L:=A2 (e:=e) (zs:=ts.zip bs);rw[M,N]at L;rw[L];refine(FE (m:=3*n+19) ((Jf _).up<|by omega) (G.dw.up<|by omega)<|(UX (m:=1+(3*n+17)) (λd R=>?_) (by rw[ZA];omega)).up<|by omega).up (by omega);obtain⟨x,O,rfl⟩:=ZU.mp R;exact NO ((Jf _).up<|Za _) (T _ (jy O).2).dw
def PM{Z:List Rw}(h:∀x∈Z,RO 3 x.2)(L:∀x∈Z,x.1.2.1.length<=5)(l:Z.length<=7):DW 28 (.lst<|Z.map Vb):=OS (m:=27) (λd J=>by
 obtain⟨x,G,rfl⟩:=ZU.mp J;have M:=L x G;unfold Vb;refine FD (m:=26) ((Jf _).up<|by decide) ?_ ((Jf _).up<|by decide) (h x G).dw;rw[M5];refine(UX (m:=1) (λd J=>?_) (by rw[ZA];omega)).up (by decide);obtain⟨p,_,rfl⟩:=ZU.mp J;exact NO (Jf _)<|Jf _) (by rw[ZA];omega)
structure XR(K:W.Frag)(mg:Str->Option Value)(aW N a1 a2 a3 a4 a5 a6 a7 a8 a9 b1 b2:Addr):Prop where
 mW:mg "WantError"=some (.ref aW)
 mN:mg "NoRows"=some (.ref N)
 m1:mg "NoAsking"=some (.ref a1)
 m2:mg "NoBook"=some (.ref a2)
 m3:mg "NoCell"=some (.ref a3)
 m4:mg "NoKinds"=some (.ref a4)
 m5:mg "NoMore"=some (.ref a5)
 m6:mg "NoMost"=some (.ref a6)
 m7:mg "NoNote"=some (.ref a7)
 m8:mg "NoPart"=some (.ref a8)
 m9:mg "NoSheet"=some (.ref a9)
 n1:mg "NoWorth"=some (.ref b1)
 n2:mg "Torn"=some (.ref b2)
 mV:mg "ValueError"=none
 hand:Oo K aW
 exc:W.ExcC K N
 sub:W.subIn K (.ref N) (.ref aW)=some true
 u1:W.kitAny K (.ref N) ([a1,a2,a3,a4,a5,a6,a7,a8,a9].map Value.ref)=some false
 u2:W.kitAny K (.ref N) ([b1,b2].map Value.ref)=some false
 u3:W.kitOne K (.ref N) (.ref N)=some true
 u4:W.kitOne K (.ref N) (.type "ValueError")=some true
 hd:W.hasDictIn K N=true
 fn:W.findIn K (.ref N) "number"=some none
def Xr.mono(c:Xr H ea C Z)(s:Same H J):Xr J ea C Z:=⟨s _ _ c.at_,λd z=>let⟨o,h⟩:=c.dict d z;⟨o,s _ _ h⟩⟩
end L2
namespace L2
open PySem PySem.Spec PyProof.Rows
section
variable{X:Cx}{es:kP}{t:TA}{pos:Pos}
def CI(K:W.Frag)(t:TA):TE:=λU H Q=>t U H λZ J=>Z.length<=sizeLine/\∀p,J p=none->K.lookup p=none->Q (.ref p) (upd J p<|.lst Z)
def Pa(h:PA X es t):PE X (.List es pos) (CI X.K t):=by
 intro J s U H Q I O;refine wpAny_List_spliced<|thn (h pos J s U H _ I O) λN Z ⟨M,L,G,r,z,q⟩=>⟨by rw[<-r.length];exact z,?_⟩;have T:L Z.heap.objs.size=none:=G.hok.fresh<|ZF _
 have R:X.K.lookup Z.heap.objs.size=none:=by
  cases e:X.K.lookup Z.heap.objs.size with
  |none=>rfl
  |some o=>exact Zp (ZN<|G.kIn _ o e)<|yx _
 refine⟨.ref Z.heap.objs.size,upd L Z.heap.objs.size<|.lst M,G.laid (t':=Z.toks) (λb u e=>ZD _ e) (ZF _) ?_,rfl,q _ T R⟩;exact⟨z,N,0,r,ZW _ Y⟩
end
def Pen.new{K:W.Frag}{J:kz}(G:SqL K H a (J.map V.int))(Z:H p=none)(L:K.lookup p=none):Pen K a (upd H p<|.lst [.ref a,.int (0:Nat),.int (0:Nat)]) p:=by
 have n:a≠p:=by
  rintro rfl;rcases G with(h|⟨o,h⟩)|⟨o,its,n,h,_⟩
  .rw [Z]at h;cases h
  .rw [Z]at h;cases h
  .rw [L]at h;cases h
 exact⟨J,0,0,(Ye Z _).seq G,Ya,n⟩
def CZ{P:Program}{w:World}{X:Cx}:Ub (CX1 P w) X (λ_ _ _=>False):=λ_ _ _ _ _ _ _ h=>by
 obtain⟨_,_,_,_,_,_,_,_,_,_,z⟩:=h;exact z.elim
end L2
namespace L2
open PySem
theorem HasL.set:∀{J:kK}{Z:kF}{i:Nat},HasL H Z J->Has H v d->HasL H (Z.set i v) (J.set i d)
 |[],Z,i,h,hv=>by obtain rfl:=VP h;exact Z4
 |e::J,Z,0,h,hv=>by obtain⟨x,r,rfl,L,G⟩:=Yf h;exact Z2 hv G
 |e::J,Z,i+1,h,hv=>by obtain⟨x,r,rfl,L,G⟩:=Yf h;exact Z2 L<|HasL.set G hv
def Ur.sub(h:Ur Z c t x)(s:∀y∈Z,y∈J):Ur J c t x:=⟨h.len,λp m=>s _<|h.kin p m,s _ h.own,h.nd,h.spl,h.rows⟩
theorem Nq:∀{as:List Bd},(∀a∈as,∃t,a=Bd.tag t)->Bd.oks as/\Bd.deps as=0/\Bd.nls as
 |[],_=>⟨by unfold Bd.oks;trivial,by unfold Bd.deps;rfl,by unfold Bd.nls;trivial⟩
 |a::as,h=>by
  obtain⟨t,rfl⟩:=h a ZY;obtain⟨G,J,Z⟩:=Nq λa m=>h a<|ZK _ m;have o:=EL t;exists ?_,?_
  .unfold Bd.oks;exact⟨o.ok,G⟩
  .unfold Bd.deps;rw[J];unfold Bd.dep;rfl
  .unfold Bd.nls;exact⟨o.nl,Z⟩
def QZ(f:Str)(l:Z.length<=3):Bo (.ask f<|Jo J Z):=by
 obtain⟨L,O,G⟩:=Nq (as:=Jo J Z) λa m=>by
  unfold Jo at m;obtain⟨M,_,rfl⟩:=ZU.mp m;exact⟨_,Y⟩
 have N:(Jo J Z).length=Z.length:=by unfold Jo;rw[ZA]
 exists ?_,?_
 .unfold Bd.ok;exact⟨by omega,L⟩
 .unfold Bd.dep;omega
 .unfold Bd.nl;exact G
def Bd.dat_ask(f:Str)(Z:List Bd):(Bd.ask f Z).dat=.tup [.str "ask",.str f,.tup (Z.map Bd.dat)]:=by(conv=>lhs;unfold Bd.dat);rw[Z7]
end L2
namespace K4
open PySem L2
section
variable{C CK CW aW N a1 a2 a3 a4 a5 a6 a7 a8 a9 b1 b2:Addr}
def Si:Yn ["_law_e","_law_others"] ["_law_e"] (Yc RS):=Y7
inductive SKE(N:Addr)(H:Hp)(Q:VK):List V->Prop
 |mk (ea:Addr) (dx:Option Addr) (h:Xr H ea N dx) (q:∀H',Same H H'->Q (.bl true) H'):SKE N H Q [.ref ea]
def SV(N:Addr):Sp:=λZ H Q _=>SKE N H Q Z
def Cp(B:Blt U)(Z:XR K U aW N a1 a2 a3 a4 a5 a6 a7 a8 a9 b1 b2)(F:Fun K "_law_kinds_of" "_law_kinds_of" RS f z):Yh P w K U base CX0 (n+1) f z ["_law_e"] (SV N):=by
 refine F.oi Si λt A M s H k Q E p h=>?_;obtain⟨J,G,X,q⟩:=h;refine⟨_,YW (Yk 1 Si.nd<|Yr (r:=RB K) UN rfl B.isi J0 (pa2 (pv 0)<|Y0<|Y9 (Jd rfl Z.m1)<|Y9 (Jd rfl Z.m2)<|Y9 (Jd rfl Z.m3)<|Y9 (Jd rfl Z.m4)<|Y9 (Jd rfl Z.m5)<|Y9 (Jd rfl Z.m6)<|Y9 (Jd rfl Z.m7)<|Y9 (Jd rfl Z.m8)<|Y9 (Jd rfl Z.m9) Vd))
  (YW (Yk 1 Si.nd<|CY (pv 1)<|WA<|Yr (r:=RB K) UN rfl B.isi J0 (pa2 (pv 0)<|Y0<|pa2 (Jd rfl Z.n1)<|Jd rfl Z.n2))
  (YZ<|Yo<|WB (Yr (r:=RB K) UN rfl B.isi J0 (pa2 (pv 0)<|Jd rfl Z.mN))<|WB (Yr (r:=RB K) UN rfl B.isi J0 (pa2 (pv 0)<|Es (v:=.ty "ValueError") rfl Z.mV PyProof.Rows.Boot.«ValueError» rfl))<|WA<|LN<|pv 1)),?_⟩
 show let g:=_;let m:=Yg _ g;Yg _ m _ _ _
 intros
 refine⟨sl 9,λI R=>?_⟩;refine up_in R _ λd L y=>?_;exists J,N,G,.ref I,false,Y,X.mono L,Z.exc,.inl ⟨I,[a1,a2,a3,a4,a5,a6,a7,a8,a9],Y,y,Z.u1⟩;refine⟨false,Y,Y6 Zg ⟨sl 2,λD O=>?_⟩⟩;refine up_in O _ λc S j=>?_;have T:=(X.mono L).mono S;exists J,N,G,.ref D,false,Y,T,Z.exc,.inl ⟨D,[b1,b2],Y,j,Z.u2⟩;refine⟨J,N,G,.ref N,true,Y,T,Z.exc,.inr<|.inl ⟨N,rfl,Z.u3⟩,⟨true,rfl,Vf rfl ?_⟩⟩;refine⟨J,N,G,.ty "ValueError",true,Y,T,Z.exc,.inr<|.inr ⟨"ValueError",rfl,Z.u4⟩,⟨true,rfl,Vf rfl ?_⟩⟩;exact⟨_,Y,q _<|L.trans S⟩
def GD{n j:Nat}(h:j<n):ixN n (j:Int)=some j:=by
 unfold ixN;rw[Zn (by omega),Zn (by omega)]
 rfl
def WV{Z:List Rw}:(Z.set i x).map Vb=(Z.map Vb).set i (Vb x):=qC
def WK(Z:kq):(Dat.lst<|Z.map Dat.str).dep<=1:=by unfold Dat.dep;rw[Wp];decide
def Tp:Yn ["_law_book_here","_law_told","_law_found","_law_handed","e"] ["_law_book_here","_law_told"] (Yc RQ):=Y7
inductive SRf(C CK:Addr)(H:Hp)(Q:VK):List V->Prop
 |mk (bk la:Addr) (xs:List V) (rs:List Rw) (ks:List (Str×Shp)) (c d:Str->Nat) (ds:List Dd) (k:Nat) (be:BE H C CK bk ks c d ds) (kS:J3 ks c d) (hl:H la=some (.lst xs)) (hrs:HasL H xs (rs.map Vb)) (l7:rs.length<=7) (tx:∀x∈rs,TxR x) (ro:∀x∈rs,RO 3 x.2)
  (fr:Fault ks (Y5 (ds.map (·.1))) c rs k) (q:∀H',Same H H'->Q (.int (k:Nat)) H'):SRf C CK H Q [.ref bk,.ref la]
def O3(C CK:Addr):Sp:=λZ H Q _=>SRf C CK H Q Z
def Cf(hn:29<=n)(hm:m+1<=n)(B:Blt R)(Z:XR K R aW N a1 a2 a3 a4 a5 a6 a7 a8 a9 b1 b2)(F:Fun K "_law_refused" "_law_refused" RQ f fd)(Z9:Mk K CW gi)(mC:R "Rows"=some (.ref CW))(GI:Yh P w K R base (CX1 P w) m gi t ["self","book","told"] (Ki CW C CK N))(bI:Binds K t ["self","book","told"] [])(DK:Df P w K R base n "_law_kinds_of" ["_law_e"] (SV N)):
  Yh P w K R base CX0 (n+1) f fd ["_law_book_here","_law_told"] (O3 C CK):=by
 refine F.oi Tp λJ2 A y s H vs Q E p h=>?_;obtain⟨bk,la,xs,j,ks,c,d,ds,k,be,kS,hl,L,l7,tx,ro,fr,q⟩:=h;have T:Vj (28+1) _:=p.mono hn;have g:Vj (m+1) _:=p.mono hm;refine⟨_,YW (Yk 2 Tp.nd Vu)
  (YW (Yk 3 Tp.nd<|VB Vw rfl B.list Vm (pa1<|pv 1))
  (YW (LI (i:=4) rfl rfl Tp.nd rfl rfl rfl Z.mW Z.hand (tb:=λEX=>KU<|KS CW (Ki CW C CK N) [] EX<|V6 (Wo 0)<|V6 (Wo 3) Gn)
    (λEX pn W hp=>YZ<|Ve<|LP Z9 GI g rfl mC bI .nil hp (pa2 (pv 0)<|pv 3))
    (λA'=>YZ<|Yk 2 Tp.nd<|pv 4))
  (YW (Y4 (PW.pt<|Jm (Yq RM (pv 2) Vu<|Yy _)<|Jm (V8<|V7<|Yx DK p<|pa1<|pv 2)<|Jc<|Yq (Xg T) (pv 3) (pv 1)<|Yy _) (YZ<|Yo Vu) Ys)
  (YW (Y4 (PW.pt<|Jm (V8<|V7<|RG rfl B.isi rfl B.int Ip (RF K rfl (pv 2) rfl))<|Jc<|V7<|RG rfl B.isi rfl B.bool EK (RF K rfl (pv 2) rfl)) (YZ<|Yo Vu) Ys)
  (YZ<|Yo<|RF K rfl (pv 2) rfl))))),?_⟩
 dsimp only[Vi,Cx.nox,Cx.wish];show let T0:=_;let T1:=_;let T2:=Yg (VJ _ T1 _) T0;let T3:=_;let T4:=Yg (VJ _ T3 _) T2;let T5:=Yg _ T4;let T6:=Yg _ T5;Yg _ T6 _ _ _
 intros
 refine⟨la,_,Y,.inl<|Z1 hl,λl1 u=>?_⟩;refine up_in u _ λH1 X g1=>?_;refine λx dx S r J1=>?_;have sX:Same H1 (upd (upd H1 dx<|.own x) x<|.ins CW dx []):=λb o e=>by rw[Yd (Yj e S),Yd (Yj e r)];exact e
 refine⟨H1,x,dx,bk,l1,xs,j,ks,c,d,ds,Ya,sX,S,be.mono X,kS,g1,L.mono X,l7,tx,ro,λgood=>(RP good fr).elim,λk' Z8 H2 e s2 he=>?_⟩;cases OO fr Z8;refine⟨N,Y,Z.sub,λe' z=>by cases z;exact⟨_,he⟩,λG v=>?_⟩;have D:=Ye v<|U2 G N<|some e;have l:upd H2 G (U2 G N<|some e) G=some (U2 G N<|some e):=Ya;have O:=D _ _ he;generalize upd H2 G (U2 G N<|some e)=HE at D l O |-;have cE:Xr HE G N (some e):=⟨l,λd z=>by cases z;exact⟨_,O⟩⟩;refine⟨Y,_,Y,Y6 (by simp) ?_⟩;refine⟨G,some e,cE,λH3 I=>?_⟩;have J:=((X.trans s2).trans D).trans I;have U:=(s2.trans D).trans I;refine⟨_,Y,Y6 (by decide) ?_⟩;refine⟨.lst<|j.map Vb,.lst<|j.map Vb,VD (U _ _ g1)<|L.mono J,VD (J _ _ hl)<|L.mono J,(PM ro (λx S=>(tx x S).l5) l7).1,_,rfl,Y6 (by rw[Dat.pq_self];decide) ?_⟩;have a:=I _ _ l;have M:=I _ _ O;exists N,e,_,.int (k:Nat),a,M,Z.exc,Z.hd,Z.fn,Y;refine⟨_,_,_,_,Y,Xq.int _,Wb K "int",_,Y,Y6 (by decide) ?_⟩;exists N,e,_,.int (k:Nat),a,M,Z.exc,Z.hd,Z.fn,Y;refine⟨_,_,_,_,Y,Xq.int _,Ab<|by decide,_,rfl,Y6 (by decide) ?_⟩;exact⟨N,e,_,.int (k:Nat),a,M,Z.exc,Z.hd,Z.fn,Y,q _ J⟩
end
end K4
namespace L2
open PySem
structure Tx(x:Str):Prop where
 len:x.length<=20
 asc:∀c∈x.cps.toList,c<128
section
variable{X:Cx}{E:XK}{x:Str}{C:Addr}
def Qg(t:TE):TE:=λU H Q=>t U H λv Z=>∃x,v=.str x/\Tx x/\∀y,y.length<=1000->Q (.str y) Z
def Pc(O:PE X v tv):PE X (.FormattedValue v 114 none pos) (Qg tv):=by
 intro Z s U H Q I h;refine wpAny_FormattedValue_repr<|thn (O Z s U H _ I h) λu B ⟨y,M,L,N,z,J,G,q⟩=>?_;subst J;obtain⟨T,rfl⟩:=N
 have hx:(reprText z).length<=1000:=by
  have e:=StrLaws.reprText_len z (λc R=>Zv (G.asc c R)<|by decide);have:=G.len;omega
 have J:(reprText z).length<=sizeLine:=ZZ hx (by decide);refine pyReprObj_str (hx:=J)<|wpAny_formatField_str (hx:=J) ?_ ?_
 .exact ⟨.str<|reprText z,M,L.tok _,⟨_,rfl⟩,q _ hx⟩
 .exact ⟨.str<|reprText z,M,(L.tok _).tok _,⟨_,rfl⟩,q _ hx⟩
def Bm:List TE->St->Hp->(Hp->Prop)->Prop
 |[],_,H,R=>R H
 |t::ts,U,H,R=>t U H λv H1=>∃x,v=.str x/\x.length<=1000/\Bm ts U H1 R
def Rg(t:TE):Prop:=∀U H (Q Z:VK),(∀v J,Q v J->Z v J)->t U H Q->t U H Z
def Oz(C:Addr)(E:XK)(ts:List TE):TS:=λ_ U H=>Bm ts U H λZ=>E (.ref C) none Z
inductive PMs(X:Cx):List Expr->List TE->Prop where
 |nil:PMs X [] []
 |cons {e:Expr}{t:TE}{es:List Expr}{ts:List TE}:PE X e t->Rg t->PMs X es ts->PMs X (e::es) (t::ts)
def PMs.pes(h:PMs X J Z):PEs X J Z:=by
 induction h with
 |nil=>exact .nil
 |cons a _ _ ih=>exact .cons a ih
def Dm(h:PMs X T J):∀(Z:Str)(k:Nat)(U:St)(H:Hp)(R:Hp->Prop),Z.length<=1000*k->k+J.length<=10->Bm J U H R->Rr J Z U H λ_ G=>R G:=by
 induction h with
 |nil=>intro Z k U H R _ _ q;exact q
 |cons a m _ ih=>
  intro Z k U H R O M q;rw[Zd]at M;refine m U H _ _ (λv G ⟨x,L,N,r⟩=>⟨x,L,?_,ih (Z++ x) (k+1) U G R ?_ (by omega) r⟩) q
  .rw [strLen_append]
   have:(10000:Nat)<=sizeLine:=by decide
   have:1000*k<=9000:=by omega
   omega
  .rw [strLen_append];omega
def Fp(g:Iv X E)(T:X.ex=[])(c:X.calm=true)(p:Gl X x)(N:X.mg x=some (.ref C))(d:IsX X.K C)(R:PMs X (y::v2::j) Z)(f:Z.length<=10:=by simp)(B:(x==("__debug__":Str))=false:=by decide):PS X (.Raise (some<|.Call (.Name x np) [.JoinedStr (y::v2::j) jp] [] cpos) none pos) (Oz C E Z):=by
 intro G s U H D I h;refine LJ g T c p N d (pa1<|Fs R.pes) B rfl rfl G s U H D I ?_;have q:=Dm R Str.empty 0 U H _ (by decide) (by omega) h
 have mono:∀(Z:List TE)(J:Str),(∀t∈Z,Rg t)->∀U H (Q M:VK),(∀v P,Q v P->M v P)->Rr Z J U H Q->Rr Z J U H M:=by
  intro Z
  induction Z with
  |nil=>intro J _ U H Q M k q;exact k _ _ q
  |cons t Z ih=>intro J N U H Q M k q;exact N t (ZY ..) U H _ _ (λv S ⟨x,e,l,r⟩=>⟨x,e,l,ih (J++ x) (λz O=>N z<|ZK _ O) U S Q M k r⟩) q
 have F:∀{A:kP}{Z:List TE},PMs X A Z->∀t∈Z,Rg t:=by
  intro A Z h
  induction h with
  |nil=>intro t L;cases L
  |cons a m _ ih=>
   intro t L;rcases Zb.mp L with rfl|L
   .exact m
   .exact ih t L
 refine mono Z Str.empty (F R) U H _ _ (λv S r=>?_) q;exact⟨sl 1,r⟩
def yJ(v:V):Rg (tC v):=λU H Q Z k q=>k _ _ q
def AY(i:Nat):Rg (Wo i):=λU H Q Z k q=>by
 obtain⟨v,e,q⟩:=Nd.old q;show Nd U[i]? _;rw[e];exact k _ _ q
def QD(m:Rg t):Rg (Qg t):=λU H Q J k q=>m U H _ _ (λv G ⟨x,e,t,r⟩=>⟨x,e,t,λy Z=>k _ _<|r y Z⟩) q
end
end L2
namespace L2
open PySem PySem.Spec PyProof.Rows
section
variable{X:Cx}{CX:CXT}{k:Nat}{f C:Addr}{fd:FuncData}{ps:kq}{sp:Sp}{dvs:kF}{ds:kj}{E:St->XK}{m:Str}{apos pos:Pos}{pl:Sem Bool}{o e:Expr}{es:kP}{t:TA}{ta:TE}
def KP(C:Addr)(m:Str)(sp:Sp)(dvs:kF)(E:St->XK)(ta:TE)(t:TA):TE:=λU H Q=>ta U H λx J=>Jb x λa=>∃L Z,J a=some (.ins C L Z)/\Z.lookup m=none/\
 t U J λG M=>sp (x::(G++ dvs)) M Q<|E U
def LO(S:PE X o ta)(c:Cls X.K C)(L:Vk X.K C m f)(F:Yh X.prog X.w X.K X.mg X.base CX k f fd ps sp)(A:Vj k X.A)(j:Binds X.K fd ps ds)(P:Vals dvs ds)(B:∀U,X6 CX X U<|E U)(y:PA X (e::es) t)(J:starEach (e::es) X.env=(false,eval e X.env)::starEach es X.env:=by rfl)(G:(backTo pos<|starEach es X.env).any (·.1)=false:=by rfl)(D:eval (.Call (.Attribute o m apos) (e::es) [] pos) X.env=(do
   let ov <-eval o X.env
   standAt apos.atName
   let(f,first) <-holding [ov] (getMethod ov m pl)
   callWith pos f first (backTo pos<|starEach (e::es) X.env) (backToKw pos<|keywordEach [] X.env)):=by rfl):
  PE X (.Call (.Attribute o m apos) (e::es) [] pos) (KP C m sp dvs E ta t):=by
 intro Z s U H Q I h;refine W.methodCall_KW (pl:=pl) (thn (S Z s U H _ I h) λu O ⟨x,p,N,R,q⟩=>?_) D;replace q:=Jb.old q;obtain⟨a,z,w,v,g,l,q⟩:=q;subst z;obtain rfl:u=Value.ref a:=R;refine WH N g c L l ?_;refine jq (first:=[.ref a]) (h₀:=X.base) I.ok.mod.kin L.kp (thn (y pos Z O U p _ N q) λus d ⟨vs,b,M,r,T⟩=>⟨M.kIn,?_⟩) J G;exact PL (us:=.ref a::us) (vs:=.ref a::vs) F A j P B M (.cons Y r) T
end
structure XA(K:W.Frag)(aW N a1 a5 a8:Addr):Prop where
 hand:Oo K a1
 isx:IsX K a1
 exc:W.ExcC K a1
 sub:W.subIn K (.ref a1) (.ref a1)=some true
 k1:W.kitOne K (.ref a1) (.ref aW)=some true
 k2:W.kitAny K (.ref a1) ([N,a5,a8].map Value.ref)=some false
def RD.lst{J:Addr}(r:RD H J A M rs)(Z:H l=some (.lst G)):RD (upd H l<|.lst ys) J A M rs:=by
 have L:TK H (upd H l<|.lst ys):=Jv Z λG z=>nomatch z
 exact⟨by rw[Yd (JQ r.ins Z λz=>nomatch z)];exact r.ins,by rw[Yd (JQ r.td Z λz=>nomatch z)];exact r.td,r.ke,VU L _ (Y2 Ta rs) r.va,r.nd⟩
end L2
namespace K4
open PySem L2
section
variable{C CK CW aW N a1 a2 a3 a4 a5 a6 a7 a8 a9 b1 b2:Addr}
inductive zN(CW N:Addr)(H:Hp)(Q:VK)(E:XK):List V->Prop
 |mk (A:RA7) (kv:List (Key×V)) (rs:List Rw) (y:Str) (rd:RD H CW A kv rs) (tx:Tx y) (ny:y∉rs.map λx=>x.1.1) (q:∀H',Same H H'->E (.ref N) none H'):zN CW N H Q E [.ref A.t,.str y]
def EZ(CW N:Addr):Sp:=λZ H Q E=>zN CW N H Q E Z
def AG(T:RCl K CW)(D:B "NoAsking"=some (.ref a1))(m:IsX K a1)(F:Fun K "kind_of" "Rows.kind_of" Mm f X):Yh P w K B base (CX1 P w) (n+1) f X ["self","r"] (EZ CW a1):=by
 refine Fun.oiX F Eh λt A Z s H d Q E U h=>?_;obtain⟨c,I,u,y,b,L,O,q⟩:=h;have G:=Jg U;refine⟨_,YW (Y4 (Jy<|UM G (pv 1)<|Y8 (pv 0) rfl) (YZ<|Fp XN rfl rfl rfl D m (.cons VA (yJ _)<|.cons (Pc<|pv 1) (QD<|AY _) .nil)) Ys)
  (YZ<|Yo<|Ym Yp (JF G (Y8 (pv 0) rfl) (pv 1) λ_ _=>rfl) YX),?_⟩
 dsimp only[Vi,Cx.nox,Cx.wish];show let p:=_;let g:=_;Yg (VJ _ g _) p _ _ _
 intros
 have R:VI I (Sum.inr y)=none:=U7 (by
  rw[b.ke];intro z;obtain⟨M,J,j⟩:=ZU.mp z;exact O<|ZU.mpr ⟨M,J,Sum.inr.inj j⟩)
 refine⟨CW,_,_,_,b.ins,T.cl,T.td,Tz _,_,(show V1 H c.td (.str y) none by rw[<-R];exact V1.k (k:=Sum.inr y) b.td),_,Y,Vf (by simp) ?_⟩;exact⟨_,Y,by decide,y,Y,L,λz S=>⟨z,Y,S,q H<|Z6 _⟩⟩
def Eg:Yn ["_law_rows_told","_law_name","_law_found","e"] ["_law_rows_told","_law_name"] (Yc W6):=Y7
inductive zL(CW:Addr)(H:Hp)(Q:VK):List V->Prop
 |mk (A:RA7) (kv:List (Key×V)) (rs:List Rw) (y:Str) (rd:RD H CW A kv rs) (tx:Tx y) (ny:y∉rs.map λx=>x.1.1) (q:∀H',Same H H'->Q (.bl true) H'):zL CW H Q [.ref A.t,.str y]
def Ke(CW:Addr):Sp:=λZ H Q _=>zL CW H Q Z
def AF(B:Blt M)(G:XR K M aW N a1 a2 a3 a4 a5 a6 a7 a8 a9 b1 b2)(J:XA K aW N a1 a5 a8)(T:RCl K CW)(F:Fun K "_law_stranger" "_law_stranger" W6 f x)(v:Vk K CW "kind_of" g)(GK:Yh P w K M base (CX1 P w) n g o ["self","r"] (EZ CW a1))(bK:Binds K o ["self","r"] []):Yh P w K M base CX0 (n+1) f x ["_law_rows_told","_law_name"] (Ke CW):=by
 refine F.oi Eg λZ8 A L s H vs Q E b h=>?_;obtain⟨m,l,c,y,X,k,u,q⟩:=h;refine⟨_,YW (Yk 2 Eg.nd Jp)
  (YW (LI (i:=3) rfl rfl Eg.nd rfl rfl rfl G.m1 J.hand (tb:=λt=>KU<|KP CW "kind_of" (EZ CW a1) [] t (Wo 0)<|V6 (Wo 1) Gn)
    (λt pn W e=>YZ<|Ve<|LO (pv 0) T.cl v GK b bK .nil e<|pa1<|pv 1)
    (λm=>YZ<|Yk 2 Eg.nd<|WB (Yr (r:=RB K) UN rfl B.isi J0 (pa2 (pv 3)<|Jd rfl G.mW))<|WA<|LN<|Yr (r:=RB K) UN rfl B.isi J0 (pa2 (pv 3)<|Y0<|pa3 (Jd rfl G.mN) (Jd rfl G.m5)<|Jd rfl G.m8)))
  (YZ<|Yo<|pv 2)),?_⟩
 dsimp only[Vi,Cx.nox,Cx.wish];show let T0:=_;let T1:=Yg _ T0;Yg _ T1 _ _ _
 intros
 refine⟨_,_,X.ins,Y,m,l,c,y,X,k,u,λj p=>?_⟩;refine⟨a1,Y,J.sub,(λd z=>nomatch z),λZ R=>?_⟩;have S:=Ye R<|U2 Z a1 none;have D:Xr (upd j Z<|U2 Z a1 none) Z a1 none:=⟨Ya,λd z=>nomatch z⟩;generalize upd j Z (U2 Z a1 none)=HE at S D |-;refine⟨Z,a1,none,.ref aW,true,Y,D,J.exc,.inr<|.inl ⟨aW,rfl,J.k1⟩,⟨true,rfl,Vf rfl ?_⟩⟩;refine⟨sl 3,λI O=>?_⟩;refine up_in O _ λH2 U a=>?_;refine⟨Z,a1,none,.ref I,false,Y,D.mono U,J.exc,.inl ⟨I,[N,a5,a8],Y,a,J.k2⟩,⟨_,Y,?_⟩⟩;exact q _<|(p.trans S).trans U
def WR:Yn ["_law_book_here","_law_told","_law_strange","_law_handed","_law_found","_law_due","_law_names_told"] ["_law_book_here","_law_told","_law_strange"] (Yc D2):=Y7
def G9:List.Nodup [("_law_row":Str)]:=by decide +kernel
def QA:List.Nodup [("_law_row":Str),"_law_found"]:=by decide +kernel
inductive zM(C CK:Addr)(H:Hp)(Q:VK):List V->Prop
 |mk (bk la:Addr) (xs:List V) (rs:List Rw) (ks:List (Str×Shp)) (c d:Str->Nat) (ds:List Dd) (y:Str) (be:BE H C CK bk ks c d ds) (kS:J3 ks c d) (hl:H la=some (.lst xs)) (hrs:HasL H xs (rs.map Vb)) (tx:∀x∈rs,TxR x) (ro:∀x∈rs,RO 3 x.2)
  (nf:TV ks (Y5 (ds.map (·.1))) c rs) (ty:Tx y) (ny:y∉rs.map λx=>x.1.1) (q:∀H',Same H H'->Q (.bl true) H'):zM C CK H Q [.ref bk,.ref la,.str y]
def Kf(C CK:Addr):Sp:=λZ H Q _=>zM C CK H Q Z
def AI(hn:2<=n)(hm:m+1<=n)(B:Blt z)(T:RCl K CW)(F:Fun K "_law_right" "_law_right" D2 f fd)(R8:Mk K CW gi)(mC:z "Rows"=some (.ref CW))(GI:Yh P w K z base (CX1 P w) m gi L1 ["self","book","told"] (Ki CW C CK N))(bI:Binds K L1 ["self","book","told"] [])(mH:Vk K CW "names" g)(GH:Yh P w K z base CX0 n g gd ["self"] (Kg CW))(bH:Binds K gd ["self"] [])(mK:Vk K CW "kind_of" g2)(GK:Yh P w K z base CX0 n g2 d2 ["self","r"] (Kh CW))(bK:Binds K d2 ["self","r"] [])(DS:Df P w K z base n "_law_stranger" ["_law_rows_told","_law_name"] (Ke CW)):
  Yh P w K z base CX0 (n+1) f fd ["_law_book_here","_law_told","_law_strange"] (Kf C CK):=by
 refine F.oi WR λF5 A G1 s H vs Q E t h=>?_;obtain⟨bk,la,xs,Z,ks,c,d,ds,y,be,kS,X,J,tx,ro,nf,ty,ny,q⟩:=h;have S:Vj (1+1) _:=t.mono hn;have R1:Vj (m+1) _:=t.mono hm;refine⟨_,YW (Yk 3 WR.nd<|VB Vw rfl B.list Vm (pa1<|pv 1))
  (YW (Yk 4 WR.nd (M7 R8 GI R1 rfl mC bI .nil CZ (pa2 (pv 0)<|pv 3)) (hx:=Or.inr rfl))
  (YW (Ve<|S3 Zx PySem.F.slot_list_clear PySem.F.type_list_clear Lp<|pv 3)
  (YW (Ep (i0:=5) ["_law_row"] [] WR.nd rfl (Or.inl rfl) (VF<|pv 1) (VM (i:=0)<|by decide) (λcl C fp s H=>Yb 0 G9 rfl (Or.inl rfl) (Or.inr rfl)) (λcl C fp s H=>Ym (r:=UG K) Yp (pv 0) YX))
  (YW (Yk 6 WR.nd<|VW (pv 4) T.cl mH GH t bH .nil VN)
  (YW (Y4 (PW.pt<|Jm (V8<|V7<|RG rfl B.isi rfl B.list Vm (pv 6))<|Jc<|Yq (Xg S) (pv 6) (pv 5)<|Yy _) (YZ<|Yo Jp) Ys)
  (YW (V5 VA<|XI (pv 6) YX set_list)
  (YW (Y4 (PW.pt<|Jm (Yq (Xg S) (VW (pv 4) T.cl mH GH t bH .nil VN) (pv 5)<|Yy _)<|Jc<|V8<|V7<|Yx DS t<|pa2 (pv 4)<|pv 2) (YZ<|Yo Jp) Ys)
  (YZ (Yo (UI (Dq S) (VL ["_law_row"] [4] (VF<|pv 1) (VM (i:=0)<|by decide) (λcl C fp s H=>Yb 0 QA rfl (Or.inl rfl) (Or.inr rfl)) λcl C fp s H=>Vg (pv 1) T.cl mK GK t bK .nil VN<|pa1<|Ym (r:=UG K) Yp (pv 0) YX)
   (VL ["_law_row"] [] (VF<|pv 1) (VM (i:=0)<|by decide) (λcl C fp s H=>Yb 0 G9 rfl (Or.inl rfl) (Or.inr rfl)) λcl C fp s H=>Ym (r:=UG K) Yp (pv 0) YX) (Yy _))))))))))),?_⟩
 dsimp only[Vi,Cx.nox,Cx.wish];show let T0:=_;let T1:=_;let T2:=Yg (VJ _ T1 _) T0;let T3:=Yg _ T2;let T4:=_;let T5:=Yg (VJ _ T4 _) T3;let T6:=Yg _ T5;let T7:=Yg _ T6;let T8:=Yg _ T7;let T9:=Yg _ T8;Yg _ T9 _ _ _
 intros
 have l1:=nf.1.1;have l6:=nf.1.2.1;have G2:=J.length;rw[ZA]at G2;refine⟨la,_,Y,.inl<|Z1 X,λh1 J2=>?_⟩;refine up_in J2 _ λH1 s1 g1=>?_;refine λx dx hx R6 D3=>?_;have sX:Same H1 (upd (upd H1 dx<|.own x) x<|.ins CW dx []):=λb o e=>by rw[Yd (Yj e hx),Yd (Yj e R6)];exact e
 refine⟨H1,x,dx,bk,h1,xs,Z,ks,c,d,ds,Ya,sX,hx,be.mono s1,kS,g1,J.mono s1,by omega,tx,ro,λ_ H2 A' kw s2 eA rd=>⟨Y,?_⟩,λk fr=>(RP nf fr).elim⟩;subst eA;exists .inl ⟨Y,_,Z1<|s2 _ _ g1⟩,h1,_,rfl,rfl,s2 _ _ g1;have Z9:=rd.lst (ys:=[])<|s2 _ _ g1;have l:Same H (upd H2 h1<|.lst []):=(s1.trans s2).putN J2;generalize upd H2 h1 (.lst [])=H3 at Z9 l |-;exists ⟨_,Z1<|l _ _ X⟩;refine JM (us:=Z) (D:=Vb) (E:=λx=>.str x.1.1) (itl<|Z1<|l _ _ X) (J.mono l) (by omega) (λu x R hm hu rT=>?_) λvn du H4 F4 s4 J5 M2=>?_
 .obtain ⟨t',u',xs',w',rfl,ht,_⟩:=JL hu
  exact⟨_,_,Z0 ht,Yw (j:=0) Y,rT _ Yv⟩
 obtain rfl:=Uc (ns:=Z.map λx=>x.1.1) (by rw[yg];exact M2);have I:=Z9.mono s4;refine⟨_,_,I.ins,Y,A',kw,Z,I,λnl H5 R7 s5 U=>?_⟩;have J4:=s5 _ _ J5;have O:Has H5 (.ref nl) (.lst<|(Z.map λx=>x.1.1).map Dat.str):=VD U<|VE _;refine⟨_,_,_,_,Y,Ak O,Wb K "list",_,Y,Y6 (by decide) ?_⟩;refine⟨_,_,O,VD J4<|VE _,WK _,_,rfl,Y6 (by rw[Dat.pq_self];decide) ?_⟩;have G3:0<((Z.map λx=>x.1.1).map V.str).length:=by rw[ZA,ZA];omega
 exists nl,_,0,0,Y,Y,U,GD (j:=0) G3;have M:=((I.mono s5).lst (ys:=((Z.map λx=>x.1.1).map V.str).set 0<|.str "x") U);have v:=s5.putN (o:=.lst<|((Z.map λx=>x.1.1).map V.str).set 0<|.str "x") R7;generalize upd H5 nl (.lst<|((Z.map λx=>x.1.1).map V.str).set 0<|.str "x")=H6 at M v |-;refine⟨_,_,M.ins,Y,A',kw,Z,M,λn2 H7 F1 s7 R3=>?_⟩;have p:=v.trans s7;refine⟨_,_,VD R3<|VE _,VD (p _ _ J5)<|VE _,WK _,_,rfl,Y6 (by rw[Dat.pq_self];decide) ?_⟩;have Z8:=M.mono s7;refine⟨A',kw,Z,y,Z8,ty,ny,λH8 s8=>⟨_,Y,Y6 (by decide) ?_⟩⟩;have a:=Z8.mono s8;have L:=(l.trans s4).trans<|p.trans s8;exists ⟨_,Z1<|L _ _ X⟩;refine JM (us:=Z) (D:=Vb) (E:=λx=>.str x.1.2.2) (itl<|Z1<|L _ _ X) (J.mono L) (by omega) (λu x R hm hu rT=>?_) λvk k1 H9 F3 s9 R5 N2=>?_
 .obtain ⟨t',u',xs',w',rfl,ht,_⟩:=JL hu
  exact⟨_,_,a.ins,Y,_,_,Z0 ht,Yw (j:=0) Y,A',kw,Z,u,a,hm,rT _ Yv⟩
 obtain rfl:=Uc (ns:=Z.map λx=>x.1.2.2) (by rw[yg];exact N2);have G:=L.trans s9;exists ⟨_,Z1<|G _ _ X⟩;refine JM (us:=Z) (D:=Vb) (E:=λx=>.str x.1.2.2) (itl<|Z1<|G _ _ X) (J.mono G) (by omega) (λu x R hm hu rT=>?_) λD0 k2 HA F2 sA R4 J1=>?_
 .obtain ⟨t',u',xs',w',rfl,ht,_⟩:=JL hu
  exact⟨_,_,Z0 ht,Yw (j:=2) Y,rT _ Yv⟩
 obtain rfl:=Uc (ns:=Z.map λx=>x.1.2.2) (by rw[yg];exact J1);exists _,_,VD (sA _ _ R5)<|VE _,VD R4<|VE _,WK _;rw[Dat.pq_self];exact q _<|G.trans sA
end
end K4
namespace L2
open PySem
def Qa{α:Type}{Z:List α}{x:α}(h:Z[Z.length-1]?=some x):atI Z (-1)=some x:=by
 have J:=(ZE.mp h).1
 have e:ixN Z.length (-1)=some (Z.length-1):=by
  unfold ixN;rw[Zo (by decide),Zn (by omega)]
  congr 1
  omega
 unfold atI;rw[e];exact h
def Oa{α:Type}(Z:List α)(a b:Nat)(h:a<=Z.length):(U3 Z (some (a:Int))<|some (b:Int)).length<=b-a:=by
 unfold U3;rw[HT.sIx_nat,HT.sIx_nat,ZL,vh h];omega
end L2
namespace K4
open PySem L2
def Na:V3 97 ""=false:=by decide +kernel
def KE{x y:Str}(h:8<x.length+y.length):V3 97 (x++ y)=false:=by
 unfold V3;have e:(x++ y).length=x.length+y.length:=Ug _ _;rw[e,Zw (show ¬x.length+y.length<=8 by omega)];simp
def SB(x:Str):V3 97 (x++ "A")=false:=by
 unfold V3
 have e:(x++ ("A":Str)).cps.toList.all (Wd 97)=false:=by
  show(x.cps++ ("A":Str).cps).toList.all (Wd 97)=false;rw[Array.toList_append,List.all_append];have:("A":Str).cps.toList.all (Wd 97)=false:=by decide +kernel
  rw[this,j5]
 rw[e];simp
def L3{Z:kL}(h:y∉Z.map (·.1)):kT Z y=false:=by unfold kT;rw[Rv h]
def QF(J:(Z.map (·.1)).Nodup)(h:(y,Shp.pair a b)∈Z):kT Z y=false:=by unfold kT;rw[Xu J h]
def P7{ys:kq}(Z:Wds 97 ys):("NoKind":Str)∉ys:=λm=>by
 have:=Z.abc _ m 78 (by decide +kernel);omega
def Pf{Z:kL}:¬X8 Z [(w,k),(w,k)]:=λh=>(h.2 1 _ rfl).2.1<|by simp
def Pg{Z:List (Str×Str)}(m:p∈Z)(h:V3 97 p.1=false):¬X8 G Z:=λz=>by
 obtain⟨i,J⟩:=yh.mp m;rw[(z.2 i p J).1]at h;cases h
structure HdS(h:Hd):Prop where
 n1:1<=h.1.length
 n8:h.1.length<=8
 l3:h.2.1.length<=3
 p8:∀p∈h.2.1,p.1.length<=8
structure zY(ks:List (Str×Shp))(seen:List Str)(h:Hd):Prop where
 ln:h.1.length<=20
 l5:h.2.1.length<=5
 l20:∀p∈h.2.1,p.1.length<=20
 wr:¬Gm ks seen h
section
def K2:Yn ["_law_pen","_law_rows_here","_law_at","_law_word"] ["_law_pen","_law_rows_here","_law_at"] (Yc RU):=Y7
def ND:List.Nodup [("_law_one":Str)]:=by decide +kernel
inductive zU(K:W.Frag)(H:Hp)(Q:VK):List V->Prop
 |mk (p sa la:Addr) (rs:List Rw) (k:Nat) (x:Rw) (pn:Pen K sa H p) (hl:Has H (.ref la) (.lst (rs.map Vb))) (l6:rs.length<=7) (hx:rs[k]?=some x)
  (q:∀u wd H',SameB p H H'->Pen K sa H' p->Has H' u (Vb (x.1,.on wd []))->(wd∉rs.map λx=>x.1.1)->Q u H'):zU K H Q [.ref p,.ref la,.int (k:Nat)]
def Ec(K:W.Frag):Sp:=λZ H Q _=>zU K H Q Z
def PP{Q:VK}(h:Has H u (Vb x))(q:∀J Z,Same H Z->Has Z J (.tup<|[Dat.str x.1.1,psD x.1.2.1,.str x.1.2.2].map λd=>d)->Q J Z):PR u none (some 3) H Q:=by
 have L:Has H u (.tup<|[Dat.str x.1.1,psD x.1.2.1,.str x.1.2.2,x.2.dat].map λd=>d):=h;have M:U3 [Dat.str x.1.1,psD x.1.2.1,.str x.1.2.2,x.2.dat] none (some 3)=[Dat.str x.1.1,psD x.1.2.1,.str x.1.2.2]:=GL _ 3 (by show 3<=4;decide);exact TU (D:=λd=>d) L λJ Z s G=>q J Z s (by rw[M]at G;exact G)
def M0{Q:VK}{h:Hd}{b:Rb}(M:Has H u (hdT h))(L:Has H v (.tup [b.dat]))(q:∀J Z,Same H Z->Has Z J (Vb (h,b))->Q J Z):Ry K u v H Q\/WX K u v H Q:=
 NT (D:=λd=>d) (l1:=[Dat.str h.1,psD h.2.1,.str h.2.2]) (l2:=[b.dat]) M L (by show 3+1<=900;decide) λJ Z s G=>q J Z s G
def AS(F:Fun K "_law_bad_body" "_law_bad_body" RU f fd)(DW:Df P w K mg base n "_law_small_word" ["_law_pen","_law_taken"] (Xc K)):Yh P w K mg base CX0 (n+1) f fd ["_law_pen","_law_rows_here","_law_at"] (Ec K):=by
 refine F.oi K2 λJ1 A t s H vs Q E hr h=>?_;obtain⟨p,sa,la,y,k,x,pn,hl,l6,hx,q⟩:=h;refine⟨_,YW (Yk 3 K2.nd<|Yx DW hr<|pa2 (pv 0)<|VL ["_law_one"] [] (VF<|pv 1) (VM (i:=0)<|by decide) (λcl C fp s H=>Yb 0 ND rfl (Or.inl rfl) (Or.inr rfl)) λcl C fp s H=>Ym (r:=UG K) Yp (pv 0) YX)
  (YZ<|Yo<|Y1 Xy (Vt Gx (Ym Y3 (pv 1)<|pv 2) JD<|V4 YX)<|Y0<|pa1<|Y0<|pa3 VA (pv 3)<|Y0 Vd),?_⟩
 dsimp only[Vi,Cx.nox,Cx.wish];show let T0:=_;Yg _ T0 _ _ _
 intros
 obtain⟨_,xs,e,S,T⟩:=VR hl;cases e;have m:=T.length;rw[ZA]at m;exists ⟨_,Z1 S⟩;refine JM (us:=y) (D:=Vb) (E:=λx=>.str x.1.1) (itl<|Z1 S) T (by omega) (λu x R hm hu rT=>?_) λvn nl H1 Z9 s1 o c=>?_
 .obtain ⟨t',u',xs',w',rfl,ht,_⟩:=JL hu
  exact⟨_,_,Z0 ht,Yw (j:=0) Y,rT _ Yv⟩
 obtain rfl:=Uc (ns:=y.map λx=>x.1.1) (by rw[yg];exact c);refine⟨p,sa,.ref nl,_,pn.same s1,VD o<|VE _,by rw[ZA];omega,λL H2 X z nw _=>?_⟩;have Z:SameB p H H2:=s1.sb.trans X;obtain⟨_,U,e,I,J⟩:=VR<|VV Z pn _ (UW<|Y2 Vn y) hl;cases e;have g:=J.length;rw[ZA]at g;have kl:k<U.length:=by have:=(ZE.mp hx).1;omega
 obtain⟨x',B,G⟩:=getD J<|ZC kl;rw[hx]at B;cases B;obtain⟨tr,ur,ys,wx,ev,Z8,_⟩:=JL G;rw[ev]at G;refine⟨_,.ref tr,Z1 I,Yw (by rw[ZC kl,ev]),3,Y,PP G λu3 H3 s3 h3=>?_⟩;refine⟨sl 0,λt4 l=>?_⟩;refine up_in l _ λH4 s4 g4=>?_;refine⟨sl 3,λt5 v=>?_⟩;refine up_in v _ λH5 s5 g5=>?_;refine⟨sl 1,λt6 d=>?_⟩;refine up_in d _ λH6 a g6=>?_;have M:=s5.trans a;have N:=s4.trans M;refine M0 (h:=x.1) (b:=.on L []) (h3.mono N) (Yu g6<|Z3 (by rw[Rb.dat_on];exact Yu (a _ _ g5)<|Z2 Yv<|Z2 Yv<|Z3<|Yu (M _ _ g4) Z4)) λu7 H7 s7 h7=>?_;have O:=(s3.trans N).trans s7;exact q u7 L H7 (Z.trans O.sb) (z.same O) h7 nw
def Ji:Yn ["_law_pen","_law_kinds_here","_law_rows_here","_law_at","_law_name","_law_parameters","_law_own","_law_body_here","_law_kind","_law_ahead","_law_strange","_law_words_here","_law_bad","_law_some","_law_place","_law_word","_law_one"] ["_law_pen","_law_kinds_here","_law_rows_here","_law_at"] (Yc RT):=Y7
def Qp:List.Nodup [("_law_word":Str),"_law_kind"]:=by decide +kernel
inductive zS(K:W.Frag)(H:Hp)(Q:VK):List V->Prop
 |mk (p sa la:Addr) (v:V) (rs:List Rw) (k:Nat) (x:Rw) (ks:List (Str×Shp)) (c d:Str->Nat) (pn:Pen K sa H p) (hv:Has H v (.lst (ks.map Vx))) (kS:J3 ks c d) (hl:Has H (.ref la) (.lst (rs.map Vb))) (l6:rs.length<=7) (gd:∀x∈rs,HdS x.1) (hx:rs[k]?=some x)
  (q:∀u h H',SameB p H H'->Pen K sa H' p->Has H' u (Vb (h,x.2))->zY ks ((rs.take k).map λx=>x.1.1) h->Q u H'):zS K H Q [.ref p,v,.ref la,.int (k:Nat)]
def Eb(K:W.Frag):Sp:=λZ H Q _=>zS K H Q Z
def AR(B:Blt mg)(nm:mg "min"=none)(F:Fun K "_law_bad_head" "_law_bad_head" RT f fd)(DN:Df P w K mg base n "_law_next" pnm (Jx K))(DW:Df P w K mg base n "_law_small_word" ["_law_pen","_law_taken"] (Xc K))(DS:Df P w K mg base n "_law_small_words" pnm (Uv K)):Yh P w K mg base CX0 (n+1) f fd ["_law_pen","_law_kinds_here","_law_rows_here","_law_at"] (Eb K):=by
 refine F.oi Ji λcdv A outer s H vs Q E hr h=>?_;obtain⟨p,T,la,v,rs,k,x,ks,c,d,pn,hv,kS,hl,l6,gd,hx,q⟩:=h;refine⟨_,YW (V5 (Ym Y3 (pv 2)<|pv 3)<|M6 rfl (Yb 4 Ji.nd) (Yb 5 Ji.nd) (Yb 6 Ji.nd) (Yb 7 Ji.nd))
  (YW (Yk 8 Ji.nd (Ym Yp (Ym Y3 (pv 1) YX) YX) (hx:=Or.inr rfl))
  (YW (Yk 9 Ji.nd<|LQ (Yq JK (pv 3) YX<|Yy _) VA<|Ym Yp (Ym Y3 (pv 2) (Yx DN hr<|pa2 (pv 0)<|pv 3) λ_ _=>rfl) YX)
  (YW (Yk 10 Ji.nd<|Vv<|pa2 VA<|Yx DW hr<|pa2 (pv 0)<|VL ["_law_one"] [] (VF<|pv 1) (VM (i:=0)<|by decide) (λcl C fp s H=>Yb 0 ND rfl (Or.inl rfl) (Or.inr rfl)) λcl C fp s H=>Ym (r:=UG K) Yp (pv 0) YX)
  (YW (Y4 (Yq JK (Ym Yp (Ym Yp (Ym Y3 (pv 1)<|Er MV YX) YX) YX) VA<|Yy _)
   (YZ<|Ve<|Ui Zx Zy Zz V2 (pv 10)<|pa1<|Ym Yp (Ym Y3 (pv 1)<|Er MV YX) YX) Ys)
  (YW (Yk 10 Ji.nd<|Ym Y3 (pv 10) (Yx DN hr<|pa2 (pv 0)<|Yr Yl rfl B.len Zs (pa1<|pv 10)) λ_ _=>rfl)
  (YW (Yk 11 Ji.nd<|Yx DS hr<|pa2 (pv 0) YX)
  (YW (Yk 12 Ji.nd<|Ym Y3 (Vv<|pa4 VA VA VA VA) (Yx DN hr<|pa2 (pv 0) YX) λ_ _=>rfl)
  (YW (Yk 13 Ji.nd (Vv (Y9 (Y0<|pa3 VA (pv 5)<|pv 6) (Y9 (Y0<|pa3 (Y1 XJ (pv 4) VA) (pv 5)<|pv 6) (Y9 (Y0<|pa3 (Y1 XJ (pv 4) VA) (pv 5)<|pv 6) (Y9 (Y0<|pa3 (pv 9) (pv 5)<|pv 6)
   (Y9 (Y0<|pa3 (pv 4) (Y0<|pa2 (Y0<|pa2 (Ym Y3 (pv 11) YX)<|pv 8)<|Y0<|pa2 (Ym Y3 (pv 11) YX)<|pv 8)<|pv 6)
   (Y9 (Y0<|pa3 (pv 4) (VB VH rfl B.tuple VY (pa1<|VL ["_law_word"] [8] (VF<|pv 11) (VM (i:=0)<|by decide) (λcl C fp s H=>Yb 0 Qp rfl (Or.inl rfl) (Or.inr rfl)) λcl C fp s H=>Y0<|pa2 (pv 0)<|pv 1))<|pv 6)
   (Y9 (Y0<|pa3 (pv 4) (pv 5)<|pv 10) Vd)))))))))
  (YW (Yk 14 Ji.nd<|Yx DN hr<|pa2 (pv 0)<|Y1 Vr (Yr (Ij rfl) rfl nm Io (pa2 YX<|Yr Yl rfl B.len Zs (pa1<|pv 5))) YX)
  (YW (Yk 15 Ji.nd<|Yx DW hr<|pa2 (pv 0)<|VL ["_law_one"] [] (V9<|pv 5) (VM (i:=0)<|by decide) (λcl C fp s H=>Yb 0 ND rfl (Or.inl rfl) (Or.inr rfl)) λcl C fp s H=>Ym (r:=UG K) Yp (pv 0) YX)
  (YW (Vq Zt rfl (VF<|Vv<|pa2 (Y0<|pa2 (pv 12)<|pv 8)<|Y0<|pa2 (pv 15)<|pv 10) (Yb 16 Ji.nd)
   (YZ<|Ve<|Ui Zx Zy Zz V2 (pv 13)<|pa1<|Y0<|pa3 (pv 4) (Y1 Xy (Y1 Xy (Vt Gx (pv 5) JD<|V4<|pv 14)<|Y0<|pa1<|pv 16)<|Vt Gx (pv 5) (V4<|pv 14)<|V4 YX)<|pv 6))
  (YZ<|Yo<|Y1 Xy (Ym Y3 (pv 13) (Yx DN hr<|pa2 (pv 0) YX) λ_ _=>rfl)<|Y0<|pa1<|pv 7)))))))))))),?_⟩
 dsimp only[Vi,Cx.nox,Cx.wish];show let T0:=_;let T1:=_;let T2:=Yg (Jt _ _ T1) T0;let T3:=Yg _ T2;let T4:=Yg _ T3;let T5:=Yg _ T4;let T6:=Yg _ T5;let T7:=Yg _ T6;let T8:=Yg _ T7;let T9:=_;let T10:=Yg (VJ _ T9 _) T8;let T11:=Yg _ T10;let T12:=Yg _ T11;let T13:=Yg _ T12;Yg _ T13 _ _ _
 intros
 obtain⟨_,xs,e,hla,hxs⟩:=VR hl;cases e;have rst:=Y2 Vn rs;have kst:=UW<|Y2 JW ks;have lxs:=hxs.length;rw[ZA]at lxs;have kr:=(ZE.mp hx).1;have kl:k<xs.length:=by omega
 obtain⟨x',hx',hxv⟩:=getD hxs<|ZC kl;rw[hx]at hx';cases hx';obtain⟨tr,ur,us,wx,ev,htr,hur,hus,hwx⟩:=JL hxv;have xm:=ZH hx;have g1:=gd x xm;have n1:=g1.n1;have n8:=g1.n8;have l3:=g1.l3;have k6:=kS.k6;refine⟨_,.ref tr,Z1 hla,Yw (by rw[ZC kl,ev]),⟨_,Z0 htr,Y,?_⟩⟩;have hP:Has H (.ref ur) (.tup<|x.1.2.1.map prD):=Yu hur hus;obtain⟨va,vx,rfl,hva,hvx⟩:=VR hv;have lvx:=hvx.length;rw[ZA]at lvx;have k0:=kS.k0;obtain⟨⟨y0,s0⟩,hk0,hx0⟩:=getD hvx (ZC (show 0<vx.length by omega));obtain⟨a0,w0,ea0,ha0,_⟩:=UA hx0;exists _,.ref a0,Z1 hva,Yw (j:=0)<|by rw[ZC (show 0<vx.length by omega),ea0],_,.str y0,Z0 ha0,Yw (j:=0) rfl;dsimp only[Vp]
 let sn:kq:=(rs.take k).map λx=>x.1.1
 let st:Str->Option V->(z11 z12 C2 S2 I9 M:kJ)->St:=λX z10 z11 z12 C2 S2 I9 M=>[some (.ref p),some<|.ref va,some<|.ref la,some<|.int (k:Nat),some<|.str x.1.1,some<|.ref ur,some<|.str x.1.2.2,some wx,some<|.str y0,some<|.str X,z10,z11,z12,C2,S2,I9,M]
 refine Vl (λU' H'=>∃X:Str,SameB p H H'/\Pen K T H' p/\(X="" \/ X∈sn)/\X.length<=8/\U'=st X none none none none none none none) ?_ ?_
 case refine_2=>
  intro N Z8;refine⟨Y,_,Y,UJ (λc1=>Z8 _ _ ⟨"",SameB.refl _ _,pn,.inl Y,by decide,Y⟩) λc1=>?_⟩;have k1:k≠0:=λz=>c1 (by subst z;exact decide_eq_true Y);refine⟨p,T,k,pn,by omega,by omega,λr H1 rl b1 F8=>?_⟩;obtain⟨_,xs1,e,hla1,R1⟩:=VR<|VV b1.sb pn _ (UW rst) hl;cases e;have lx1:=R1.length;rw[ZA]at lx1;obtain⟨x1,hx1,hxv1⟩:=getD R1 (ZC (show r<xs1.length by omega));obtain⟨t1,u1,us1,O,e1,ht1,_⟩:=JL hxv1;refine⟨_,.ref t1,Z1 hla1,Yw<|by rw[ZC (show r<xs1.length by omega),e1],_,.str x1.1.1,Z0 ht1,Yw (j:=0) rfl,Z8 _ _ ⟨x1.1.1,b1.sb,F8,.inr ?_,(gd x1<|ZH hx1).n8,rfl⟩⟩;exact ZU.mpr ⟨x1,ZH (i:=r) (by rw[vz,Zn rl];exact hx1),Y⟩
 rintro U' H1 ⟨X,sb1,F8,hah,lah,rfl⟩;obtain⟨_,vx1,e,J2,R4⟩:=VR<|VV sb1 pn _ kst hv;cases e;exists ⟨_,Z1 J2⟩;refine JM (us:=ks) (D:=Vx) (E:=λk=>.str k.1) (itl<|Z1 J2) R4 (by omega) (λu x R hm hu rT=>?_) λvn nl H2 fnl s2 hnl hvn=>?_
 .obtain ⟨y',s'⟩:=u
  obtain⟨t',w',rfl,ht,_⟩:=UA hu;exact⟨_,_,Z0 ht,Yw (j:=0) Y,rT _ Yv⟩
 obtain rfl:=Uc (ns:=ks.map (·.1)) (by rw[yg];exact hvn);refine⟨p,T,.ref nl,_,F8.same s2,VD hnl<|VE _,by rw[ZA];omega,λwk H3 sb3 pn3 nwk _=>⟨sl 2,λl4 hl4=>?_⟩⟩;have N2:SameB p H H3:=(sb1.trans s2.sb).trans sb3;have S:Lb K T H3 p l4 ((["NoKind",wk]:kq).map Dat.str) (upd H3 l4<|.lst [.str "NoKind",.str wk]):=Lb.of pn3 hl4 (VE ["NoKind",wk])<|Tb _;generalize upd H3 l4 (.lst [.str "NoKind",.str wk])=H4 at S |-;dsimp only[Vp];refine Vl (λU' H'=>∃ss:kq,Lb K T H3 p l4 (ss.map Dat.str) H'/\(∀y∈ss,kT ks y=false)/\1<=ss.length/\ss.length<=3/\U'=st X (some<|.ref l4) none none none none none none) ?_ ?_
 case refine_2=>
  intro N Z8
  have two:∀y∈(["NoKind",wk]:kq),kT ks y=false:=λy m=>by
   simp only[Zb,vy,or_false]at m;rcases m with rfl|rfl
   .exact L3 (P7 kS.kg.nm)
   .exact L3 nwk
  obtain⟨_,R5,e,J1,R3⟩:=VR<|VV (N2.trans S.sb) pn _ kst hv;cases e;have lv4:=R3.length;rw[ZA]at lv4;have ll:R5.length-1<R5.length:=by omega
  obtain⟨⟨yZ,sZ⟩,hkZ,hxZ⟩:=getD R3<|ZC ll;obtain⟨aZ,wZ,eZ,I6,hwZ⟩:=UA hxZ;have I7:atI R5 (-1)=some (.ref aZ):=Qa (by rw[ZC ll,eZ]);have mZ:=ZH hkZ;obtain⟨z4,I1,hh4,_⟩:=S.zs;have lz4:=hh4.length
  cases sZ with
  |tags ts=>
   obtain⟨bZ,tZ,rfl,I5,_⟩:=Xn hwZ;refine⟨1,Y,_,.ref aZ,Z1 J1,I7,_,.ref bZ,Z0 I6,Yw (j:=1) Y,_,.str "tags",Z0 I5,Yw (j:=0) Y,Y,_,Y,Y6 (by decide +kernel) ?_⟩;exact Z8 _ _ ⟨["NoKind",wk],S,two,by show 1<=2;decide,by show 2<=3;decide,Y⟩
  |pair pa pb=>
   obtain⟨bZ,zZ,rfl,I5⟩:=Tl hwZ;refine⟨1,Y,_,.ref aZ,Z1 J1,I7,_,.ref bZ,Z0 I6,Yw (j:=1) Y,_,.str "pair",Z0 I5,Yw (j:=0) Y,Y,_,Y,Vf (by decide +kernel) ?_⟩;refine⟨.inl ⟨Y,_,Z1 I1⟩,1,Y,_,.ref aZ,Z1 J1,I7,_,.str yZ,Z0 I6,Yw (j:=0) Y,l4,_,_,Y,Y,I1,Yt (by rw[lz4];show 2<=1000;decide),?_⟩;have L:=S.ap (d:=.str yZ) I1 Yv (by unfold Dat.st;rfl);refine Z8 _ _ ⟨["NoKind",wk,yZ],L,λy m=>?_,by show 1<=3;decide,by show 3<=3;decide,Y⟩;rcases ZV.mp (show y∈(["NoKind",wk]:kq)++[yZ]from m)with m|m
   .exact two y m
   .rw [ZO.mp m];exact QF kS.nd mZ
 rintro U' H5 ⟨ss,L,wss,ls1,ls3,rfl⟩;obtain⟨z5,I0,hh5,_⟩:=L.zs;obtain rfl:=Uc hh5;exists l4,_,Y,.inl<|Z1 I0;refine Uw p T (ss.map V.str).length Y L.pn (by rw[ZA];omega) (by rw[ZA];omega) λr6 H6 F7 b6 pn6=>?_;rw[ZA]at F7;have sm:=wss _<|jn F7;refine⟨_,.str ss[r6],Z1<|b6.sb _ _ L.np I0,Yw (by rw[ZG,ZC F7];rfl),?_⟩;generalize ss[r6]=stg at sm |-;have sb06:SameB p H H6:=(N2.trans L.sb).trans b6.sb;refine⟨p,T,4,pn6,by decide,λwl ys H7 sb7 pn7 fwl hwl lys wdy=>?_⟩;have npw:wl≠p:=pn6.ne fwl;refine⟨sl 4,λl8 hl8=>?_⟩;refine up_in hl8 _ λH8 s8 g8=>?_;have np8:l8≠p:=pn7.ne hl8;refine⟨p,T,4,pn7.same s8,by decide,by decide,λr9 H9 r9l b9 g=>?_⟩
 obtain⟨bw,ebw,wbw,lbw⟩:∃bw:Str,([V.str "x1",.str "",.str "abcdefghi",.str "A"]:kF)[r9]?=some (.str bw)/\V3 97 bw=false/\bw.length<=20:=by
  match r9,r9l with
  |0,_=>exact⟨_,Y,by decide +kernel,by decide +kernel⟩
  |1,_=>exact⟨_,Y,by decide +kernel,by decide +kernel⟩
  |2,_=>exact⟨_,Y,by decide +kernel,by decide +kernel⟩
  |3,_=>exact⟨_,Y,by decide +kernel,by decide +kernel⟩
 exists _,_,Z1<|b9.sb _ _ np8 g8,Yw ebw;have M2:SameB p H7 H9:=s8.sb.trans b9.sb;have t:SameB p H H9:=(sb06.trans sb7).trans M2;have I3:=M2 _ _ npw hwl;have G3:=VV t pn _ (Dat.ni_of<|Gv<|Y2 UB _) hP;have hb9:=VV t pn _ (Dat.ni_of<|Rb.st _) hwx;clear hwl I0 hh5 L S J2 R4 hnl hvn;obtain⟨O,wr,rfl⟩:∃O wr,ys=O::wr:=match ys,lys with|O::wr,_=>⟨O,wr,rfl⟩|[],z=>Zp z<|by decide
 have w8:=wdy.len O ZY;refine⟨sl 3,λtA htA=>?_⟩;refine up_in htA _ λHA sA gA=>?_;refine⟨_,_,Y,Y,Zf<|Yt (by show _+1<=1000;omega),sl 3,λtB htB=>?_⟩;refine up_in htB _ λHB sB gB=>?_;refine⟨_,_,Y,Y,Zf<|Yt (by show _+8<=1000;omega),sl 3,λtC htC=>?_⟩;refine up_in htC _ λHC sC gC=>?_;refine⟨sl 3,λtD htD=>?_⟩;refine up_in htD _ λHD sD gD=>?_;have F6:=((sA.trans sB).trans sC).trans sD;refine⟨_,.str O,Z1<|F6 _ _ I3,Yw (j:=0) rfl,sl 2,λtE htE=>?_⟩;refine up_in htE _ λHE sE gE=>?_;refine⟨_,.str O,Z1<|sE _ _<|F6 _ _ I3,Yw (j:=0) rfl,sl 2,λtF htF=>?_⟩;refine up_in htF _ λHF sF gF=>?_;refine⟨sl 2,λtG htG=>?_⟩;refine up_in htG _ λHG sG gG=>?_;refine⟨sl 3,λtH htH=>?_⟩;refine up_in htH _ λHI sI gI=>?_;have sDI:=((sE.trans sF).trans sG).trans sI;have I2:=sDI _ _<|F6 _ _ I3;exists ⟨_,Z1 I2⟩;refine Js (us:=O::wr) (D:=Dat.str) (F:=λw=>prD (w,y0)) (λH' s=>itl<|Z1<|s _ _ I2) (VE _) (by omega) (λu x' Hx R hm sx hx hR=>?_) λvs q1 HJ fq sJ hq1 hvs=>?_
 .obtain rfl:=has_str hx
  refine⟨sl 2,λt' ht'=>?_⟩;exact hR _ _ (Ye ht' _)<|Jk Ya
 refine⟨q1,_,Y,.inl ⟨Z1 hq1,λtK htK=>?_⟩⟩;refine up_in htK _ λHK sK gK=>?_;refine⟨sl 3,λtL htL=>?_⟩;refine up_in htL _ λHL sL gL=>?_;refine⟨sl 3,λtM htM=>?_⟩;refine up_in htM _ λHM sM gM=>?_;refine⟨sl 7,λlo hlo=>?_⟩;have R7:=sM;have G1:=sL.trans R7;have R8:=(sJ.trans sK).trans G1;have D0:=sI.trans R8;have D3:=sG.trans D0;have F1:=sF.trans D3;have F2:=sE.trans F1;have F3:=sD.trans F2;have F4:=sC.trans F3;have F5:=sB.trans F4;have Z:=sA.trans F5;have J4:∀{Hx},Same H9 Hx->Has Hx (.ref ur) (psD x.1.2.1):=λs=>G3.mono s
 let W:Hd->Prop:=zY ks sn
 have G:∀p∈x.1.2.1,p.1.length<=20:=λp m=>ZZ (g1.p8 p m)<|by decide
 let c7:List Hd:=[("",x.1.2.1,x.1.2.2),(x.1.1++ "A",x.1.2.1,x.1.2.2),(x.1.1++ "abcdefgh",x.1.2.1,x.1.2.2),(X,x.1.2.1,x.1.2.2),(x.1.1,[(O,y0),(O,y0)],x.1.2.2),(x.1.1,(O::wr).map λw=>(w,y0),x.1.2.2),(x.1.1,x.1.2.1,stg)]
 have w7:∀h∈c7,W h:=λh m=>by
  simp only[c7,Zb,vy,or_false]at m;rcases m with rfl|rfl|rfl|rfl|rfl|rfl|rfl
  .exact ⟨by show 0<=20;decide,by show x.1.2.1.length<=5;omega,G,λz=>by have:=z.1;rw[Na]at this;cases this⟩
  .exact ⟨by show(x.1.1++ ("A":Str)).length<=20;rw[Ug];show _+1<=20;omega,by show x.1.2.1.length<=5;omega,G,λz=>by have:=z.1;rw[SB]at this;cases this⟩
  .exact ⟨by show(x.1.1++ ("abcdefgh":Str)).length<=20;rw[Ug];show _+8<=20;omega,by show x.1.2.1.length<=5;omega,G,λz=>by have:=z.1;rw[KE (by show 8<_+8;omega)]at this;cases this⟩
  .refine ⟨by show X.length<=20;omega,by show x.1.2.1.length<=5;omega,G,λz=>?_⟩
   rcases hah with e|m
   .have:=z.1;rw[show(X,x.1.2.1,x.1.2.2).1="" from e,Na]at this;cases this
   .exact z.2.1 m
  .exact ⟨by show x.1.1.length<=20;omega,by show 2<=5;decide,λp m=>by simp only[Zb,vy,or_false]at m;rcases m with rfl|rfl <;> (show O.length<=20;omega),λz=>Pf z.2.2.1⟩
  .refine ⟨by show x.1.1.length<=20;omega,by show(List.map _ _).length<=5;rw[ZA];omega,λp m=>?_,λz=>?_⟩
   .obtain ⟨w',l,rfl⟩:=ZU.mp m
    have:=(wdy.len w' l).2;show w'.length<=20;omega
   .have:=z.2.2.1.1
    rw[ZA]at this;omega
  .exact ⟨by show x.1.1.length<=20;omega,by show x.1.2.1.length<=5;omega,G,λz=>by have:=z.2.2.2 stg ZY;rw[sm]at this;cases this⟩
 have a:Lb K T HM p lo (c7.map hdT) (upd HM lo<|.lst [.ref tA,.ref tB,.ref tC,.ref tD,.ref tH,.ref tL,.ref tM]):=Lb.of (g.same Z) hlo
  (Z2 (Yu (F5 _ _ gA)<|Z2 Yv<|Z2 (J4 Z)<|Z3 Yv)
  (Z2 (Yu (F4 _ _ gB)<|Z2 Yv<|Z2 (J4 Z)<|Z3 Yv)
  (Z2 (Yu (F3 _ _ gC)<|Z2 Yv<|Z2 (J4 Z)<|Z3 Yv)
  (Z2 (Yu (F2 _ _ gD)<|Z2 Yv<|Z2 (J4 Z)<|Z3 Yv)
  (Z2 (Yu (R8 _ _ gI)<|Z2 Yv<|Z2 (Yu (D0 _ _ gG)<|Z2 (Jk<|F1 _ _ gE)<|Z3<|Jk<|D3 _ _ gF)<|Z3 Yv)
  (Z2 (Yu (R7 _ _ gL)<|Z2 Yv<|Z2 (Yu (G1 _ _ gK) (by rw[yg];exact hvs.mono<|sK.trans G1))<|Z3 Yv)
  (Z3<|Yu gM<|Z2 Yv<|Z2 (J4 Z)<|Z3 Yv)))))))
  (Y2 Jr _)
 generalize upd HM lo (.lst [.ref tA,.ref tB,.ref tC,.ref tD,.ref tH,.ref tL,.ref tM])=HN at a |-;have l7:c7.length=7:=rfl;generalize c7=c7 at w7 a l7;clear gA gB gC gD gE gF gG gI gK gL gM hvs hq1 F5 F4 F3 F2 F1 D3 D0 R8 G1 R7 I2;have sbN:SameB p H9 HN:=Z.sb.trans a.sb;obtain⟨_,us9,e9,hu9,hus9⟩:=Yz<|VV sbN g _ (Dat.ni_of<|Gv<|Y2 UB _) G3;cases e9;have lu9:=hus9.length;rw[ZA]at lu9;exists ur,_,Y,.inr<|Z0 hu9,_,_,rfl
 refine Uw p T (min 2 x.1.2.1.length+1) (by
  show V.int ((if((us9.length:Nat):Int)<2 then((us9.length:Nat):Int)else 2)+1)=_;rw[lu9]
  congr 1
  split <;> omega) a.pn (by omega) (by omega) λJ HO pll bO pnO=>?_
 have lbO:=a.mv bO.sb pnO;have sbO:SameB p H9 HO:=Z.sb.trans lbO.sb;obtain⟨_,usO,eO,huO,husO⟩:=Yz<|VV sbO g _ (Dat.ni_of<|Gv<|Y2 UB _) G3;cases eO;exists ⟨_,Z0 huO⟩;refine JM (us:=x.1.2.1) (D:=prD) (E:=λp=>.str p.1) (itt<|Z0 huO) husO (by omega) (λu x R hm hu rT=>?_) λvp nl2 HP fn2 sP hnl2 hvp=>?_
 .obtain ⟨t8,rfl,ht8⟩:=Xo hu
  exact⟨_,_,Z0 ht8,Yw (j:=0) Y,rT _ Yv⟩
 obtain rfl:=Uc (ns:=x.1.2.1.map (·.1)) (by rw[yg];exact hvp);refine⟨p,T,.ref nl2,_,pnO.same sP,VD hnl2<|VE _,by rw[ZA];omega,λwz HQ sbQ pnQ _ wwz=>?_⟩;have lbQ:=(lbO.sm sP).mv sbQ pnQ;refine⟨sl 2,λtR htR=>?_⟩;refine up_in htR _ λHR sR gR=>?_;refine⟨sl 2,λtS htS=>?_⟩;refine up_in htS _ λHS sS gS=>?_;refine⟨sl 2,λlT hlT=>?_⟩;refine up_in hlT _ λI8 sT gT=>?_;exists ⟨_,Z1 gT⟩;have lbT:=((lbQ.sm sR).sm sS).sm sT;obtain⟨zT,hzT,_⟩:=lbT.zs
 have nTl:lT≠lo:=λz=>by
  obtain⟨z',hz',_⟩:=((lbQ.sm sR).sm sS).zs;rw[<-z,hlT]at hz';cases hz'
 let ab:List (Str×Str):=[(bw,y0),(wz,stg)]
 have hab:HasL I8 [.ref tR,.ref tS] (ab.map prD):=Z2 (Jk<|sT _ _<|sS _ _ gR)<|Z3<|Jk<|sT _ _ gS
 have bab:∀u∈ab,u.1.length<=20/\(V3 97 u.1=false\/kT ks u.2=false):=λu m=>by
  simp only[ab,Zb,vy,or_false]at m;rcases m with rfl|rfl
  .exact ⟨lbw,.inl wbw⟩
  .exact ⟨by have:=wwz.2.1;show wz.length<=20;omega,.inr sm⟩
 let I:kH:=λi U Hi=>(∃cs:List Hd,Lb K T HM p lo (cs.map hdT) Hi/\(∀h∈cs,W h)/\cs.length=7+i)/\SameB lo I8 Hi/\∃M:kJ,U=st X (some<|.str stg) (some<|.ref wl) (some<|.str bw) (some<|.ref lo) (some<|.int (J:Nat)) (some<|.str wz) M
 refine UK (xs:=[.ref tR,.ref tS]) I ⟨⟨c7,lbT,w7,l7⟩,SameB.refl _ _,_,Y⟩ (λi U Hi _ z=>Z1<|z.2.1 _ _ nTl gT) ?_ ?_
 .rintro BB RR i xv U Hi hxi ⟨⟨cs,lbi,wi,li⟩,sbi,M,rfl⟩
  have il:i<2:=(ZE.mp hxi).1;have tkL:TK I8 Hi:=λb us e=>sbi b _ (λh=>by rw[h,hzT]at e;cases e) e;obtain⟨u,hu,hxu⟩:=getD (VU tkL _ (Y2 UB ab) hab) hxi;obtain⟨lu,bu⟩:=bab u<|ZH hu;obtain⟨zi,Z9,G2,_⟩:=lbi.zs;have hPi:Has Hi (.ref ur) (.tup<|x.1.2.1.map prD):=VV (Z.sb.trans lbi.sb) g _ (Dat.ni_of<|Gv<|Y2 UB _) G3;exists .inl ⟨Y,_,Z1 Z9⟩;refine⟨J,Y,TU (ls:=x.1.2.1) hPi λuU HU sU hU=>?_⟩;refine⟨sl 1,λtV I4=>?_⟩;refine up_in I4 _ λHV sV gV=>?_;have R6:=sU.trans sV;have ec1:U3 x.1.2.1 none (some (J:Int))=x.1.2.1.take J:=GL _ J (by omega);have lc2:=Oa x.1.2.1 J 2 (by omega);have lc1:(U3 x.1.2.1 none<|some (J:Int)).length<=J:=by rw[ec1,ZL];omega
  refine NT (D:=prD) (l2:=[u]) (hU.mono sV) (Yu gV<|Z3<|hxu.mono R6) (by show _+1<=900;omega) λuW HW sW hW=>?_;refine⟨J,Y,2,Y,TU (ls:=x.1.2.1) (hPi.mono<|R6.trans sW) λuX HX sX hX=>?_⟩;refine NT (hW.mono sX) hX (by rw[ZJ];show _+1+_<=900;omega) λuY HY sY hY=>?_;refine⟨sl 3,λtZ htZ=>?_⟩;refine up_in htZ _ λHZ sZ gZ=>?_;have J5:=(((R6.trans sW).trans sX).trans sY).trans sZ;have F9:=G2.length;rw[ZA]at F9;refine⟨lo,_,_,Y,Y,J5 _ _ Z9,Yt<|by omega,?_⟩;have lbZ:=(lbi.sm J5).ap (d:=hdT (x.1.1,U3 x.1.2.1 none (some (J:Int))++[u]++ U3 x.1.2.1 (some (J:Int)) (some 2),x.1.2.2)) (J5 _ _ Z9) (Yu gZ<|Z2 Yv<|Z2 (hY.mono sZ)<|Z3 Yv)<|Jr _;refine⟨⟨cs++[(x.1.1,U3 x.1.2.1 none (some (J:Int))++[u]++ U3 x.1.2.1 (some (J:Int)) (some 2),x.1.2.2)],by rw[ZI];exact lbZ,λh m=>?_,by rw[ZJ,li];rfl⟩,λb o nb hb=>by rw[Yd nb];exact J5 _ _<|sbi _ _ nb hb,_,Y⟩;rcases ZV.mp m with m|m
  .exact wi h m
  rw[ZO.mp m];have um:u∈U3 x.1.2.1 none (some (J:Int))++[u]++ U3 x.1.2.1 (some (J:Int)) (some 2):=ZV.mpr<|.inl<|ZV.mpr<|.inr ZY;refine⟨by show x.1.1.length<=20;omega,by show List.length (_++ _)<=5;rw[ZJ,ZJ];show _+1+_<=5;omega,λp' l=>?_,λz=>?_⟩
  .rcases ZV.mp l with l|l
   .rcases ZV.mp l with l|l
    .exact G p' (Bb l)
    .rw [ZO.mp l];exact lu
   .exact G p' (Bb l)
  .rcases bu with bu|bu
   .exact Pg um bu z.2.2.1
   .have:=z.2.2.2 u.2<|ZK _<|ZU.mpr ⟨u,um,rfl⟩
    rw[bu]at this;cases this
 .rintro U Hi ⟨⟨cs,lbi,wi,li⟩,sbi,M,rfl⟩
  obtain⟨zi,Z9,G2,_⟩:=lbi.zs;have F9:=G2.length;rw[ZA]at F9;refine⟨p,T,9,lbi.pn,by decide,by decide,λr HU rl bU pnU=>?_⟩;have li9:cs.length=9:=li;have rl':r<zi.length:=by omega
  obtain⟨h,hh,hhv⟩:=getD (Vo bU.sb lbi.pn _ (Dat.nis_of<|Y2 Jr cs) G2)<|ZC rl';refine⟨_,_,Z1<|bU.sb _ _ lbi.np Z9,Yw<|ZC rl',sl 1,λtV I4=>?_⟩;refine up_in I4 _ λHV sV gV=>?_;have L1:SameB p H9 HV:=((Z.sb.trans lbi.sb).trans bU.sb).trans sV.sb;refine M0 (h:=h) (b:=x.2) (hhv.mono sV) (Yu gV<|Z3<|VV L1 g _ (Dat.ni_of<|Rb.st _) hb9) λuW HW sW hW=>?_;exact q uW h HW ((t.trans L1).trans sW.sb) ((pnU.same sV).same sW) hW<|wi h<|ZH hh
end
end K4
namespace L2
open PySem
def TR(G:J3 Z c d)(h:VS Z y=some (.tags J)):VS (flat Z) y=some (.tags J):=Xu G.fl.nd<|yi.mpr ⟨JU h,rfl⟩
def Eu(ks:kL)(h:Hd):Rb:=.thn (.tag<|Nr ks h.2.2) h.1<|Jo ks h.2.1
def ovr(ks:kL)(hs:List Hd):List Rw:=hs.map λh=>(h,Eu ks h)
def Et(J:kL)(Z:List Hd):(ovr J Z).map (·.1)=Z:=by unfold ovr;rw[yg];exact List.map_id' Z
def Ef(h:VS Z y=some (.tags (t::r))):Sd Z G J y 5 (.tag t):=⟨Kd.tag h ZY,(EL t).ok,by unfold Bd.dep;decide,(EL t).nl⟩
def S7(L:FlK Z (h.2.2::h.2.1.map (·.2)))(B:h.2.1.length<=3)(O:rh h.1=some h.2):RK Z E rh D h.2.2 n (Eu Z h):=by
 obtain⟨r,e⟩:=L.at ZY;have N:(Jo Z h.2.1).length=h.2.1.length:=by unfold Jo;rw[ZA]
 refine RK.thn (Ef e) O ⟨N,λi M b G J=>?_⟩ (by omega);unfold Jo at J;rw[ZG,G]at J;cases J;obtain⟨T,R⟩:=L.at<|ZK _<|ZU.mpr ⟨M,ZH G,rfl⟩;exact Ef R
def gD(x:Hd×List Dat):Dat:=.tup<|[Dat.str x.1.1,psD x.1.2.1,.str x.1.2.2]++ x.2
def Al(h:Has H v (gD x)):∃t u G r,v=.ref t/\H t=some (.tup (.str x.1.1:: .ref u:: .str x.1.2.2::r))/\H u=some (.tup G)/\HasL H G (x.1.2.1.map prD):=by
 unfold gD at h;obtain⟨t,A,rfl,R,B⟩:=Yz h;obtain⟨U,X,rfl,F,J⟩:=Yf B;obtain⟨S,C,rfl,E,Z⟩:=Yf J;obtain⟨I,M,rfl,D,T⟩:=Yf Z;obtain rfl:=has_str F;obtain rfl:=has_str D;obtain⟨u,L,rfl,O,N⟩:=Yz E;exact⟨t,u,L,M,Y,R,O,N⟩
def ghd(y:Str):Hd:=("great",[("ya",y),("b",y),("zzc",y)],y)
end L2
namespace K4
open PySem L2
section
def Au{Q:VK}(h:Has H u (gD x))(q:∀J Z,Same H Z->Has Z J (hdT x.1)->Q J Z):PR u none (some 3) H Q:=by
 have L:Has H u (.tup<|([Dat.str x.1.1,psD x.1.2.1,.str x.1.2.2]++ x.2).map λd=>d):=by rw[List.map_id'];exact h
 have M:U3 ([Dat.str x.1.1,psD x.1.2.1,.str x.1.2.2]++ x.2) none (some 3)=[Dat.str x.1.1,psD x.1.2.1,.str x.1.2.2]:=by
  have:=GL ([Dat.str x.1.1,psD x.1.2.1,.str x.1.2.2]++ x.2) 3 (by rw[ZJ];show 3<=3+_;omega);exact this
 exact TU (D:=λd=>d) L λJ Z s G=>q J Z s (by rw[M]at G;exact G)
def Uh:Yn ["_law_told","_law_flat_here","_law_at","_law_some","_law_kind","_law_words_here","_law_found","_law_row","_law_first","_law_given"] ["_law_told","_law_flat_here","_law_at"] (Yc D7):=Y7
def NB:List.Nodup [("_law_word":Str),"_law_own","_law_flat_here"]:=by decide +kernel
inductive zR(H:Hp)(Q:VK):List V->Prop
 |mk (la fa:Addr) (rs:List Rw) (k:Nat) (ks:List (Str×Shp)) (c d:Str->Nat) (y0:Str) (s0:Shp) (hl:Has H (.ref la) (.lst (rs.map Vb))) (hv:Has H (.ref fa) (.lst ((flat ks).map Vx))) (kS:J3 ks c d) (h0:(flat ks)[0]?=some (y0,s0)) (l6:rs.length<=6) (fk:∀x∈rs,FlK ks (x.1.2.2::x.1.2.1.map (·.2))) (l3:∀x∈rs,x.1.2.1.length<=3) (kl:k<rs.length)
  (q:∀l H',Same H H'->H l=none->Has H' (.ref l) (.lst ((ovr ks ((rs.map (·.1)).set k (ghd y0))).map Vb))->Q (.ref l) H'):zR H Q [.ref la,.ref fa,.int (k:Nat)]
def Kn:Sp:=λZ H Q _=>zR H Q Z
def AN(B:Blt mg)(F:Fun K "_law_great" "_law_great" D7 f fd)(DT:Df P w K mg base n "_law_tags_of" ["_law_kinds_here","_law_kind"] UQ):Yh P w K mg base CX0 (n+1) f fd ["_law_told","_law_flat_here","_law_at"] Kn:=by
 refine F.oi Uh λcdv A D3 s H vs Q E hr h=>?_;obtain⟨la,fa,rs,k,Z,c,d,g,s0,hl,hv,kS,h0,l6,fk,l3,kl,q⟩:=h;refine⟨_,YW (Yk 3 Uh.nd<|VB Vw rfl B.list Vm (pa1<|pv 0))
  (YW (Yk 4 Uh.nd (Ym Yp (Ym Y3 (pv 1) YX) YX) (hx:=Or.inr rfl))
  (YW (Yk 5 Uh.nd<|VB VH rfl B.tuple VY (pa1<|VL ["_law_word"] [4] (VF<|Vv<|pa3 VA VA VA) (VM (i:=0)<|by decide) (λcl C fp s H=>Yb 0 Qp rfl (Or.inl rfl) (Or.inr rfl)) λcl C fp s H=>Y0<|pa2 (pv 0)<|pv 1))
  (YW (V5 (Y0<|pa3 VA (pv 5)<|pv 4)<|XI (pv 3) (pv 2) set_list)
  (YW (Yk 6 Uh.nd<|Vv Vd)
  (YW (Vq Zt rfl (VF<|pv 3) (Yb 7 Uh.nd)
   (YW (Yk 8 Uh.nd<|Ym Yp (Yx DT hr<|pa2 (pv 1)<|Ym Yp (pv 7) YX) YX)
   (YW (Yk 9 Uh.nd (VB VH rfl B.tuple VY (pa1 (VL ["_law_word","_law_own"] [1] (V9<|Ym Yp (pv 7) YX) UE (λcl C fp s H=>VO (n:=2) rfl (Yi (Yb 0 NB rfl (Or.inl rfl) (Or.inr rfl))<|Yi (Yb 1 NB rfl (Or.inl rfl) (Or.inr rfl)) VC))
    (λcl C fp s H=>Y0<|pa2 VA<|Ym (r:=UG K) Yp (Yx DT hr<|pa2 (pv 2)<|pv 1) YX)))))
   (YZ<|Ve<|Ui Zx Zy Zz V2 (pv 6)<|pa1<|Y1 Xy (Vt Gx (pv 7) JD<|V4 YX)<|Y0<|pa1<|Y0<|pa4 VA (Y0<|pa2 VA<|pv 8) (Ym Yp (pv 7) YX)<|pv 9))))
  (YZ<|Yo<|pv 6)))))),?_⟩
 dsimp only[Vi,Cx.nox,Cx.wish];show let T0:=_;let T1:=_;let T2:=Yg _ T1;let T3:=Yg _ T2;let T4:=Yg (Jt _ _ T3) T0;let T5:=Yg _ T4;let T6:=Yg _ T5;let T7:=Yg _ T6;let T8:=Yg _ T7;Yg _ T8 _ _ _
 intros
 obtain⟨_,xs,e,C2,G2⟩:=VR hl;cases e;obtain⟨_,vf,e,hfa,L1⟩:=VR hv;cases e;have F3:=G2.length;rw[ZA]at F3;have F4:=L1.length;rw[ZA]at F4;have f0:=kS.f0;have f3:=kS.f3;obtain⟨k0,R1,F7⟩:=getD L1 (ZC (show 0<vf.length by omega));rw[h0]at R1;cases R1;obtain⟨a0,w0,ea0,ha0,_⟩:=UA F7;refine⟨la,_,Y,.inl<|Z1 C2,λl1 N2=>?_⟩;refine up_in N2 _ λH1 s1 g1=>?_;exists _,.ref a0,Z1<|s1 _ _ hfa,Yw (j:=0)<|by rw[ZC (show 0<vf.length by omega),ea0],_,.str g,Z0<|s1 _ _ ha0,Yw (j:=0) rfl;refine⟨sl 3,λl2 hl2=>?_⟩;refine up_in hl2 _ λH2 s2 g2=>?_;exists ⟨_,Z1 g2⟩;refine Js (us:=(["ya","b","zzc"]:kq)) (D:=Dat.str) (F:=λw=>prD (w,g)) (λH' s=>itl<|Z1<|s _ _ g2) (VE ["ya","b","zzc"]) (by show 3<=10000;decide) (λu x' Hx R hm sx hx hR=>?_) λvs q1 H3 fq s3 S2 F8=>?_
 .obtain rfl:=has_str hx
  refine⟨sl 2,λt' I8=>?_⟩;exact hR _ _ (Ye I8 _)<|Jk Ya
 refine⟨q1,_,Y,.inl ⟨Z1 S2,λt4 I7=>?_⟩⟩;refine up_in I7 _ λH4 s4 g4=>?_;refine⟨sl 3,λv I6=>?_⟩;refine up_in I6 _ λH5 s5 g5=>?_;have J1:=((s2.trans s3).trans s4).trans s5;have R5:=J1 _ _ g1;refine⟨l1,xs,(k:Int),k,Y,Y,R5,GD<|by omega,?_⟩;have hg:Has H5 (.ref v) (gD (ghd g,[])):=Yu g5<|Z2 Yv<|Z2 (Yu (s5 _ _ g4)<|F8.mono<|s4.trans s5)<|Z3 Yv
 let M:List (Hd×List Dat):=(rs.map λx=>(x.1,[x.2.dat])).set k (ghd g,[])
 have R4:∀x:Hd×List Dat,x∈M->(gD x).st=true:=λx m=>by
  rcases yr m with m|rfl
  .obtain ⟨x',_,rfl⟩:=ZU.mp m
   unfold gD;simp[Dat.st,Dat.sts,RE,Rb.st]
  .unfold gD
   simp[Dat.st,Dat.sts,RE]
 have e0:(rs.map λx=>(x.1,[x.2.dat])).map gD=rs.map Vb:=by rw[yg];rfl
 have R3:HasL H5 (xs.set k<|.ref v) (M.map gD):=by
  show HasL H5 _ (List.map gD<|List.set _ _ _);rw[qC,e0];exact HasL.set ((G2.mono s1).mono J1) hg
 have L:Dat.sts (M.map gD)=true:=by
  have:∀l:List (Hd×List Dat),(∀x∈l,(gD x).st=true)->Dat.sts (l.map gD)=true:=λl=>by
   induction l with
   |nil=>intro _;unfold List.map Dat.sts;rfl
   |cons a l ih=>intro h;rw[ZT];unfold Dat.sts;rw[h a ZY,ih λx m=>h x (ZK _ m)];rfl
  exact this M R4
 have hgh:M.map (·.1)=(rs.map (·.1)).set k (ghd g):=by
  show List.map _ (List.set _ _ _)=_;rw[qC,yg];rfl
 have F5:M.length=rs.length:=by show(List.set _ _ _).length=_;rw[yz,ZA]
 have R8:g∈(flat Z).map (·.1):=ZU.mpr ⟨_,ZH h0,rfl⟩
 have R7:∀x∈M,FlK Z (x.1.2.2::x.1.2.1.map (·.2))/\x.1.2.1.length<=3:=λx m=>by
  rcases yr m with m|rfl
  .obtain ⟨x',m',rfl⟩:=ZU.mp m
   exact⟨fk x' m',l3 x' m'⟩
  .refine ⟨λy m=>?_,by show 3<=3;decide⟩
   have:y=g:=by simpa[ghd]using m
   subst this;exact kS.flk _ R8
 rw[<-hgh]at q;generalize M=M at R3 R4 L F5 R7 q;have D0:TK H5 (upd H5 l1<|.lst<|xs.set k<|.ref v):=Jv R5 λxs z=>nomatch z
 have G:=VU D0 _ L R3;have X:upd H5 l1 (.lst<|xs.set k<|.ref v) l1=some (.lst<|xs.set k<|.ref v):=Ya;have T:Same H (upd H5 l1<|.lst<|xs.set k<|.ref v):=(s1.trans J1).putN N2;generalize upd H5 l1 (.lst<|xs.set k<|.ref v)=H6 at G X T |-;refine⟨sl 0,λlo S=>?_⟩;refine up_in S _ λH7 s7 g7=>?_;have R6:H lo=none:=T.free S;exists ⟨_,Z1<|s7 _ _ X⟩;have F1:l1≠lo:=Yj X S;have lz:=G.length;rw[ZA]at lz;have hfl7:Has H7 (.ref fa) (.lst<|(flat Z).map Vx):=hv.mono<|T.trans s7
 let I:kH:=λi U N=>SameB lo H7 N/\Same H N/\(∃zs,N lo=some (.lst zs)/\HasL N zs ((ovr Z<|(M.take i).map (·.1)).map Vb))/\∃z7 z8 z9:kJ,U=[some (.ref la),some<|.ref fa,some<|.int (k:Nat),some<|.ref l1,some<|.str g,some<|.ref t4,some<|.ref lo,z7,z8,z9]
 refine UK (xs:=xs.set k<|.ref v) I ⟨SameB.refl _ _,T.trans s7,⟨[],g7,Z4⟩,_,_,_,rfl⟩ (λi U N _ z=>Z1<|z.1 _ _ F1<|s7 _ _ X) ?_ ?_
 .rintro BB RR i xv U N hxi ⟨sbi,si,⟨zs,hzs,hh⟩,z7,z8,z9,rfl⟩
  have T9:TK H6 N:=λb us e=>sbi b _ (λh=>by rw[h,S]at e;cases e)<|s7 _ _ e;obtain⟨x,hx,J5⟩:=getD (VU T9 _ L G) hxi;have xm:=ZH hx;have il:=(ZE.mp hx).1;obtain⟨fx,x3⟩:=R7 x xm;obtain⟨t,u,us,r,rfl,ht,hu,F9⟩:=Al J5;obtain⟨r1,er1⟩:=fx.at ZY;have Z8:Has N (.ref fa) (.lst<|(flat Z).map Vx):=hv.mono si;refine⟨_,.str x.1.2.2,Z0 ht,Yw (j:=2) Y,.ref fa,x.1.2.2,flat Z,_,Z8,by omega,TR kS er1,λrv H8 s8 h8=>?_⟩;obtain⟨tv,xt,rfl,I0,F6⟩:=Yz h8;obtain rfl:=Uc F6;exists _,.str<|Nr Z x.1.2.2,Z0 I0,Yw (j:=0) rfl;exists _,.ref u,Z0<|s8 _ _ ht,Yw (j:=1) rfl,⟨_,Z0<|s8 _ _ hu⟩;refine Js (us:=x.1.2.1) (D:=prD) (F:=λp=>(Bd.tag<|Nr Z p.2).dat) (λH' s=>itt<|Z0<|s _ _<|s8 _ _ hu) (F9.mono s8) (by omega) (λpr x' Hx R hm sx hp hR=>?_) λvs q9 H9 fq9 s9 I9 G3=>?_
  .obtain ⟨t8,rfl,ht8⟩:=Xo hp
   exists _,Z0 ht8,Y;obtain⟨rt,ert⟩:=fx.at<|ZK _<|ZU.mpr ⟨pr,hm,rfl⟩;refine⟨.ref fa,pr.2,flat Z,_,(Z8.mono s8).mono sx,by omega,TR kS ert,λrv' Hy sy hy=>?_⟩;obtain⟨tv',xt',rfl,M2,G1⟩:=Yz hy;obtain rfl:=Uc G1;refine⟨_,_,Z0 M2,Yw (j:=0) Y,sl 2,λt9 I5=>?_⟩;exact hR _ _ (sy.trans<|Ye I5 _) (by rw[Bd.dat_tag];exact Jk Ya)
  refine⟨q9,_,Y,.inl ⟨Z1 I9,λtA I4=>?_⟩⟩;refine up_in I4 _ λHA sA gA=>?_;have O:=(s8.trans s9).trans sA;have hGA:Has HA (.ref tA) (.tup<|(Jo Z x.1.2.1).map Bd.dat):=Yu gA (by unfold Jo;rw[yg];exact G3.mono sA);exists .inl ⟨Y,_,Z1<|O _ _ hzs⟩;refine⟨3,Y,Au (J5.mono O) λuB HB sB hB=>?_⟩;refine⟨sl 2,λtC I3=>?_⟩;refine up_in I3 _ λHC sC gC=>?_;refine⟨_,.str x.1.1,Z0<|sC _ _<|sB _ _<|O _ _ ht,Yw (j:=0) rfl,sl 4,λtD I2=>?_⟩;refine up_in I2 _ λHD sD gD'=>?_;refine⟨sl 1,λtE I1=>?_⟩;refine up_in I1 _ λHE sE gE=>?_;have J4:=sD.trans sE;have Z9:=sC.trans J4;refine M0 (h:=x.1) (b:=Eu Z x.1) (hB.mono Z9) (Yu gE<|Z3 (by unfold Eu;rw[Rb.dat_thn,Bd.dat_tag];exact Yu (sE _ _ gD')<|Z2 Yv<|Z2 (Jk<|J4 _ _ gC)<|Z2 Yv<|Z3<|hGA.mono<|sB.trans Z9)) λuF HF sF hF=>?_;have J:=((O.trans sB).trans Z9).trans sF;have F2:=hh.length;rw[ZA]at F2;have lo7:(ovr Z<|(M.take i).map (·.1)).length<=6:=by unfold ovr;rw[ZA,ZA,ZL];omega
  refine⟨lo,_,_,Y,Y,J _ _ hzs,Yt<|by omega,?_⟩;have J2:TK HF (upd HF lo<|.lst<|zs++[uF]):=Jv (J _ _ hzs) λxs z=>nomatch z
  refine⟨λb o nb hb=>by rw[Yd nb];exact J _ _<|sbi _ _ nb hb,(si.trans J).putN R6,⟨zs++[uF],Ya,?_⟩,_,_,_,Y⟩;rw[take_snoc hx,ZI];unfold ovr;rw[ZI,ZI];exact Z5 (VU J2 _ (Y2 Vn _)<|hh.mono J)<|Z3<|UD J2 _ (Vn _) hF
 .rintro U N ⟨sbi,si,⟨zs,hzs,hh⟩,z7,z8,z9,rfl⟩
  rw[Ze (by omega)]at hh;exact q lo N si R6<|VD hzs hh
end
end K4
namespace L2
open PySem
structure Wrg(kd:Bd->Option Str)(ks:List (Str×Shp))(rh:Hds)(y:Str)(n:Nat)(b:Rb):Prop where
 ro:RO n b
 wr:rbG kd ks rh y n b=false
structure BtR(ks:List (Str×Shp))(hd:Hds)(rs rs':List Rw)(ps:List Nat):Prop where
 ln:rs'.length=rs.length
 at_:∀i x',rs'[i]?=some x'->∃x,rs[i]?=some x/\x'.1=x.1/\RO 3 x'.2/\(i∈ps->rG ks hd rs x'=false)/\(i∉ps->x'=x)
 pl:∀i∈ps,i<rs.length
def BtR.none{Z:List Rw}(h:∀x∈Z,RO 3 x.2):BtR ks hd Z Z []:=⟨rfl,λi x e=>⟨x,e,rfl,h x<|ZH e,(λm=>nomatch m),λ_=>rfl⟩,λi m=>nomatch m⟩
def BtR.put(h:BtR Z L rs rs' O)(G:rs[i]?=some x)(w:Wrg (kdn Z L 13<|kvP x.1.2.1) Z (Y5<|rs.map (·.1)) x.1.2.2 3 b):BtR Z L rs (rs'.set i (x.1,b)) (O++[i]):=by
 have J:=(ZE.mp G).1;refine⟨by rw[yz];exact h.ln,λj N e=>?_,λj m=>?_⟩
 .by_cases q:i=j
  .subst q
   rw[vQ (by rw[h.ln];exact J)]at e;cases e;exact⟨x,G,Y,w.ro,λ_=>w.wr,λm=>Zp (ZV.mpr<|.inr ZY) m⟩
  .rw [vG q]at e
   obtain⟨M,E,D,B,T,R⟩:=h.at_ j N e;refine⟨M,E,D,B,λm=>T ?_,λm=>R λz=>m<|ZV.mpr<|.inl z⟩;rcases ZV.mp m with m|m
   .exact m
   .exact Zp (ZO.mp m).symm q
 .rcases ZV.mp m with m|m
  .exact h.pl j m
  .rw [ZO.mp m];exact J
def BtR.hds(h:BtR M N rs rs' L):rs'.map (·.1)=rs.map (·.1):=by
 apply vU;intro i;rw[ZG,ZG]
 cases e:rs'[i]? with
 |none=>
  have:rs[i]?=Option.none:=by rw[yo]at e |-;rw[<-h.ln];exact e
  rw[this]
 |some Z=>
  obtain⟨x,G,J,_⟩:=h.at_ i Z e;rw[G];show some Z.1=some x.1;rw[J]
def BtR.mem(h:BtR N O rs rs' M)(m:Z∈rs'):RO 3 Z.2/\∃x∈rs,Z.1=x.1:=by
 obtain⟨i,e⟩:=yh.mp m;obtain⟨x,L,G,J,_⟩:=h.at_ i Z e;exact⟨J,x,ZH L,G⟩
def BtR.rG(h:BtR Z J rs rs' G)(x:Rw):rG Z J rs' x=rG Z J rs x:=by unfold L2.rG;rw[h.hds]
def BtR.first(h:BtR J L rs rs' Z)(good:∀x∈rs,L2.rG J L rs x=true)(m:k∈Z)(least:∀i∈Z,k<=i):GW J L rs' k:=by
 have G:=h.pl k m;rw[<-h.ln]at G;have e:rs'[k]?=some rs'[k]:=ZC G;obtain⟨x,U,S,I,T,A⟩:=h.at_ k _ e;refine⟨_,e,λi y B N=>?_,by rw[h.rG];exact T m⟩;obtain⟨M,R,F,E,D,O⟩:=h.at_ i y N;rw[h.rG,O λz=>by have:=least i z;omega];exact good M<|ZH R
def CC{Z:Str}(h:rh Z=none):Wrg kd G rh y 3 (.on Z []):=⟨.on (λa m=>nomatch m)<|by decide,PQ λ⟨J,e,_⟩=>by rw[h]at e;cases e⟩
def A1(M:J3 L c d)(h:VS L y=some (.tags Z)):c y=1+Z.length/\Z.length<=4:=by
 obtain⟨J,e,N,_,G,_⟩:=M.fl.ok y _<|yi.mpr ⟨JU h,rfl⟩;cases e;exact⟨N,G⟩
end L2
namespace K4
open PySem L2
section
structure J6(ks:List (Str×Shp))(hs:List Hd):Prop where
 nd:(hs.map (·.1)).Nodup
 wd:∀h∈hs,WdS h.1
 pa:∀h∈hs,X8 ks h.2.1
 kt:∀h∈hs,∀y∈h.2.2::h.2.1.map (·.2),kT ks y=true
def J6.hds(g:J6 L Z)(m:h∈Z):HdS h:=⟨(g.wd h m).1,(g.wd h m).2.1,(g.pa h m).1,λp J=>by
 obtain⟨i,G⟩:=yh.mp J;exact(TX ((g.pa h m).2 i p G).1).2.1⟩
def NI(J:J3 Z c d)(h:∀y∈ys,kT Z y=true):FlK Z ys:=λy m=>J.flk y (TH J<|h y m).1
def OA(g:J6 N Z)(J:Z[i]?=some h):Gm N ((Z.take i).map (·.1)) h:=by
 have m:=ZH J;obtain⟨M,L,G⟩:=g.wd h m;refine⟨WJ M L G,?_,g.pa h m,g.kt h m⟩;rw[vd];exact X0 g.nd (by rw[ZG,J];rfl)
def J6.okH{Z:List Rw}(g:J6 L (Z.map (·.1)))(G:1<=Z.length)(J:Z.length<=6):OkH L Z:=⟨G,J,λi x _ M=>by
 have:=OA g (i:=i) (h:=x.1) (by rw[ZG,M];rfl);rw[<-vd,yg]at this;exact this⟩
def Ft(h:kT Z y=true):X8 Z [("ya",y),("b",y),("zzc",y)]:=by
 have m:y∈Z.map (·.1):=Classical.not_not.mp λz=>by rw[L3 z]at h;cases h
 refine⟨by show 3<=3;decide,λi p J=>?_⟩
 match i,J with
 |0,e=>cases e;exact⟨by show V3 97 "ya"=true;decide +kernel,by simp,m⟩
 |1,e=>cases e;exact⟨by show V3 97 "b"=true;decide +kernel,by show("b":Str)∉(["ya"]:kq);decide +kernel,m⟩
 |2,e=>cases e;exact⟨by show V3 97 "zzc"=true;decide +kernel,by show("zzc":Str)∉(["ya","b"]:kq);decide +kernel,m⟩
def AT{ys:kq}(G:ys.Nodup)(n:z∉ys)(k:Nat):(ys.set k z).Nodup:=by
 induction ys generalizing k with
 |nil=>exact List.nodup_nil
 |cons y ys ih=>
  have Z:=yt.mp G;have J:z≠y/\z∉ys:=⟨λe=>n (by rw[e];exact ZY),λm=>n<|ZK _ m⟩
  cases k with
  |zero=>exact yt.mpr ⟨J.2,Z.2⟩
  |succ k=>
   refine yt.mpr ⟨λm=>?_,ih Z.2 J.2 k⟩;rcases yr m with m|e
   .exact Z.1 m
   .exact J.1 e.symm
def J6.great(g:J6 G J)(n:("great":Str)∉J.map (·.1))(h:kT G y=true)(k:Nat):J6 G (J.set k<|ghd y):=by
 have Z:∀{P:Hd->Prop},(∀h∈J,P h)->P (ghd y)->∀h∈J.set k (ghd y),P h:=λM L h m=>by
  rcases yr m with m|rfl
  .exact M h m
  .exact L
 refine⟨by rw[qC];exact AT g.nd n k,Z g.wd (by show WdS "great";exact TX<|by decide +kernel),Z g.pa<|Ft h,Z g.kt λz m=>?_⟩;have:z=y:=by simpa[ghd]using m
 rw[this];exact h
def Ra{R J:List Rw}(N:OkH O R)(e:J.map (·.1)=R.map (·.1))(F:k<R.length)(G:¬Gm O ((R.take k).map λx=>x.1.1) h):GX O (J.set k (h,b)) k:=by
 have D:J.length=R.length:=by have:=congrArg List.length e;rw[ZA,ZA]at this;exact this
 have M:∀i,i<=k->((J.set k (h,b)).take i).map (λx=>x.1.1)=(R.take i).map λx=>x.1.1:=λi B=>by
  rw[List.take_set_of_le B];have:=congrArg (λl=>(List.take i l).map (·.1)) e;rw[<-vd,<-vd,yg,yg]at this;exact this
 have E:=N.2.1;refine .inr<|.inr ⟨by rw[yz];omega,(h,b),vQ<|by omega,λi x B T=>?_,?_⟩
 .rw [vG (by omega)]at T
  have Z:=congrArg (·[i]?) e;rw[ZG,ZG,T]at Z
  cases ex:R[i]? with
  |none=>rw[ex]at Z;cases Z
  |some L=>
   rw[ex]at Z;rw[M i (by omega),show x.1=L.1 from ZP Z];exact N.2.2 i L (ZE.mp ex).1 ex
 .rw [M k (ZF _)]
  exact G
def HdS.tx{x:Rw}(h:HdS x.1):TxR x:=⟨by have:=h.n8;omega,by have:=h.l3;omega,λp m=>ZZ (h.p8 p m)<|by decide⟩
def Nx:Yn ["_law_told","_law_flat_here","_law_total","_law_k","_law_stands","_law_word","_law_kind"] ["_law_told","_law_flat_here"] (Yc WD):=Y7
inductive SFO(H:Hp)(Q:VK):List V->Prop
 |mk (la fa:Addr) (rs:List Rw) (ks:List (Str×Shp)) (c d:Str->Nat) (hl:Has H (.ref la) (.lst (rs.map Vb))) (hv:Has H (.ref fa) (.lst ((flat ks).map Vx))) (kS:J3 ks c d) (l6:rs.length<=6) (fk:∀x∈rs,FlK ks (x.1.2.1.map (·.2))) (l3:∀x∈rs,x.1.2.1.length<=3)
  (qk:∀k,GU c rs k->∀H',Same H H'->Q (.int (k:Nat)) H') (qn:tot c (rs.map (·.1))<=24->∀H',Same H H'->Q .non H'):SFO H Q [.ref la,.ref fa]
def SX:Sp:=λZ H Q _=>SFO H Q Z
def Ct(B:Blt mg)(F:Fun K "_law_first_over" "_law_first_over" WD f fd)(DT:Df P w K mg base n "_law_tags_of" ["_law_kinds_here","_law_kind"] UQ):Yh P w K mg base CX0 (n+1) f fd ["_law_told","_law_flat_here"] SX:=by
 refine F.oi Nx λZ9 A q s H vs Q E hr h=>?_;obtain⟨k,fa,C,ks,c,d,hl,hv,p,l6,fk,l3,qk,qn⟩:=h;refine⟨_,YW (Yk 2 Nx.nd YX)
  (YW (Vq Zt rfl (Xw rfl B.range (pa1<|Yr Yl rfl B.len Zs (pa1<|pv 0))) (Yb 3 Nx.nd)
   (YW (Yk 4 Nx.nd YX)
   (YW (Vq Zt rfl (V9<|Ym Yp (Ym Y3 (pv 0)<|pv 3) YX) (VO (n:=2) rfl (Yi (Yb 5 Nx.nd)<|Yi (Yb 6 Nx.nd) VC))
    (YZ<|Yk 4 Nx.nd<|Y1 JV (pv 4)<|Y1 Vr YX<|Yr Yl rfl B.len Zs (pa1<|Yx DT hr<|pa2 (pv 1)<|pv 6)))
   (YW (Yk 2 Nx.nd<|Y1 Vr (pv 2)<|pv 4)
   (YZ<|Y4 (Yq Uz (pv 2) YX<|Yy _) (YZ<|Yo<|pv 3) Ys)))))
  (YZ<|Yo Vu)),?_⟩
 dsimp only[Vi,Cx.nox,Cx.wish];show let T0:=_;let T1:=_;let T2:=VJ _ T1 _;let T3:=Yg _ T2;let T4:=_;let T5:=Yg (Jt _ _ T4) T3;let T6:=Yg _ T5;let T7:=Yg (Jt _ _ T6) T0;Yg _ T7 _ _ _
 intros
 obtain⟨_,xs,e,D,N⟩:=VR hl;cases e;have m:=N.length;rw[ZA]at m;have f3:=p.f3;refine X7 ?_;exists k,_,Y,.inl<|Z1 D,(xs.length:Nat),rfl,by omega,by omega
 let O:kH:=λi U S=>Same H S/\tot c ((C.take i).map (·.1))<=24/\∃y X G Z:kJ,U=[some (.ref k),some<|.ref fa,some<|.int (tot c ((C.take i).map (·.1)):Nat),y,X,G,Z]
 refine ME (n:=((xs.length:Nat):Int).toNat) O ⟨Z6 _,Za _,_,_,_,_,Y⟩ ?_ ?_
 .rintro i U S hi ⟨si,ti,y,X,G,Z,rfl⟩
  have il:i<xs.length:=by omega
  obtain⟨x,o,v⟩:=getD (N.mono si)<|ZC il;have xm:=ZH o;have tt:=Ni c o;have x3:=l3 x xm;obtain⟨t,u,us,w',ev,ht,hu,R,_⟩:=JL v;have g:=R.length;rw[ZA]at g;refine X7 ?_;exists _,.ref t,Z1<|si _ _ D,(by rw[show(0:Int)+(i:Int)=((i:Nat):Int) by omega];exact Yw<|by rw[ZC il,ev]),_,.ref u,Z0 ht,Yw (j:=1) rfl,⟨_,Z0 hu⟩
  let J:kH:=λj U I=>Same S I/\∃G Z:kJ,U=[some (.ref k),some<|.ref fa,some<|.int (tot c ((C.take i).map (·.1)):Nat),some<|.int<|(0:Int)+(i:Nat),some<|.int (Vs c (x.1.2.1.take j):Nat),G,Z]
  refine RX (xs:=us) J ⟨Z6 _,_,_,Y⟩ (λj U I _ z=>Z0<|z.1 _ _ hu) ?_ ?_
  .rintro BB RR j xv U I hxj ⟨sj,z5',z6',rfl⟩
   obtain⟨M,T,b⟩:=getD (R.mono sj) hxj;obtain⟨tp,rfl,Z8⟩:=Xo b;obtain⟨r,er⟩:=(fk x xm).at<|ZU.mpr ⟨M,ZH T,rfl⟩;obtain⟨ce,l4⟩:=A1 p er;exists _,Z0 Z8,Y;refine⟨.ref fa,M.2,flat ks,_,(hv.mono si).mono sj,by omega,TR p er,λrv H1 s1 h1=>?_⟩;obtain⟨tv,xt,rfl,a,l⟩:=Yz h1;obtain rfl:=Uc l;exists tv,_,Y,.inr<|Z0 a,.inr ⟨?_,?_⟩
   .rw [ZA];omega
   .rw [ZA];omega
   have e:((Vs c (x.1.2.1.take j):Nat):Int)*(1+(((Nr ks M.2::r).map V.str).length:Nat))=((Vs c (x.1.2.1.take<|j+1):Nat):Int):=by
    rw[take_snoc T,XE,ce,ZA,ja,Int.natCast_add];rfl
   exact⟨sj.trans s1,some<|.str M.1,some<|.str M.2,by rw[<-e];rfl⟩
  .rintro U I ⟨sj,z5',z6',rfl⟩
   rw[show x.1.2.1.take us.length=x.1.2.1 from Ze (by omega)];exists _,Y;have L:=si.trans sj
   by_cases c4:24<tot c ((C.take<|i+1).map (·.1))
   .refine Vf (by exact decide_eq_true (by rw[tt]at c4;omega)) ?_
    have:=qk i ⟨(ZE.mp o).1,ti,c4⟩ I L;rw[show(0:Int)+((i:Nat):Int)=((i:Nat):Int) by omega];exact this
   refine Y6 (λz=>by have z1:=Zr z;omega) ?_;exact⟨L,by omega,_,_,_,_,by rw[tt];rfl⟩
 .rintro U S ⟨si,ti,y,X,G,Z,rfl⟩
  rw[Ze (by omega)]at ti;exact qn ti S si
end
end K4
namespace L2
open PySem
def L0(h:J f=none):kdn ks J (n+1) kv (.ask f Z)=none:=by
 by_cases m:none∈(Bd.ask f Z).parts.map (kdn ks J n<|wth kv<|.ask f Z)
 .exact Wc m
 .obtain ⟨zs,e⟩:=NV m
  rw[TD (ks:=ks) (kv:=kv) (b:=.ask f Z) (λz=>z) e];unfold own;dsimp only;rw[h]
end L2
namespace K4
open PySem L2
section
variable{C CK CW aW N a1 a2 a3 a4 a5 a6 a7 a8 a9 b1 b2:Addr}
structure GRw(ks:List (Str×Shp))(hd:Hds)(rs:List Rw):Prop where
 l1:1<=rs.length
 l6:rs.length<=6
 g:J6 ks (rs.map (·.1))
 good:∀x∈rs,rG ks hd rs x=true
 ro:∀x∈rs,RO 3 x.2
def GRw.hs(r:GRw Z J rs):∀x∈rs,HdS x.1:=λx m=>r.g.hds<|ZU.mpr ⟨x,m,rfl⟩
def GRw.ok(r:GRw Z J rs):OkH Z rs:=r.g.okH r.l1 r.l6
def S8(O:J3 Z c d)(R:∀z L,VS Z z=some (.tags L)->1<=L.length)(g:J6 Z J)(E:1<=J.length)(D:J.length<=6):GRw Z T (ovr Z J):=by
 have B:(ovr Z J).length=J.length:=by unfold ovr;rw[ZA]
 have M:∀x∈ovr Z J,RK Z T (Y5<|(ovr Z J).map (·.1)) (kvP x.1.2.1) x.1.2.2 2 x.2:=λx m=>by
  rw[Et];unfold ovr at m;obtain⟨h,G,rfl⟩:=ZU.mp m;exact S7 (NI O<|g.kt h G) (g.pa h G).1<|Xm g.nd G
 exact⟨by omega,by omega,by rw[Et];exact g,λx m=>(M x m).good O.kg R,λx m=>(M x m).ro⟩
def Rc(r:GRw ks hd rs)(G:rs[k]?=some x)(J:wn∉rs.map λx=>x.1.1):BtR ks hd rs (rs.set k (x.1,.on wn [])) [k]/\Fault ks hd c (rs.set k (x.1,.on wn [])) k:=by
 have b:=(BtR.none (ks:=ks) (hd:=hd) r.ro).put G (CC<|BM (by rw[yg];exact J));have M:=r.l1;have L:=r.l6;have Z:OkH ks (rs.set k (x.1,.on wn [])):=J6.okH (by rw[b.hds];exact r.g) (by rw[yz];omega) (by rw[yz];omega);exact⟨b,.inr ⟨Z,.inl (b.first r.good ZY λi m=>by rw[ZO.mp m];exact ZF _)⟩⟩
def Fl:Yn ["_law_pen","_law_kinds_here","_law_book_here","_law_told","_law_at","_law_flat_here","_law_over","_law_due","_law_other","_law_bent"] ["_law_pen","_law_kinds_here","_law_book_here","_law_told","_law_at"] (Yc Xk):=Y7
inductive SGR(K:W.Frag)(C CK:Addr)(H:Hp)(Q:VK):List V->Prop
 |mk (p sa la kl bk:Addr) (rs:List Rw) (k:Nat) (ks:List (Str×Shp)) (c d:Str->Nat) (ds:List Dd) (pn:Pen K sa H p) (hk:Has H (.ref kl) (.lst (ks.map Vx))) (be:BE H C CK bk ks c d ds) (kS:J3 ks c d) (hl:Has H (.ref la) (.lst (rs.map Vb))) (r:GRw ks (Y5 (ds.map (·.1))) rs) (ng:("great":Str)∉rs.map λx=>x.1.1) (kr:k<rs.length)
  (q:∀H',SameB p H H'->Pen K sa H' p->Q (.bl true) H'):SGR K C CK H Q [.ref p,.ref kl,.ref bk,.ref la,.int (k:Nat)]
def SW(K:W.Frag)(C CK:Addr):Sp:=λZ H Q _=>SGR K C CK H Q Z
def Cr(B:Blt mg)(F:Fun K "_law_great_right" "_law_great_right" Xk f fd)(DN:Df P w K mg base n "_law_next" pnm (Jx K))(DL:Df P w K mg base n "_law_flat_kinds" ["_law_kinds_here"] Md)(DG:Df P w K mg base n "_law_great" ["_law_told","_law_flat_here","_law_at"] Kn)(DO:Df P w K mg base n "_law_first_over" ["_law_told","_law_flat_here"] SX)(DF:Df P w K mg base n "_law_refused" ["_law_book_here","_law_told"] (O3 C CK))(DB:Df P w K mg base n "_law_bad_body" ["_law_pen","_law_rows_here","_law_at"] (Ec K))(DH:Df P w K mg base n "_law_bad_head" ["_law_pen","_law_kinds_here","_law_rows_here","_law_at"] (Eb K)):Yh P w K mg base CX0 (n+1) f fd ["_law_pen","_law_kinds_here","_law_book_here","_law_told","_law_at"] (SW K C CK):=by
 refine F.oi Fl λcdv A I0 s H vs Q E g h=>?_;obtain⟨p,sa,la,kl,bk,X,k,Z,c,d,ds,pn,hk,be,L,hl,r0,ng,kr,q⟩:=h;refine⟨_,YW (Yk 5 Fl.nd<|Yx DL g<|pa1<|pv 1)
  (YW (Yk 6 Fl.nd<|Yx DG g<|pa3 (pv 3) (pv 5)<|pv 4)
  (YW (Yk 7 Fl.nd<|Yx DO g<|pa2 (pv 6)<|pv 5)
  (YW (Y4 (PW.pt<|XG (Yq Ex (pv 7) Vu<|Yy _)<|UH<|Yq Uy (Yx DF g<|pa2 (pv 2)<|pv 6) (pv 7)<|Yy _) (YZ<|Yo Jp) Ys)
  (YW (Yk 8 Fl.nd<|Yx DN g<|pa2 (pv 0)<|Yr Yl rfl B.len Zs (pa1<|pv 6))
  (YW (Yk 9 Fl.nd<|VB Vw rfl B.list Vm (pa1<|pv 6))
  (YW (V5 (Yx DB g<|pa3 (pv 0) (pv 6)<|pv 8)<|XI (pv 9) (pv 8) set_list)
  (YW (Y4 (Yq Uy (Yx DF g<|pa2 (pv 2)<|pv 9) (pv 8)<|Yy _) (YZ<|Yo Jp) Ys)
  (YW (V5 (Yx DH g<|pa4 (pv 0) (pv 1) (pv 6)<|pv 4)<|XI (pv 9) (pv 4) set_list)
  (YZ<|Yo<|UI JK (Yx DF g<|pa2 (pv 2)<|pv 9) (pv 4)<|Yy _))))))))),?_⟩
 dsimp only[Vi,Cx.nox,Cx.wish];show let T0:=_;let T1:=Yg _ T0;let T2:=_;let T3:=Yg (VJ _ T2 _) T1;let T4:=Yg _ T3;let T5:=Yg _ T4;let T6:=Yg _ T5;let T7:=_;let T8:=Yg (VJ _ T7 _) T6;let T9:=Yg _ T8;let T10:=Yg _ T9;Yg _ T10 _ _ _
 intros
 have k6:=L.k6;have f0:=L.f0;have nt:∀z ts,VS Z z=some (.tags ts)->1<=ts.length:=λz ts e=>(L.kk.at e).1;refine⟨.ref kl,Z,hk,by omega,λfa xf H1 ffa s1 C2 I9=>?_⟩;obtain⟨⟨y0,s0⟩,h0⟩:∃z,(flat Z)[0]?=some z:=⟨_,ZC f0⟩
 have I6:kT Z y0=true:=by
  have m:=ZH h0;obtain⟨ts,rfl,_⟩:=L.fl.ok _ _ m;unfold kT;rw[Xu L.nd (yi.mp m).1]
 have Z8:Has H1 (.ref fa) (.lst<|(flat Z).map Vx):=VD C2 I9;refine⟨la,fa,X,k,Z,c,d,y0,s0,hl.mono s1,Z8,L,h0,r0.l6,λx m=>NI L<|r0.g.kt x.1<|ZU.mpr ⟨x,m,rfl⟩,λx m=>(r0.hs x m).l3,kr,λlo H2 s2 flo v=>?_⟩;have g':J6 Z ((X.map (·.1)).set k<|ghd y0):=r0.g.great (by rw[yg];exact ng) I6 k;have lr:((X.map (·.1)).set k<|ghd y0).length=X.length:=by rw[yz,ZA]
 have r1:=r0.l1;have r6:=r0.l6;have R:GRw Z (Y5<|ds.map (·.1)) (ovr Z<|(X.map (·.1)).set k<|ghd y0):=S8 L nt g' (by omega) (by omega);have R6:(ovr Z<|(X.map (·.1)).set k<|ghd y0).length=X.length:=by unfold ovr;rw[ZA,lr]
 generalize ovr Z ((X.map (·.1)).set k<|ghd y0)=ov at v R R6;have R5:=UW<|Y2 Vn ov;have I7:=UW<|Y2 JW Z;have G1:=s1.trans s2;have F9:=pn.same G1
 let st:(z7 z8 z9:kJ)->St:=λz7 z8 z9=>[some (.ref p),some<|.ref kl,some<|.ref bk,some<|.ref la,some<|.int (k:Nat),some<|.ref fa,some<|.ref lo,z7,z8,z9]
 dsimp only[Vp];refine Vl (λU' H'=>∃dv:V,Same H2 H'/\(dv=.non \/ ∃j:Nat,dv=.int (j:Nat)/\GU c ov j)/\U'=st (some dv) none none) ?_ ?_
 case refine_2=>
  intro NN S;exact⟨lo,fa,ov,Z,c,d,v,Z8.mono s2,L,by omega,λx m=>NI L λy hy=>R.g.kt x.1 (ZU.mpr ⟨x,m,Y⟩) y<|ZK _ hy,λx m=>(R.hs x m).l3,λj fs H3 a=>S _ _ ⟨_,a,.inr ⟨j,rfl,fs⟩,rfl⟩,λ_ H3 a=>S _ _ ⟨_,a,.inl rfl,rfl⟩⟩
 rintro U' H3 ⟨dv,a,hdv,rfl⟩;have tx:∀x∈ov,TxR x:=λx m=>(R.hs x m).tx;refine Vl (λU' H'=>Same H2 H'/\U'=st (some dv) none none) ?_ ?_
 case refine_2=>
  intro NN S;rcases hdv with rfl|⟨j,rfl,fs⟩
  .exact ⟨rfl,_,rfl,Y6 (by simp)<|S _ _ ⟨a,rfl⟩⟩
  refine⟨Y,_,Y,Vf (by simp) ?_⟩;obtain⟨_,zs,e,hz,I8⟩:=VR<|v.mono a;cases e;refine⟨bk,lo,zs,ov,Z,c,d,ds,j,(be.mono G1).mono a,L,hz,I8,by omega,tx,R.ro,.inr ⟨R.ok,.inr ⟨R.good,fs⟩⟩,λH4 s4=>⟨Y,_,Y,Y6 (by simp) ?_⟩⟩;exact S _ _ ⟨a.trans s4,Y⟩
 rintro U' H4 ⟨J5,rfl⟩;obtain⟨_,z4,e,R7,D3⟩:=VR<|v.mono J5;cases e;have I3:=D3.length;rw[ZA]at I3;have R4:=F9.same J5;have F5:=G1.trans J5;exists lo,_,Y,.inl<|Z1 R7;refine Uw p sa z4.length Y R4 (by omega) (by omega) λr H5 rl b5 M=>?_;obtain⟨_,T,e,L1,l⟩:=VR<|VV b5.sb R4 _ R5<|VD R7 D3;cases e;have I2:=l.length;rw[ZA]at I2;refine⟨lo,_,Y,.inl<|Z1 L1,λbl O=>?_⟩;refine up_in O _ λH6 s6 g6=>?_;have t:bl≠p:=M.ne O;obtain⟨xo,R8⟩:∃xo,ov[r]?=some xo:=⟨_,ZC<|by omega⟩;have G:SameB p H H5:=F5.sb.trans b5.sb;refine⟨p,sa,lo,ov,r,xo,M.same s6,(VD L1 l).mono s6,by omega,R8,λu wn H7 N2 F8 hu I1=>?_⟩;have I:SameB p H5 H7:=s6.sb.trans N2;have F3:=N2 _ _ t g6;refine⟨bl,_,(r:Nat),r,Y,Y,F3,GD<|by omega,?_⟩;obtain⟨M2,flt⟩:=Rc (c:=c) R R8 I1;have J:=HasL.set (i:=r) (Vo I M _ (Dat.nis_of<|Y2 Vn ov) l) hu;rw[<-WV]at J;replace J:=VU (H':=upd H7 bl<|.lst<|T.set r u) (Jv F3 λxs z=>nomatch z) _ (Y2 Vn _) J;have g8:upd H7 bl (.lst<|T.set r u) bl=some (.lst<|T.set r u):=Ya;have J4:SameB p H5 (upd H7 bl<|.lst<|T.set r u):=I.put O;have G3:Pen K sa (upd H7 bl<|.lst<|T.set r u) p:=M.put I F8 O t;generalize upd H7 bl (.lst<|T.set r u)=H8 at J g8 J4 G3 |-;have be8:=be.pn (G.trans J4) pn
 have Z9:∀x∈ov.set r (xo.1,.on wn []),TxR x:=λx m=>by
  obtain⟨_,x0,m0,e0⟩:=M2.mem m;exact HdS.tx (by rw[e0];exact R.hs x0 m0)
 have G2:∀x∈ov.set r (xo.1,.on wn []),RO 3 x.2:=λx m=>(M2.mem m).1;have I5:(ov.set r (xo.1,.on wn [])).length=X.length:=by rw[yz];exact R6
 have F1:=M2.hds;generalize ov.set r (xo.1,.on wn [])=ov1 at J flt Z9 G2 I5 F1;refine⟨bk,bl,_,ov1,Z,c,d,ds,r,be8,L,g8,J,by omega,Z9,G2,flt,λH9 s9=>⟨Y,_,Y,Y6 (by simp) ?_⟩⟩;have D:=J4.trans s9.sb;have R1:=G.trans D;obtain⟨xk,D0⟩:∃xk,ov[k]?=some xk:=⟨_,ZC<|by omega⟩;refine⟨p,sa,lo,.ref kl,ov,k,xk,Z,c,d,G3.same s9,VV R1 pn _ I7 hk,L,VV D M _ R5<|VD L1 l,by omega,R.hs,D0,λu2 h HA J2 F7 S2 b=>?_⟩;have F2:=J2 _ _ t<|s9 _ _ g8;have I4:=J.length;rw[ZA]at I4;refine⟨bl,_,(k:Nat),k,Y,Y,F2,GD<|by omega,?_⟩;have U:=HasL.set (i:=k) (Vo J2 (G3.same s9) _ (Dat.nis_of<|Y2 Vn ov1)<|J.mono s9) S2;rw[<-WV]at U;replace U:=VU (H':=upd HA bl<|.lst<|(T.set r u).set k u2) (Jv F2 λxs z=>nomatch z) _ (Y2 Vn _) U;have o:=D.trans J2;have gB:upd HA bl (.lst<|(T.set r u).set k u2) bl=some (.lst<|(T.set r u).set k u2):=Ya;have J1:SameB p H5 (upd HA bl<|.lst<|(T.set r u).set k u2):=o.put O;have R3:Pen K sa (upd HA bl<|.lst<|(T.set r u).set k u2) p:=M.put o F7 O t;generalize upd HA bl (.lst<|(T.set r u).set k u2)=HB at U gB J1 R3 |-
 have F4:∀x∈ov1.set k (h,xk.2),TxR x:=λx m=>by
  rcases yr m with m|rfl
  .exact Z9 x m
  .exact ⟨b.ln,b.l5,b.l20⟩
 have F6:∀x∈ov1.set k (h,xk.2),RO 3 x.2:=λx m=>by
  rcases yr m with m|rfl
  .exact G2 x m
  .exact R.ro xk (ZH D0)
 refine⟨bk,bl,_,ov1.set k (h,xk.2),Z,c,d,ds,k,be.pn (G.trans J1) pn,L,gB,U,by rw[yz];omega,F4,F6,.inl<|Ra R.ok F1 (by omega) b.wr,λHC sC=>⟨rfl,?_⟩⟩;have:=q HC ((G.trans J1).trans sC.sb)<|R3.same sC;rw[show decide (V.int (k:Nat)=V.int (k:Nat))=true from decide_eq_true rfl];exact this
def Ss:Yn ["_law_flat_here","_law_book_here","_law_names_here","_law_told","_law_row","_law_given"] ["_law_flat_here","_law_book_here","_law_names_here","_law_told"] (Yc WE):=Y7
inductive SBS(C CK:Addr)(H:Hp)(Q:VK):List V->Prop
 |mk (fa bk nl la:Addr) (rs:List Rw) (ks:List (Str×Shp)) (c d:Str->Nat) (ds:List Dd) (hv:Has H (.ref fa) (.lst ((flat ks).map Vx))) (be:BE H C CK bk ks c d ds) (kS:J3 ks c d) (hn:Has H (.ref nl) (.lst ((ds.map λx=>x.1.1).map Dat.str))) (hl:Has H (.ref la) (.lst (rs.map Vb))) (l6:rs.length<=6) (g:J6 ks (rs.map (·.1)))
  (q:∀H',Same H H'->Q (.bl true) H'):SBS C CK H Q [.ref fa,.ref bk,.ref nl,.ref la]
def SY(C CK:Addr):Sp:=λZ H Q _=>SBS C CK H Q Z
def Cu(hn:2<=n)(B:Blt o)(TB:BCl K C)(F:Fun K "_law_book_stays" "_law_book_stays" WE f fd)(DT:Df P w K o base n "_law_tags_of" ["_law_kinds_here","_law_kind"] UQ)(DW:Df P w K o base n "kind_within" ["book","around","body"] (Nv C CK))(mH:Vk K C "names" g)(GH:Yh P w K o base CX0 n g gd ["self"] (Xe C CK))(bH:Binds K gd ["self"] []):Yh P w K o base CX0 (n+1) f fd ["_law_flat_here","_law_book_here","_law_names_here","_law_told"] (SY C CK):=by
 refine F.oi Ss λT7 A Z8 s H vs Q E a h=>?_;obtain⟨fa,bk,nl,la,rs,G,c,d,ds,hv,be,kS,X,hl,l6,gh,q⟩:=h;have G3:Vj (1+1) _:=a.mono hn;refine⟨_,YW (Vq Zt Y (VF<|pv 3) (Yb 4 Ss.nd)
   (YW (Yk 5 Ss.nd (VB VH rfl B.tuple VY (pa1 (VL ["_law_word","_law_own"] [0] (V9<|Ym Yp (pv 4) YX) UE (λcl C fp s H=>VO (n:=2) rfl (Yi (Yb 0 NB rfl (Or.inl rfl) (Or.inr rfl))<|Yi (Yb 1 NB rfl (Or.inl rfl) (Or.inr rfl)) VC))
    (λcl C fp s H=>Y0<|pa2 VA<|Ym (r:=UG K) Yp (Yx DT a<|pa2 (pv 2)<|pv 1) YX)))))
   (YZ (Y4 (Yq JZ (Ym Yp (pv 4) YX) (pv 2) rfl)
    (YZ<|Y4 (Yq Ex (Yx DW a<|pa3 (pv 1) JJ<|Y0<|pa3 VA (Ym Yp (pv 4) YX)<|pv 5) Vu<|Yy _) (YZ<|Yo Jp) Ys) Ys))))
  (YZ<|Yo<|UI (Dq G3) (VW (pv 1) TB.cl mH GH a bH .nil VN) (pv 2)<|Yy _),?_⟩
 dsimp only[Vi,Cx.nox,Cx.wish];show let T0:=_;let T1:=_;let T2:=VJ _ T1 _;let T3:=VJ _ T2 _;let T4:=Yg _ T3;Yg (Jt _ _ T4) T0 _ _ _
 intros
 obtain⟨_,xs,e,l,O⟩:=VR hl;cases e;obtain⟨_,ys,e,M2,J1⟩:=VR X;cases e;obtain rfl:=Uc J1;have Z9:=O.length;rw[ZA]at Z9;have f3:=kS.f3;exists ⟨_,Z1 l⟩
 let I:kH:=λi U Hi=>Same H Hi/\∃z4 z5:kJ,U=[some (.ref fa),some<|.ref bk,some<|.ref nl,some<|.ref la,z4,z5]
 refine UK (xs:=xs) I ⟨Z6 _,_,_,Y⟩ (λi U Hi _ z=>Z1<|z.1 _ _ l) ?_ ?_
 .rintro BB RR i xv U Hi hxi ⟨si,z4,z5,rfl⟩
  obtain⟨x,hx,J2⟩:=getD (O.mono si) hxi;have xm:=ZH hx;have v:x.1∈rs.map (·.1):=ZU.mpr ⟨x,xm,rfl⟩;have x3:=(gh.pa x.1 v).1;obtain⟨t,u,us,w',rfl,ht,hu,J4,_⟩:=JL J2;have fx:FlK G (x.1.2.1.map (·.2)):=NI kS λy hy=>gh.kt x.1 v y<|ZK _ hy;exists _,.ref u,Z0 ht,Yw (j:=1) Y,⟨_,Z0 hu⟩;refine Js (us:=x.1.2.1) (D:=prD) (F:=λp=>(Bd.tag<|Nr G p.2).dat) (λH' s=>itt<|Z0<|s _ _ hu) J4 (by omega) (λpr x' Hx R hm sx hp hR=>?_) λvs q9 H9 T5 s9 L1 T=>?_
  .obtain ⟨t8,rfl,ht8⟩:=Xo hp
   exists _,Z0 ht8,Y;obtain⟨rt,R4⟩:=fx.at<|ZU.mpr ⟨pr,hm,rfl⟩;refine⟨.ref fa,pr.2,flat G,_,(hv.mono si).mono sx,by omega,TR kS R4,λR7 Hy sy hy=>?_⟩;obtain⟨R6,R5,rfl,S,M⟩:=Yz hy;obtain rfl:=Uc M;refine⟨_,_,Z0 S,Yw (j:=0) Y,sl 2,λt9 G2=>?_⟩;exact hR _ _ (sy.trans<|Ye G2 _) (by rw[Bd.dat_tag];exact Jk Ya)
  refine⟨q9,_,Y,.inl ⟨Z1 L1,λtA G1=>?_⟩⟩;refine up_in G1 _ λHA sA gA=>?_;have Z:=s9.trans sA;have J:=si.trans Z;have R3:Has HA (.ref tA) (.tup<|(Jo G x.1.2.1).map Bd.dat):=Yu gA (by unfold Jo;rw[yg];exact T.mono sA);exists _,.str x.1.1,Z0<|Z _ _ ht,Yw (j:=0) rfl,nl,_,rfl,.inl<|Z1<|J _ _ M2,rfl,Jj _,_,rfl;rw[J9]
  by_cases m:x.1.1∈ds.map λx=>x.1.1
  .exact Y6 (by simpa using m) ⟨J,_,_,rfl⟩
  refine Vf (by simpa using m) ?_;intro dA R1;refine up_in R1 _ λHB sB gB=>?_;refine⟨_,.str x.1.1,Z0<|sB _ _<|Z _ _ ht,Yw (j:=0) rfl,sl 3,λtC J5=>?_⟩;refine up_in J5 _ λHC sC gC=>?_;have L:=(J.trans sB).trans sC;refine⟨bk,dA,.ref tC,G,c,d,ds,[],.ask x.1.1<|Jo G x.1.2.1,be.mono L,(λq m=>nomatch m),.inl<|sC _ _ gB,by show 0<=3;decide,by rw[Bd.dat_ask];exact Yu gC<|Z2 Yv<|Z2 Yv<|Z3<|(R3.mono sB).mono sC,QZ _ x3,λHD sD=>?_⟩;rw[L0 (BM (by rw[yg];exact m))];exact⟨Y,_,Y,Y6 (by simp[Up]) ⟨L.trans sD,_,_,Y⟩⟩
 .rintro U Hi ⟨si,z4,z5,rfl⟩
  have b:=be.mono si;obtain⟨AB,R8,eB,bd⟩:=id b.bi;refine⟨_,_,by rw[<-eB];exact bd.ins,Y,bk,G,d,ds,Y,b.bi,λml H1 s1 T6 N2=>?_⟩;have k:Has H1 (.ref ml) (.lst<|(ds.map λx=>x.1.1).map Dat.str):=VD (by rw[N2,yg];rfl)<|VE _;exists _,_,k,(X.mono si).mono s1,WK _;rw[Dat.pq_self];exact q _<|si.trans s1
end
end K4
namespace L2
open PySem
theorem HasL.rep(h:HasL H Z J):∀n:Nat,HasL H (List.replicate n Z).flatten (List.replicate n J).flatten
 |0=>Z4
 |n+1=>by
  rw[vg,vg,vT,vT];exact Z5 h<|HasL.rep h n
def SC{x:Str}(h:1<=x.length/\x.length<=8/\∀c∈x.cps.toList,97<=c/\c<97+26):Tx x:=⟨by have:=h.2.1;omega,λc m=>by have:=h.2.2 c m;omega⟩
end L2
namespace K4
open PySem L2
section
variable{C CK CW N:Addr}
def S4(Z:Ur O c t h)(T:FlK R O):X8 R h.2.1:=⟨Z.len,λi p J=>by
 have m:=ZH J;obtain⟨M,L,G⟩:=Z.spl p m;refine⟨WJ M L G,?_,T.mem<|Z.kin p m⟩;rw[vd];exact X0 Z.nd (by rw[ZG,J];rfl)⟩
def Qz(G:FlK J Z)(m:y∈Z):kT J y=true:=by
 obtain⟨L,e,_⟩:=G y m;unfold kT;rw[e]
def Sb(J:J3 Z c d)(T:∀z R,VS Z z=some (.tags R)->1<=R.length)(r:zV Z (flat Z) B c rs):GRw Z (Y5 B) rs:=by
 have O:∀h∈rs.map (·.1),Ur ((flat Z).map (·.1)) c 24 h:=λh m=>by
  obtain⟨x,M,rfl⟩:=ZU.mp m;exact r.ho x M
 refine⟨ZZ J.f0 r.f,r.l6,⟨by rw[yg];exact r.wd.nd,λh m=>?_,λh m=>S4 (O h m) J.flk,λh m y L=>?_⟩,λx m=>(r.rk x m).good J.kg T,λx m=>(r.rk x m).ro⟩
 .obtain ⟨x,M,rfl⟩:=ZU.mp m
  have G:x.1.1∈rs.map λx=>x.1.1:=ZU.mpr ⟨x,M,rfl⟩;exact⟨(r.wd.len _ G).1,(r.wd.len _ G).2,r.wd.abc _ G⟩
 .rcases Zb.mp L with rfl|L
  .exact Qz J.flk (O h m).own
  .obtain ⟨p,hp,rfl⟩:=ZU.mp L
   exact Qz J.flk<|(O h m).kin p hp
inductive zQ(K:W.Frag)(H:Hp)(Q:VK):List V->Prop
 |mk (a:Addr) (ns:List Int) (hS:SqL K H a (ns.map V.int)) (q:∀H',Q (.bl true) H'):zQ K H Q [.ref a]
def Ea(K:W.Frag):Sp:=λZ H Q _=>zQ K H Q Z
def Xf:Yn ["script","_law_pen","_law_kinds_here","_law_flat_here","_law_world_here","_law_book_here","_law_told","_law_strange","_law_at","_law_other","_law_bent"] ["script"] (Yc D4):=Y7
def Lo:List.Nodup [("_law_head":Str)]:=by decide +kernel
def AM(hb:mB+1<=n)(B:Blt X)(F:Fun K "law" "law" D4 f fd)(DN:Df P w K X base n "_law_next" pnm (Jx K))(DKD:Df P w K X base n "_law_kinds_drawn" ["_law_pen"] (Te K))(DL:Df P w K X base n "_law_flat_kinds" ["_law_kinds_here"] Md)(DH:Df P w K X base n "_law_heads_drawn" ["_law_pen","_law_flat_here"] (Th K))(DD:Df P w K X base n "_law_defined_drawn" ["_law_pen","_law_world_here"] (Bw K))(DR:Df P w K X base n "_law_rows_drawn" ["_law_pen","_law_world_here"] (MZ K))(DW:Df P w K X base n "_law_small_word" ["_law_pen","_law_taken"] (Xc K))(DY:Df P w K X base n "_law_right" ["_law_book_here","_law_told","_law_strange"] (Kf C CK))(DB:Df P w K X base n "_law_bad_body" ["_law_pen","_law_rows_here","_law_at"] (Ec K))(DX:Df P w K X base n "_law_bad_head" ["_law_pen","_law_kinds_here","_law_rows_here","_law_at"] (Eb K))(DF:Df P w K X base n "_law_refused" ["_law_book_here","_law_told"] (O3 C CK))(DG:Df P w K X base n "_law_great_right" ["_law_pen","_law_kinds_here","_law_book_here","_law_told","_law_at"] (SW K C CK))(DS:Df P w K X base n "_law_book_stays" ["_law_flat_here","_law_book_here","_law_names_here","_law_told"] (SY C CK))(MkB:Mk K C gB)(mB':X "Book"=some (.ref C))(GB:Yh P w K X base CX0 mB gB dB ["self","kinds","definitions"] (SZ C CK))(bB:Binds K dB ["self","kinds","definitions"] []):Yh P w K X base CX0 (n+1) f fd ["script"] (Ea K):=by
 refine F.oi Xf λcdv A outer s H vs Q E T h=>?_;obtain⟨a,ns,hS,q⟩:=h;have hrB:Vj (mB+1) _:=T.mono hb;refine⟨_,YW (Yk 1 Xf.nd<|Pa<|pa3 (pv 0) YX YX)
  (YW (Yk 2 Xf.nd<|Yx DKD T<|pa1<|pv 1)
  (YW (Yk 3 Xf.nd<|Yx DL T<|pa1<|pv 2)
  (YW (Yk 4 Xf.nd<|Y0<|pa2 (pv 3)<|Yx DH T<|pa2 (pv 1)<|pv 3)
  (YW (Yk 5 Xf.nd<|M7 MkB GB hrB rfl mB' bB .nil VN (pa2 (pv 2)<|Yx DD T<|pa2 (pv 1)<|pv 4))
  (YW (Yk 6 Xf.nd<|Yx DR T<|pa2 (pv 1)<|pv 4)
  (YW (Yk 7 Xf.nd<|Yx DW T<|pa2 (pv 1)<|VL ["_law_row"] [] (VF<|pv 6) (VM (i:=0)<|by decide) (λcl C fp s H=>Yb 0 G9 rfl (Or.inl rfl) (Or.inr rfl)) λcl C fp s H=>Ym (r:=UG K) Yp (pv 0) YX)
  (YW (Y4 (V8<|V7<|Yx DY T<|pa3 (pv 5) (pv 6)<|pv 7) (YZ<|Yo Jp) Ys)
  (YW (Yk 8 Xf.nd<|Yx DN T<|pa2 (pv 1)<|Yr Yl rfl B.len Zs (pa1<|pv 6))
  (YW (Yk 9 Xf.nd<|Yx DN T<|pa2 (pv 1)<|Yr Yl rfl B.len Zs (pa1<|pv 6))
  (YW (Yk 10 Xf.nd<|VB Vw rfl B.list Vm (pa1<|pv 6))
  (YW (Y4 (PW.pt<|XG (Yq Uy (pv 8) (pv 9)<|Yy _)<|UH<|Yq JK (Yx DN T<|pa2 (pv 1) YX) YX<|Yy _) (YZ<|V5 (Yx DB T<|pa3 (pv 1) (pv 6)<|pv 8)<|XI (pv 10) (pv 8) set_list) Ys)
  (YW (V5 (Yx DX T<|pa4 (pv 1) (pv 2) (pv 6)<|pv 9)<|XI (pv 10) (pv 9) set_list)
  (YW (Y4 (Yq Uy (Yx DF T<|pa2 (pv 5)<|pv 10) (pv 9)<|Yy _) (YZ<|Yo Jp) Ys)
  (YW (Y4 (PW.pt<|Jm (Yq Uy (Yx DF T<|pa2 (pv 5)<|Vv Vd) YX<|Yy _)<|Jc<|Yq Uy (Yx DF T<|pa2 (pv 5)<|Vt Xt (Y1 AA (pv 6) YX) JD<|V4 YX) YX<|Yy _) (YZ<|Yo Jp) Ys)
  (YW (Y4 (Yq JZ VA (VL ["_law_row"] [] (VF<|pv 6) (VM (i:=0)<|by decide) (λcl C fp s H=>Yb 0 G9 rfl (Or.inl rfl) (Or.inr rfl)) λcl C fp s H=>Ym (r:=UG K) Yp (pv 0) YX) rfl)
   (YZ<|Y4 (V8<|V7<|Yx DG T<|pa5 (pv 1) (pv 2) (pv 5) (pv 6)<|pv 8) (YZ<|Yo Jp) Ys) Ys)
  (YZ<|Yo<|WB (Yx DY T<|pa3 (pv 5) (pv 6) VA)<|WA<|Yx DS T<|pa4 (pv 3) (pv 5) (VL ["_law_head"] [] (VF<|Ym Yp (pv 4) YX) (VM (i:=0)<|by decide) (λcl C fp s H=>Yb 0 Lo rfl (Or.inl rfl) (Or.inr rfl)) λcl C fp s H=>Ym (r:=UG K) Yp (pv 0) YX)<|pv 6)))))))))))))))),?_⟩
 dsimp only[Vi,Cx.nox,Cx.wish];show let T0:=_;let T1:=_;let T2:=VJ _ T1 _;let T3:=Yg (VJ _ T2 _) T0;let T4:=_;let T5:=Yg (VJ _ T4 _) T3;let T6:=_;let T7:=Yg (VJ _ T6 _) T5;let T8:=Yg _ T7;let T9:=_;let T10:=Yg (VJ _ T9 _) T8;let T11:=Yg _ T10;let T12:=Yg _ T11;let T13:=Yg _ T12;let T14:=_;let T15:=Yg (VJ _ T14 _) T13;let T16:=Yg _ T15;let T17:=Yg _ T16;let T18:=Yg _ T17;let T19:=Yg _ T18;let T20:=Yg _ T19;let T21:=Yg _ T20;Yg _ T21 _ _ _
 intros
 refine⟨sl 3,λp hp hk=>?_⟩;have pn0:=Pen.new hS hp hk;generalize upd H p (.lst [.ref a,.int (0:Nat),.int (0:Nat)])=H1 at pn0 |-;refine⟨p,a,pn0,λkl xk L c d H2 sb2 pn2 fkl hkl hxk kS=>?_⟩;have k6:=kS.k6;have nt:∀z ts,VS L z=some (.tags ts)->1<=ts.length:=λz ts e=>(kS.kk.at e).1;refine⟨.ref kl,L,VD hkl hxk,by omega,λfa xf H3 ffa s3 hfa hxf=>?_⟩;have pn3:=pn2.same s3;have R4:=UW<|Y2 JW L;have F5:=UW<|Y2 JW<|flat L;refine⟨p,a,.ref fa,flat L,c,pn3,VD hfa hxf,kS.fl,λhl xh hs H4 sb4 pn4 fhl hhl hxh h0 h5 I6 hoh=>?_⟩;refine⟨sl 2,λwa hwa=>?_⟩;refine up_in hwa _ λH5 s5 g5=>?_;have I1:=sb4.trans s5.sb;have F1:=pn4.same s5;have R6:=VV I1 pn3 _ F5<|VD hfa hxf;have hk5:=VV (s3.sb.trans I1) pn2 _ R4<|VD hkl hxk;have I5:Wld H5 (.ref wa) L (flat L) hs c:=⟨Yu g5<|Z2 R6<|Z3<|VD (s5 _ _ hhl)<|hxh.mono s5,kS.fl,λy s m=>Xu kS.nd (yi.mp m).1,I6.nd,by omega,hoh⟩;refine⟨p,a,.ref wa,L,flat L,hs,c,F1,I5,λdl zd ds H6 I8 pn6 fdl hdl hzd eds sds=>?_⟩;subst eds;have hk6:=VV I8 F1 _ R4 hk5;obtain⟨_,xk6,e6,I4,I2⟩:=VR hk6;cases e6;refine λt dt ht hdt ndt=>?_;have tx:upd (upd H6 dt<|.own t) t (.ins C dt []) t=some (.ins C dt []):=Ya;have s7:Same H6 (upd (upd H6 dt<|.own t) t<|.ins C dt []):=λb o e=>by rw[Yd (Yj e ht),Yd (Yj e hdt)];exact e
 generalize upd (upd H6 dt<|.own t) t (.ins C dt [])=H7 at tx s7 |-
 have sub:∀y∈(flat L).map (·.1),y∈L.map (·.1):=λy m=>by
  obtain⟨k,hk,rfl⟩:=ZU.mp m;exact ZU.mpr ⟨k,(yi.mp hk).1,Y⟩
 rw[ZA]at h0 h5;have wdd:Wds 97 (ds.map λx=>x.1.1):=by rw[yg]at I6;exact I6
 refine⟨t,dt,kl,dl,xk6,zd,L,c,d,ds,tx,s7 _ _ I4,I2.mono s7,kS,s7 _ _ hdl,hzd.mono s7,h0,by omega,wdd,λx m=>(hoh _<|ZU.mpr ⟨x,m,rfl⟩).sub sub,sds,λH8 f8 be8=>⟨rfl,?_⟩⟩;have D3:Same H6 H8:=λb o e=>f8 b o (Yj e ht)<|s7 b o e;have J4:=pn6.same D3;have wl8:=(I5.pn I8 F1).sm D3;have hk8:=hk6.mono D3;have hf8:=(VV I8 F1 _ F5 R6).mono D3;clear I4 I2 hdl hzd tx hk6 R6 hk5 I5 g5 hhl hxh hfa hxf hkl hxk;refine⟨p,a,.ref wa,L,flat L,_,c,J4,wl8,λla xr J H9 D0 Z fla M U S2=>?_⟩;have R:=Sb kS nt S2;have r1:=R.l1;have l6:=R.l6;have Z8:la≠p:=J4.ne fla;have lxr:=U.length;rw[ZA]at lxr;have F3:Has H9 (.ref la) (.lst<|J.map Vb):=VD M U;have F2:=UW<|Y2 Vn J;have nf:TV L (Y5<|ds.map (·.1)) c J:=⟨R.ok,R.good,S2.to⟩;have I7:∀x∈J,TxR x:=λx m=>(R.hs x m).tx;have L1:=be8.pn D0 J4;have hk9:=VV D0 J4 _ R4 hk8;have hf9:=VV D0 J4 _ F5 hf8;have wl9:=wl8.pn D0 J4;exists ⟨_,Z1 M⟩;refine JM (us:=J) (D:=Vb) (E:=λx=>.str x.1.1) (itl<|Z1 M) U (by omega) (λu x R hm hu rT=>?_) λvn nl HA fnl sA hnl hvn=>?_
 .obtain ⟨t',u',xs',w',rfl,ht,_⟩:=JL hu
  exact⟨_,_,Z0 ht,Yw (j:=0) Y,rT _ Yv⟩
 obtain rfl:=Uc (ns:=J.map λx=>x.1.1) (by rw[yg];exact hvn);refine⟨p,a,.ref nl,_,Z.same sA,VD hnl<|VE _,by rw[ZA];omega,λsw HB sbB pnB nsw wsw=>?_⟩;have J1:SameB p H9 HB:=sA.sb.trans sbB;have hlaB:=J1 _ _ Z8 M;have hxrB:=Vo J1 Z _ (Dat.nis_of<|Y2 Vn J) U;refine⟨t,la,xr,J,L,c,d,ds,sw,L1.pn J1 Z,kS,hlaB,hxrB,I7,R.ro,nf,SC wsw,nsw,λHC sC=>⟨_,Y,Y6 (by decide) ?_⟩⟩;have I0:=J1.trans sC.sb;have pnC:=pnB.same sC;exists la,_,Y,.inl<|Z1<|I0 _ _ Z8 M;refine Uw p a xr.length Y pnC (by omega) (by omega) λk HD kl' bD pnD=>?_;have F9:=I0.trans bD.sb;exists la,_,Y,.inl<|Z1<|F9 _ _ Z8 M;refine Uw p a xr.length Y pnD (by omega) (by omega) λj HE jl bE g=>?_;have S:=F9.trans bE.sb;have hlaE:=S _ _ Z8 M;have R5:=Vo S Z _ (Dat.nis_of<|Y2 Vn J) U;refine⟨la,_,Y,.inl<|Z1 hlaE,λbl G3=>?_⟩;refine up_in G3 _ λHF sF gF=>?_;have J5:bl≠p:=g.ne G3
 let st:V->St:=λv=>[some (.ref a),some<|.ref p,some<|.ref kl,some<|.ref fa,some<|.ref wa,some<|.ref t,some<|.ref la,some<|.str sw,some<|.int (k:Nat),some<|.int (j:Nat),some v]
 dsimp only[Vp];refine Vl (λU' H'=>(∃(G:List Rw)(ys:kF),SameB p HE H'/\Pen K a H' p/\H' bl=some (.lst ys)/\HasL H' ys (G.map Vb)/\G.map (·.1)=J.map (·.1)/\∀x∈G,RO 3 x.2)/\U'=st (.ref bl)) ?_ ?_
 case refine_2=>
  intro NN G1;have now:(∃(G:List Rw)(ys:kF),SameB p HE HF/\Pen K a HF p/\HF bl=some (.lst ys)/\HasL HF ys (G.map Vb)/\G.map (·.1)=J.map (·.1)/\∀x∈G,RO 3 x.2):=⟨J,xr,sF.sb,g.same sF,gF,R5.mono sF,rfl,R.ro⟩;refine⟨Y,_,Y,UJ (λc1=>?_) λc1=>Y6 (by simp)<|G1 _ _ ⟨now,rfl⟩⟩;refine⟨p,a,2,g.same sF,by decide,by decide,λr HG rl bG R3=>?_⟩;refine⟨Y,_,Y,UJ (λc2=>?_) λc2=>G1 _ _ ⟨⟨J,xr,sF.sb.trans bG.sb,R3,bG.sb _ _ J5 gF,Vo bG.sb (g.same sF) _ (Dat.nis_of<|Y2 Vn J)<|R5.mono sF,rfl,R.ro⟩,rfl⟩⟩;have F6:SameB p HE HG:=sF.sb.trans bG.sb;obtain⟨x,hx⟩:∃x,J[k]?=some x:=⟨_,ZC<|by omega⟩;refine⟨p,a,la,J,k,x,R3,VV (S.trans F6) Z _ F2 F3,by omega,hx,λu wn HI J2 C2 hu nwn=>?_⟩;have O:=F6.trans J2;have R7:=J2 _ _ J5<|bG.sb _ _ J5 gF;refine⟨bl,_,(k:Nat),k,Y,Y,R7,GD<|by omega,?_⟩;obtain⟨btr,_⟩:=Rc (c:=c) R hx nwn;have hy:=HasL.set (i:=k) (Vo O g _ (Dat.nis_of<|Y2 Vn J) R5) hu;rw[<-WV]at hy;replace hy:=VU (H':=upd HI bl<|.lst<|xr.set k u) (Jv R7 λxs z=>nomatch z) _ (Y2 Vn _) hy;exact G1 _ _ ⟨⟨_,_,O.put G3,g.put O C2 G3 J5,Ya,hy,btr.hds,λx m=>(btr.mem m).1⟩,Y⟩
 rintro U' HG ⟨⟨G,ys,sbG,R3,hbG,hyG,F4,ro1⟩,rfl⟩;have l1:G.length=J.length:=by have:=congrArg List.length F4;rw[ZA,ZA]at this;exact this
 obtain⟨x,hx⟩:∃x,J[j]?=some x:=⟨_,ZC<|by omega⟩;have F8:=S.trans sbG;refine⟨p,a,la,.ref kl,J,j,x,L,c,d,R3,VV F8 Z _ R4 hk9,kS,VV F8 Z _ F2 F3,by omega,R.hs,hx,λu h HI J2 C2 hu R8=>?_⟩;have R7:=J2 _ _ J5 hbG;have lyG:=hyG.length;rw[ZA]at lyG;refine⟨bl,_,(j:Nat),j,Y,Y,R7,GD<|by omega,?_⟩;have G2:=HasL.set (i:=j) (Vo J2 R3 _ (Dat.nis_of<|Y2 Vn G) hyG) hu;rw[<-WV]at G2;replace G2:=VU (H':=upd HI bl<|.lst<|ys.set j u) (Jv R7 λxs z=>nomatch z) _ (Y2 Vn _) G2;have O:=sbG.trans J2;have gJ:upd HI bl (.lst<|ys.set j u) bl=some (.lst<|ys.set j u):=Ya;have sbJ:SameB p HE (upd HI bl<|.lst<|ys.set j u):=O.put G3;have pnJ:Pen K a (upd HI bl<|.lst<|ys.set j u) p:=g.put O C2 G3 J5;generalize upd HI bl (.lst<|ys.set j u)=HJ at G2 gJ sbJ pnJ |-;have F7:=S.trans sbJ
 have tx2:∀x'∈G.set j (h,x.2),TxR x':=λx' m=>by
  rcases yr m with m|rfl
  .obtain ⟨i,hi⟩:=yh.mp m
   have e1:=congrArg (·[i]?) F4;rw[ZG,ZG,hi]at e1
   cases ex:J[i]? with
   |none=>rw[ex]at e1;cases e1
   |some x0=>
    rw[ex]at e1;exact HdS.tx (by rw[show x'.1=x0.1 from ZP e1];exact R.hs x0<|ZH ex)
  .exact ⟨R8.ln,R8.l5,R8.l20⟩
 have ro2:∀x'∈G.set j (h,x.2),RO 3 x'.2:=λx' m=>by
  rcases yr m with m|rfl
  .exact ro1 x' m
  .exact R.ro x (ZH hx)
 refine⟨t,bl,_,G.set j (h,x.2),L,c,d,ds,j,L1.pn F7 Z,kS,gJ,G2,by rw[yz];omega,tx2,ro2,.inl<|Ra R.ok F4 (by omega) R8.wr,λHK sK=>⟨rfl,_,rfl,Y6 (by simp) ?_⟩⟩;have Z9:=F7.trans sK.sb;have pnK:=pnJ.same sK;have beK:=L1.pn Z9 Z;have hlaK:=Z9 _ _ Z8 M;have hxrK:=Vo Z9 Z _ (Dat.nis_of<|Y2 Vn J) U;clear G2 gJ hyG hbG tx2 ro2 ro1 F4 R8 hu;refine⟨sl 0,λl0 hl0=>?_⟩;refine up_in hl0 _ λHL sL gL=>?_;refine⟨t,l0,[],[],L,c,d,ds,0,beK.mono sL,kS,gL,Z4,by decide,(λx m=>nomatch m),(λx m=>nomatch m),.inl<|.inl ⟨rfl,rfl⟩,λHM sM=>⟨rfl,_,rfl,Y6 (by simp) ?_⟩⟩;have sKM:=sL.trans sM;have hlaM:=sKM _ _ hlaK;refine⟨la,7,xr,Y,Y,hlaM,by decide,by decide,Zf<|Yt (by show _*7<=1000;omega),λl7 hl7=>?_⟩;refine up_in hl7 _ λHN sN gN=>?_;have lr7:7<=(List.replicate 7 xr).flatten.length:=by rw[len_rep];omega
 refine⟨7,Y,l7,_,Y,Z1 gN,λl8 hl8=>?_⟩;refine up_in hl8 _ λHO sO gO=>?_;have I9:=(sKM.trans sN).trans sO;have ec:XT (List.replicate (7:Int).toNat xr).flatten none (some 7)=(List.replicate 7 xr).flatten.take 7:=Wh _ 7 lr7;rw[ec]at gO;have e7:((List.replicate 7 J).flatten.take 7).map Vb=(List.replicate 7<|J.map Vb).flatten.take 7:=by rw[vd,List.map_flatten,List.map_replicate]
 have m7:∀x∈(List.replicate 7 J).flatten.take 7,x∈J:=λx m=>by
  obtain⟨l,hl',hm⟩:=List.mem_flatten.mp<|Zi m;rw[(List.mem_replicate.mp hl').2]at hm;exact hm
 have ln7:((List.replicate 7 J).flatten.take 7).length=7:=by rw[ZL,len_rep];omega
 refine⟨t,l8,_,(List.replicate 7 J).flatten.take 7,L,c,d,ds,6,beK.mono I9,kS,gO,by rw[e7];exact HasL.take9 7<|HasL.rep (hxrK.mono I9) 7,by omega,λx m=>I7 x<|m7 x m,λx m=>R.ro x<|m7 x m,.inl<|.inr<|.inl ⟨by omega,rfl⟩,λHP sP=>⟨rfl,_,rfl,Y6 (by simp) ?_⟩⟩;have sKP:=I9.trans sP;have pnP:=pnK.same sKP;have R1:=Z9.trans sKP.sb;have I3:=R1 _ _ Z8 M;have hxrP:=Vo R1 Z _ (Dat.nis_of<|Y2 Vn J) U;dsimp only[KO];refine Vl (λU' H'=>SameB p H9 H'/\Pen K a H' p/\U'=st (.ref bl)) ?_ ?_
 case refine_2=>
  intro NN G1;exists ⟨_,Z1 I3⟩;refine JM (us:=J) (D:=Vb) (E:=λx=>.str x.1.1) (itl<|Z1 I3) hxrP (by omega) (λu x R hm hu rT=>?_) λvn2 nl2 HQ fnl2 sQ hnl2 hvn2=>?_
  .obtain ⟨t',u',xs',w',rfl,ht,_⟩:=JL hu
   exact⟨_,_,Z0 ht,Yw (j:=0) Y,rT _ Yv⟩
  obtain rfl:=Uc (ns:=J.map λx=>x.1.1) (by rw[yg];exact hvn2);have I:=R1.trans sQ.sb;exists nl2,_,Y,.inl<|Z1 hnl2,rfl,Jj _,_,rfl;rw[J9]
  by_cases m:("great":Str)∈J.map λx=>x.1.1
  .exact Y6 (by simpa using m) (G1 _ _ ⟨I,pnP.same sQ,rfl⟩)
  refine Vf (by simpa using m) ?_;refine⟨p,a,la,kl,t,J,k,L,c,d,ds,pnP.same sQ,VV I Z _ R4 hk9,L1.pn I Z,kS,VV I Z _ F2 F3,R,m,by omega,λHR sbR pnR=>⟨_,Y,Y6 (by decide) ?_⟩⟩;exact G1 _ _ ⟨I.trans sbR,pnR,Y⟩
 rintro U' HQ ⟨M2,pnQ,rfl⟩;have hlaQ:=M2 _ _ Z8 M;have beQ:=L1.pn M2 Z;refine⟨t,la,xr,J,L,c,d,ds,"abcdefghi",beQ,kS,hlaQ,Vo M2 Z _ (Dat.nis_of<|Y2 Vn J) U,I7,R.ro,nf,⟨by decide +kernel,by decide +kernel⟩,λm=>?_,λHR sR=>⟨_,rfl,Vf rfl ?_⟩⟩
 .have:=(S2.wd.len _ m).2
  exact Zp this<|by decide +kernel
 have wlR:=(wl9.pn M2 Z).sm sR;obtain⟨_,fa',ha',xf',xh',eA,hwA,_,_,hhA,hxA⟩:=wlR.at;cases eA;exists _,.ref ha',Z0 hwA,Yw (j:=1) Y,⟨_,Z1 hhA⟩;refine JM (us:=ds.map (·.1)) (D:=hdT) (E:=λx=>.str x.1) (itl<|Z1 hhA) hxA (by rw[ZA];omega) (λu x R hm hu rT=>?_) λvt tk HS ftk sS htk hvt=>?_
 .obtain ⟨t',u',xs',rfl,ht,_⟩:=XS hu
  exact⟨_,_,Z0 ht,Yw (j:=0) Y,rT _ Yv⟩
 obtain rfl:=Uc (ns:=ds.map λx=>x.1.1) (by rw[yg]at hvt |-;exact hvt);have sQS:=sR.trans sS;have N2:=M2.trans sQS.sb;exact⟨fa,t,tk,la,J,L,c,d,ds,VV N2 Z _ F5 hf9,L1.pn N2 Z,kS,VD htk<|VE _,VV N2 Z _ F2 F3,l6,R.g,λHT' sT=>q _⟩
end
def Wi{K:W.Frag}{C:Addr}{v:Value}{b:Bool}(h:W.mroIn K C v=some b):(W.clsIn K C).isSome=true:=by
 unfold W.mroIn at h;obtain⟨Z,a,_⟩:=Option.bind_eq_some_iff.mp h;rw[a];rfl
def At(K:W.Frag)(f:Addr)(x q:Str)(st:Stmt):Prop:=∃(L:Value)(G:kB)(kV M J:Value)(O:kB)(Z N:Value)(sl:Array (Option Value)),K.lookup f=some ⟨L,G,.func<|W.fnOf x q (Um st) (Ja st) (Yc st) .none kV M J O Z N,sl⟩/\W.codeIn K Z q=true/\W.keepIn K (.ref f)=true
def At.of{K:W.Frag}{f:Addr}{x q:Str}{Z:Stmt}{M:Value}{L:kB}{kV N G:Value}{R:kB}{J O:Value}{sl:Array (Option Value)}(l:K.lookup f=some ⟨M,L,.func<|W.fnOf x q (Um Z) (Ja Z) (Yc Z) .none kV N G R J O,sl⟩)(d:W.codeIn K J q=true)(k:W.keepIn K (.ref f)=true):At K f x q Z:=⟨M,L,kV,N,G,R,J,O,sl,l,d,k⟩
section
variable{K:W.Frag}{x q:Str}{st:Stmt}{f:Addr}{fd:FuncData}{ps:kq}
def BA1(x q:Str)(st:Stmt)(ps:kq)(us:kj):Prop:=∀(kV Z G:Value)(M:kB)(J L:Value),bindArgs (W.fnOf x q (Um st) (Ja st) (Yc st) .none kV Z G M J L) ⟨us,[]⟩=pure (ps.zip us)
def Oq:Nat->(List Value->Prop)->Prop
 |0,R=>R []
 |n+1,R=>∀a,Oq n λus=>R (a::us)
theorem Oq.at:∀{n:Nat}{R:List Value->Prop}{Z:kj},Oq n R->Z.length=n->R Z
 |0,_,[],h,_=>h
 |_+1,R,a::_,h,e=>Oq.at (R:=λZ=>R (a::Z)) (h a)<|Nat.succ.inj e
def _root_.L2.Fun.bn(F:Fun K x q st f fd)(ps:kq)(h:Oq ps.length (BA1 x q st ps)):Binds K fd ps []:=F.binds λ_ _ _ _ _ _ _ e=>h.at e _ _ _ _ _ _
def _root_.L2.Fun.b1(F:Fun K x q st f fd)(p:Str)(h:∀a,BA1 x q st [p] [a]:=by exact λ_ _ _ _ _ _ _=>Y):Binds K fd [p] []:=F.bn [p] h
def _root_.L2.Fun.b2(F:Fun K x q st f fd)(p Z:Str)(h:∀a b,BA1 x q st [p,Z] [a,b]:=by exact λ_ _ _ _ _ _ _ _=>Y):Binds K fd [p,Z] []:=F.bn [p,Z] h
def _root_.L2.Fun.b3(F:Fun K x q st f fd)(p J Z:Str)(h:∀a b c,BA1 x q st [p,J,Z] [a,b,c]:=by exact λ_ _ _ _ _ _ _ _ _=>Y):Binds K fd [p,J,Z] []:=F.bn [p,J,Z] h
def _root_.L2.Fun.b4(F:Fun K x q st f fd)(p G J Z:Str)(h:∀a b c d,BA1 x q st [p,G,J,Z] [a,b,c,d]:=by exact λ_ _ _ _ _ _ _ _ _ _=>Y):Binds K fd [p,G,J,Z] []:=F.bn [p,G,J,Z] h
def _root_.L2.Fun.b5(F:Fun K x q st f fd)(p L G J Z:Str)(h:∀a b c d i,BA1 x q st [p,L,G,J,Z] [a,b,c,d,i]:=by exact λ_ _ _ _ _ _ _ _ _ _ _=>Y):Binds K fd [p,L,G,J,Z] []:=F.bn [p,L,G,J,Z] h
def _root_.L2.Fun.b6(F:Fun K x q st f fd)(p M L G J Z:Str)(h:∀a b c d i j,BA1 x q st [p,M,L,G,J,Z] [a,b,c,d,i,j]:=by exact λ_ _ _ _ _ _ _ _ _ _ _ _=>Y):Binds K fd [p,M,L,G,J,Z] []:=F.bn [p,M,L,G,J,Z] h
end
def At.fn{K:W.Frag}{f:Addr}{x q:Str}{st:Stmt}(h:At K f x q st):∃Z,Fun K x q st f Z:=by
 obtain⟨_,_,_,_,_,_,_,_,_,l,d,k⟩:=h;exact⟨_,OK (st:=st) l d k⟩
def GA(K:W.Frag)(x:Str)(f:Addr)(st:Stmt):Prop:=W.nsIn K mainGlobals x=some (some<|.ref f)/\At K f x x st
def GR(K:W.Frag)(a:Addr)(y x:Str)(f:Addr)(st:Stmt):Prop:=W.nsIn K a y=some (some<|.ref f)/\At K f x x st
def GM(K:W.Frag)(C:Addr)(x q:Str)(f:Addr)(st:Stmt):Prop:=(W.findIn K (.ref C) x=some (some<|.ref f)/\W.isFn K (.ref f)=true)/\At K f x q st
def GN(K:W.Frag)(x:Str):Prop:=W.nsIn K mainGlobals x=some none
def GC(K:W.Frag)(x:Str)(f:Addr):Prop:=W.nsIn K mainGlobals x=some (some<|.ref f)
def GV(K:W.Frag)(x:Str)(v:V)(u:Value):Prop:=W.nsIn K mainGlobals x=some (some u)/\RelV v u
def GF(K:W.Frag)(C:Addr)(x:Str):Prop:=W.findIn K (.ref C) x=some none
def GA.go{K:W.Frag}{h:Heap}{L:Str->Option Value}{x:Str}{f:Addr}{J:Stmt}(X:K.In h)(G:h.Ns mainGlobals L)(a:GA K x f J):∃Z,Fun K x x J f Z/\W.keepIn K (.ref f)=true/\L x=some (.ref f):=
 let⟨Z,F⟩:=a.2.fn
 ⟨Z,F,F.kp,W.mg_of X G a.1⟩
def GR.go{K:W.Frag}{c:Addr}{y x:Str}{f:Addr}{J:Stmt}(a:GR K c y x f J):∃Z,Fun K x x J f Z/\W.keepIn K (.ref f)=true/\W.nsIn K c y=some (some<|.ref f):=
 let⟨Z,F⟩:=a.2.fn
 ⟨Z,F,F.kp,a.1⟩
def GM.go{K:W.Frag}{c:Addr}{x q:Str}{f:Addr}{J:Stmt}(a:GM K c x q f J):∃Z,Fun K x q J f Z/\Vk K c x f:=
 let⟨Z,F⟩:=a.2.fn
 ⟨Z,F,a.1.1,a.1.2,F.kp⟩
def GV.go{K:W.Frag}{h:Heap}{Z:Str->Option Value}{x:Str}{v:V}{u:Value}(X:K.In h)(G:h.Ns mainGlobals Z)(a:GV K x v u):Z x=some u/\RelV v u:=⟨W.mg_of X G a.1,a.2⟩
structure CA(K:W.Frag)(C:Addr):Prop where
 pg:W.plainGet K C Str.empty=true
 hd:W.hasDictIn K C=true
 po:W.plainOver K C=true
 sa:W.findIn K (.ref C) "__setattr__"=some (some (.builtin "object.__setattr__"))
 ma:W.makesIn K C=true
 kc:W.keepIn K (.ref C)=true
def all_at{l:W.OpenLaw}{w:World}{K:W.Frag}{h:Heap}{mg:Str->Option Value}{fa CK C CW aR f1 f2 f3 f4 f5 f6 f7 f8 f9 f10 f11 f12 f13 f14 f15 f16 f17 f18 f19 f20 f21 f22 f23 f24 f25 f26 f27 f28 f29 f30 f31 f32 f33 f34 f35 f36 f37 f38 f39 f40 f41 f42 f43 f44 f45 f46 f47 f48 f49 f50 f51 f52 f53 f54 f55 f56 f57 f58 f59 f60 f61 f62 f63 f64 f65 f66 f67 f68 f69 f70 f71 f72 f73 f74 f75 f76 aW N a1' a2' a3' a4' a5' a6' a7' a8' a9' b1' b2':Addr}{es:Array DictEntry}{nR:Nat}{u1v u2v u3v u4v u5v u6v u7v u8v u9v u10v u11v u12v u13v:Value}(X:K.In h)(G:h.Ns mainGlobals mg)(hfa:mg "law"=some (.ref fa))(aC:GC K "Kinds" CK)(aB:GC K "Book" C)(aV:GC K "Rows" CW)(aU:GC K "RULES" aR)(e1:GC K "WantError" aW)(e2:GC K "NoRows" N)(e3:GC K "NoAsking" a1')(e4:GC K "NoBook" a2')(e5:GC K "NoCell" a3')(e6:GC K "NoKinds" a4')(e7:GC K "NoMore" a5')(e8:GC K "NoMost" a6')(e9:GC K "NoNote" a7')(e10:GC K "NoPart" a8')(e11:GC K "NoSheet" a9')(e12:GC K "NoWorth" b1')(e13:GC K "Torn" b2')(lR:K.lookup aR=some ⟨.type "dict",none,.dict es nR,#[]⟩)(kR:W.KeysLit w.params es.toList)(a1:GA K "parts" f1 B7)(a2:GA K "kind_or_place" f2 sKP)(a3:GA K "kind_of_part" f3 DI)(a4:GA K "is_name" f4 Mu)(a5:GA K "is_tag" f5 DQ)(a6:GA K "is_spelt" f6 B4)(a7:GA K "are_parameters" f7 Dg)(a8:GA K "row_count" f8 Wz)(a9:GA K "rows_over" f9 Wy)(a10:GA K "places" f10 G4)(a11:GA K "part_at" f11 Ts)(a12:GA K "is_of_tags" f12 Mq)(a13:GA K "kind_within" f13 Mj)(a14:GA K "kinds_of" f14 Tt)(a15:GA K "kind_around" f15 My)(a16:GA K "_law_fill" f16 Lx)(a17:GA K "_law_next" f17 Lu)(a18:GA K "_law_spelt" f18 D1)(a19:GA K "_law_small_words" f19 NF)(a20:GA K "_law_kinds_drawn" f20 D5)(a21:GA K "_law_flat_kinds" f21 Lw)(a22:GA K "_law_tags_of" f22 NE)(a23:GA K "_law_heads_drawn" f23 D6)(a24:GA K "_law_said" f24 E1)(a25:GA K "_law_defined_drawn" f25 Ly)(a26:GA K "_law_row_heads" f26 Ls)(a27:GA K "_law_row_body" f27 E2)(a28:GA K "_law_rows_drawn" f28 Lr)(a29:GA K "_law_free" f29 Lv)(a30:GA K "_law_small_word" f30 NG)(a31:GA K "_law_bad_head" f31 RT)(a32:GA K "_law_bad_body" f32 RU)(a33:GA K "_law_stranger" f33 W6)(a34:GA K "_law_right" f34 D2)(a35:GA K "_law_great" f35 D7)(a36:GA K "_law_first_over" f36 WD)(a37:GA K "_law_great_right" f37 Xk)(a38:GA K "_law_book_stays" f38 WE)(a39:GA K "_law_kinds_of" f39 RS)(a40:GA K "_law_refused" f40 RQ)(a41:GA K "law" f41 D4)(a42:GR K aR "tag" "kind_of_tag_body" f42 K8)(a43:GR K aR "name" "kind_of_name_body" f43 DM)(a44:GR K aR "pair" "kind_of_pair_body" f44 DJ)(a45:GR K aR "one" "kind_of_one_body" f45 K9)(a46:GR K aR "other" "kind_of_other_body" f46 Ms)(a47:GR K aR "choose" "kind_of_choose_body" f47 Tv)(a48:GR K aR "ask" "kind_of_ask_body" f48 LB)(a49:GR K aR "let" "kind_of_let_body" f49 LA)(a50:GM K CK "__init__" "Kinds.__init__" f50 LC)(a51:GM K CK "take" "Kinds.take" f51 DE)(a52:GM K CK "take_tags" "Kinds.take_tags" f52 K6)(a53:GM K CK "take_pair" "Kinds.take_pair" f53 B8)(a54:GM K CK "names" "Kinds.names" f54 B9)(a55:GM K CK "worths_of" "Kinds.worths_of" f55 Wx)(a56:GM K CK "shape_of" "Kinds.shape_of" f56 Tq)(a57:GM K CK "kind_of_tag" "Kinds.kind_of_tag" f57 Mt)(a58:GM K CK "kind_of_pair" "Kinds.kind_of_pair" f58 Tu)(a59:GM K C "__init__" "Book.__init__" f59 Dc)(a60:GM K C "take_heads" "Book.take_heads" f60 DV)(a61:GM K C "is_head" "Book.is_head" f61 De)(a62:GM K C "check_bodies" "Book.check_bodies" f62 Mx)(a63:GM K C "kinds" "Book.kinds" f63 Mw)(a64:GM K C "names" "Book.names" f64 Mv)(a65:GM K C "parameters" "Book.parameters" f65 DZ)(a66:GM K C "kind_of" "Book.kind_of" f66 Da)(a67:GM K C "told_of" "Book.told_of" f67 DU)(a68:GM K CW "__init__" "Rows.__init__" f68 Mn)(a69:GM K CW "take_heads" "Rows.take_heads" f69 B5)(a70:GM K CW "is_head" "Rows.is_head" f70 B6)(a71:GM K CW "check_bodies" "Rows.check_bodies" f71 Mo)(a72:GM K CW "is_body" "Rows.is_body" f72 Mp)(a73:GM K CW "check_stands" "Rows.check_stands" f73 Tr)(a74:GM K CW "names" "Rows.names" f74 Ml)(a75:GM K CW "kind_of" "Rows.kind_of" f75 Mm)(a76:GM K N "__init__" "NoRows.__init__" f76 Mr)(z1:GN K "len")(z2:GN K "isinstance")(z3:GN K "bool")(z4:GN K "str")(z5:GN K "int")(z6:GN K "tuple")(z7:GN K "list")(z8:GN K "dict")(z9:GN K "all")(z10:GN K "zip")(z11:GN K "max")(z12:GN K "range")(z13:GN K "sorted")(z14:GN K "min")(z15:GN K "sum")(z16:GN K "enumerate")(z17:GN K "any")(z18:GN K "ValueError")(g1:GV K "SMALL" (.str<|Str.ofString "abcdefghijklmnopqrstuvwxyz") u1v)(g2:GV K "GREAT" (.str<|Str.ofString "ABCDEFGHIJKLMNOPQRSTUVWXYZ") u2v)(g3:GV K "LONGEST" (.int 8) u3v)(g4:GV K "MOST_KINDS" (.int 6) u4v)(g5:GV K "MOST_TAGS" (.int 4) u5v)(g6:GV K "MOST_WORTHS" (.int 30) u6v)(g7:GV K "MOST_PAIRS_DEEP" (.int 2) u7v)(g8:GV K "MOST_DEFINITIONS" (.int 8) u8v)(g9:GV K "MOST_PARAMETERS" (.int 3) u9v)(g10:GV K "MOST_ROWS_books" (.int 200) u10v)(g11:GV K "MOST_ROWS_IN_ALL" (.int 400) u11v)(g12:GV K "MOST_ROWS_rows" (.int 6) u12v)(g13:GV K "MOST_STANDS" (.int 24) u13v)(caCK:CA K CK)(caC:CA K C)(caCW:CA K CW)(n1:GF K CK "shapes")(n2:GF K CK "worths")(n3:GF K CK "heights")(n4:GF K CK "pairs_deep")(n5:GF K CK "tag_kinds")(n6:GF K CK "pair_kinds")(nb1:GF K C "sorts")(nb2:GF K C "told")(nb3:GF K C "rows")(nb4:GF K C "turns")(nr1:GF K CW "book")(nr2:GF K CW "told")(nr3:GF K CW "steps")(h2:W.typeIn K (.ref aW)=some (.type "type"))(h3:W.mroIn K aW (.type "BaseException")=some true)(x2:W.findIn K (.ref N) "__getattribute__"=some (some<|.builtin "BaseException.__getattribute__"))(x3:W.findIn K (.ref N) "__getattr__"=some none)(x4:W.mroIn K N (.type "BaseException")=some true)(x5:W.mroIn K N (.type "object")=some true)(x6:W.findIn K (.ref N) "__class__"=some (some<|.builtin "object.__class__"))(x7:W.specialIn K (.builtin "object.__class__") "__get__"=some (some<|.builtin "getset_descriptor.__get__"))(x8:W.takesIn K (.builtin "object.__class__")=some true)(s1:W.subIn K (.ref N) (.ref aW)=some true)(u1:W.kitAny K (.ref N) [.ref a1',.ref a2',.ref a3',.ref a4',.ref a5',.ref a6',.ref a7',.ref a8',.ref a9']=some false)(u2:W.kitAny K (.ref N) [.ref b1',.ref b2']=some false)(u3:W.kitOne K (.ref N) (.ref N)=some true)(u4:W.kitOne K (.ref N) (.type "ValueError")=some true)(v1:W.hasDictIn K N=true)(v2:W.findIn K (.ref N) "number"=some none)(v4:W.findIn K (.ref N) "__setattr__"=some (some<|.builtin "object.__setattr__"))(v5:W.keepIn K (.ref N)=true)(t2:W.typeIn K (.ref a1')=some (.type "type"))(y2:W.findIn K (.ref a1') "__getattribute__"=some (some<|.builtin "BaseException.__getattribute__"))(y3:W.findIn K (.ref a1') "__getattr__"=some none)(y4:W.mroIn K a1' (.type "BaseException")=some true)(y5:W.mroIn K a1' (.type "object")=some true)(y6:W.findIn K (.ref a1') "__class__"=some (some<|.builtin "object.__class__"))(t9:W.excIn K a1' [.type "ValueError",.type "Exception",.type "BaseException",.type "object"] "ValueError.__new__"=true)(t3:W.subIn K (.ref a1') (.ref a1')=some true)(t4:W.kitOne K (.ref a1') (.ref aW)=some true)(t5:W.kitAny K (.ref a1') [.ref N,.ref a5',.ref a8']=some false)(v6:W.xcIn K N f76=true):∃fd:FuncData,(∀(s:Shared)(v:Value),BindsTo s fd ⟨[v],[]⟩ [("script",v)])/\∀base:Heap,K.In base->base.Ns mainGlobals mg->Yh l.prog w K mg base CX0 32 fa fd ["script"] (Ea K):=by
 have e:=hfa.symm.trans<|W.mg_of X G a41.1;cases e;obtain⟨d1,F1,k1,m1⟩:=a1.go X G;obtain⟨d2,F2,k2,m2⟩:=a2.go X G;obtain⟨d3,F3,k3,m3⟩:=a3.go X G;obtain⟨d4,F4,k4,m4⟩:=a4.go X G;obtain⟨d5,F5,k5,m5⟩:=a5.go X G;obtain⟨d6,F6,k6,m6⟩:=a6.go X G;obtain⟨d7,F7,k7,m7⟩:=a7.go X G;obtain⟨d8,F8,k8,m8⟩:=a8.go X G;obtain⟨d9,F9,k9,m9⟩:=a9.go X G;obtain⟨d10,F10,k10,m10⟩:=a10.go X G;obtain⟨d11,F11,k11,m11⟩:=a11.go X G;obtain⟨d12,F12,k12,m12⟩:=a12.go X G;obtain⟨d13,F13,k13,m13⟩:=a13.go X G;obtain⟨d14,F14,k14,m14⟩:=a14.go X G;obtain⟨d15,F15,k15,m15⟩:=a15.go X G;obtain⟨d16,F16,k16,m16⟩:=a16.go X G;obtain⟨d17,F17,k17,m17⟩:=a17.go X G;obtain⟨d18,F18,k18,m18⟩:=a18.go X G;obtain⟨d19,F19,k19,m19⟩:=a19.go X G;obtain⟨d20,F20,k20,m20⟩:=a20.go X G;obtain⟨d21,F21,k21,m21⟩:=a21.go X G;obtain⟨d22,F22,k22,m22⟩:=a22.go X G;obtain⟨d23,F23,k23,m23⟩:=a23.go X G;obtain⟨d24,F24,k24,m24⟩:=a24.go X G;obtain⟨d25,F25,k25,m25⟩:=a25.go X G;obtain⟨d26,F26,k26,m26⟩:=a26.go X G;obtain⟨d27,F27,k27,m27⟩:=a27.go X G;obtain⟨d28,F28,k28,m28⟩:=a28.go X G;obtain⟨d29,F29,k29,m29⟩:=a29.go X G;obtain⟨d30,F30,k30,m30⟩:=a30.go X G;obtain⟨d31,F31,k31,m31⟩:=a31.go X G;obtain⟨d32,F32,k32,m32⟩:=a32.go X G;obtain⟨d33,F33,k33,m33⟩:=a33.go X G;obtain⟨d34,F34,k34,m34⟩:=a34.go X G;obtain⟨d35,F35,k35,m35⟩:=a35.go X G;obtain⟨d36,F36,k36,m36⟩:=a36.go X G;obtain⟨d37,F37,k37,m37⟩:=a37.go X G;obtain⟨d38,F38,k38,m38⟩:=a38.go X G;obtain⟨d39,F39,k39,m39⟩:=a39.go X G;obtain⟨d40,F40,k40,m40⟩:=a40.go X G;obtain⟨_,_,kV,dc,pm,an,cd,ct,_,l',d',k41⟩:=a41.2;have F41:=OK (st:=D4) l' d' k41;obtain⟨d42,F42,k42,a42⟩:=a42.go;obtain⟨d43,F43,k43,a43⟩:=a43.go;obtain⟨d44,F44,k44,a44⟩:=a44.go;obtain⟨d45,F45,k45,a45⟩:=a45.go;obtain⟨d46,F46,k46,a46⟩:=a46.go;obtain⟨d47,F47,k47,a47⟩:=a47.go;obtain⟨d48,F48,k48,a48⟩:=a48.go;obtain⟨d49,F49,k49,a49⟩:=a49.go;obtain⟨d50,F50,w50⟩:=a50.go;obtain⟨d51,F51,w51⟩:=a51.go;obtain⟨d52,F52,w52⟩:=a52.go;obtain⟨d53,F53,w53⟩:=a53.go;obtain⟨d54,F54,w54⟩:=a54.go;obtain⟨d55,F55,w55⟩:=a55.go;obtain⟨d56,F56,w56⟩:=a56.go;obtain⟨d57,F57,w57⟩:=a57.go;obtain⟨d58,F58,w58⟩:=a58.go;obtain⟨d59,F59,w59⟩:=a59.go;obtain⟨d60,F60,w60⟩:=a60.go;obtain⟨d61,F61,w61⟩:=a61.go;obtain⟨d62,F62,w62⟩:=a62.go;obtain⟨d63,F63,w63⟩:=a63.go;obtain⟨d64,F64,w64⟩:=a64.go;obtain⟨d65,F65,w65⟩:=a65.go;obtain⟨d66,F66,w66⟩:=a66.go;obtain⟨d67,F67,w67⟩:=a67.go;obtain⟨d68,F68,w68⟩:=a68.go;obtain⟨d69,F69,w69⟩:=a69.go;obtain⟨d70,F70,w70⟩:=a70.go;obtain⟨d71,F71,w71⟩:=a71.go;obtain⟨d72,F72,w72⟩:=a72.go;obtain⟨d73,F73,w73⟩:=a73.go;obtain⟨d74,F74,w74⟩:=a74.go;obtain⟨d75,F75,w75⟩:=a75.go;obtain⟨d76,F76,w76⟩:=a76.go;have mC:=W.mg_of X G aC;have mB:=W.mg_of X G aB;have mV:=W.mg_of X G aV;have mU:=W.mg_of X G aU;have B:Blt mg:=⟨yq X G z1,yq X G z2,yq X G z3,yq X G z4,yq X G z5,yq X G z6,yq X G z7,yq X G z8,yq X G z9,yq X G z10,yq X G z11,yq X G z12,yq X G z13⟩;have nmin:=yq X G z14;have nsum:=yq X G z15;have nenumerate:=yq X G z16;have nany:=yq X G z17;have nValueError:=yq X G z18;obtain⟨q1,r1⟩:=g1.go X G;obtain⟨q2,r2⟩:=g2.go X G;obtain⟨q3,r3⟩:=g3.go X G;obtain⟨q4,r4⟩:=g4.go X G;obtain⟨q5,r5⟩:=g5.go X G;obtain⟨q6,r6⟩:=g6.go X G;obtain⟨q7,r7⟩:=g7.go X G;obtain⟨q8,r8⟩:=g8.go X G;obtain⟨q9,r9⟩:=g9.go X G;obtain⟨q10,r10⟩:=g10.go X G;obtain⟨q11,r11⟩:=g11.go X G;obtain⟨q12,r12⟩:=g12.go X G;obtain⟨q13,r13⟩:=g13.go X G;have T:KCl K CK:=⟨⟨caCK.pg,caCK.hd,caCK.po,caCK.sa⟩,n1,n2,n3,n4,n5,n6⟩;have TB:BCl K C:=⟨⟨caC.pg,caC.hd,caC.po,caC.sa⟩,nb1,nb2,nb3,nb4⟩;have TW:RCl K CW:=⟨⟨caCW.pg,caCW.hd,caCW.po,caCW.sa⟩,nr1,nr2,nr3⟩;have XX:XR K mg aW N a1' a2' a3' a4' a5' a6' a7' a8' a9' b1' b2':=⟨W.mg_of X G e1,W.mg_of X G e2,W.mg_of X G e3,W.mg_of X G e4,W.mg_of X G e5,W.mg_of X G e6,W.mg_of X G e7,W.mg_of X G e8,W.mg_of X G e9,W.mg_of X G e10,W.mg_of X G e11,W.mg_of X G e12,W.mg_of X G e13,nValueError,⟨Wi h3,h2,h3⟩,⟨Wi x4,x2,x3,x4,x5,x6,x7,x8⟩,s1,u1,u2,u3,u4,v1,v2⟩;have YY:XA K aW N a1' a5' a8':=⟨⟨Wi y4,t2,y4⟩,t9,⟨Wi y4,y2,y3,y4,y5,y6,x7,x8⟩,t3,t4,t5⟩;have xc:XCl K N f76:=⟨v6,x5,v4⟩;refine⟨W.fnOf "law" "law" (Um D4) (Ja D4) (Yc D4) .none kV dc pm an cd ct,λs v=>.of_eq Y,λbase hIn _=>?_⟩;have pA:Yh l.prog w K mg base CX0 1 f1 _ _ XB:=ok_parts (n:=0) B F1;have spG:Yh l.prog w K mg base CX0 1 f6 _ _ WN:=Fx (n:=0) B F6 q3 r3;have sp:Yh l.prog w K mg base CX0 1 f6 _ _ MY:=spG.sub Fd;have naG:Yh l.prog w K mg base CX0 2 f4 _ _ Td:=LZ (n:=1) F4 spG (F6.b2 _ _) k6 m6 q1 r1;have na:Yh l.prog w K mg base CX0 2 f4 _ _ (Xb 97):=naG.sub Fa;have ta:Yh l.prog w K mg base CX0 2 f5 _ _ (Xb 65):=Lg (n:=1) F5 sp (F6.b2 _ _) k6 m6 q2 r2;have tt:Yh l.prog w K mg base CX0 3 f52 _ _ (Bq CK):=Po (n:=2) B T F52 q5 r5 ta (F5.b1 _) k5 m5;have tp:Yh l.prog w K mg base CX0 3 f53 _ _ (Ma CK):=LX (n:=2) B T F53 q7 r7 q6 r6;have kt:Yh l.prog w K mg base CX0 4 f51 _ _ (Mc CK):=La (n:=3) B T F51 (na.mono<|by decide) (F4.b1 _) k4 m4 tt (F52.b3 _ _ _) w52 tp (F53.b4 _ _ _ _) w53;have ini:Yh l.prog w K mg base CX0 5 f50 _ _ (Bt CK):=P0 (n:=4) B T F50 q4 r4 kt (F51.b3 _ _ _) w51;have knm:Yh l.prog w K mg base CX0 1 f54 _ _ (XC CK):=LY (n:=0) B T F54;have kwo:Yh l.prog w K mg base CX0 1 f55 _ _ (UP CK):=N5 (n:=0) B T F55;have ksh:Yh l.prog w K mg base CX0 1 f56 _ _ (Jw CK):=Ds (n:=0) T F56;have kto:Yh l.prog w K mg base CX0 1 f57 _ _ (Tg CK):=IJ (n:=0) T F57;have kpo:Yh l.prog w K mg base CX0 1 f58 _ _ (Ws CK):=Dv (n:=0) T F58;have bki:Yh l.prog w K mg base CX0 1 f63 _ _ (JH C CK):=IM (n:=0) TB F63;have bnm:Yh l.prog w K mg base CX0 1 f64 _ _ (Xe C CK):=IL (n:=0) B TB F64;have to:Yh l.prog w K mg base CX0 1 f67 _ _ (MX C CK):=Pn (n:=0) B TB F67;have cP:Yh l.prog w K mg base CX0 2 f65 _ _ (Bs C CK):=Ps (n:=1) TB F65 w67 to<|F67.b2 _ _;have cK:Yh l.prog w K mg base CX0 2 f66 _ _ (Mb C CK):=Lf (n:=1) TB F66 w67 to<|F67.b2 _ _;have kpt:Yh l.prog w K mg base CX0 2 f3 _ _ (Gw C CK):=Lc (n:=1) TB T F3 w63 bki (F63.b1 _) w56 ksh<|F56.b2 _ _;have R1:RA l.prog w K mg base C CK (λk=>findBy Ju es k) "tag" _:=⟨f42,_,Xi lR a42,Pw (n:=2) TB T F42 w63 (bki.mono<|by decide) (F63.b1 _) w57 (kto.mono<|by decide)<|F57.b2 _ _,k42,F42.b4 _ _ _ _⟩;have R2:RA l.prog w K mg base C CK (λk=>findBy Ju es k) "name" _:=⟨f43,_,Xi lR a43,Le (n:=2) F43,k43,F43.b4 _ _ _ _⟩;have R3:RA l.prog w K mg base C CK (λk=>findBy Ju es k) "pair" _:=⟨f44,_,Xi lR a44,Ld (n:=2) TB T F44 w63 (bki.mono<|by decide) (F63.b1 _) w58 (kpo.mono<|by decide)<|F58.b3 _ _ _,k44,F44.b4 _ _ _ _⟩;have R4:RA l.prog w K mg base C CK (λk=>findBy Ju es k) "one" _:=⟨f45,_,Xi lR a45,Px (n:=2) F45 ⟨f3,_,m3,k3,F3.b3 _ _ _,kpt⟩,k45,F45.b4 _ _ _ _⟩;have R5:RA l.prog w K mg base C CK (λk=>findBy Ju es k) "other" _:=⟨f46,_,Xi lR a46,IH (n:=2) F46 ⟨f3,_,m3,k3,F3.b3 _ _ _,kpt⟩,k46,F46.b4 _ _ _ _⟩;have R6:RA l.prog w K mg base C CK (λk=>findBy Ju es k) "choose" _:=⟨f47,_,Xi lR a47,Du (n:=0) B nany TB T F47 w63 (bki.mono<|by decide) (F63.b1 _) w56 (ksh.mono<|by decide)<|F56.b2 _ _,k47,F47.b4 _ _ _ _⟩;have R7:RA l.prog w K mg base C CK (λk=>findBy Ju es k) "ask" _:=⟨f48,_,Xi lR a48,Pz (n:=0) TB F48 w64 (bnm.mono<|by decide) (F64.b1 _) w65 cP (F65.b2 _ _) w66 cK<|F66.b2 _ _,k48,F48.b4 _ _ _ _⟩;have R8:RA l.prog w K mg base C CK (λk=>findBy Ju es k) "let" _:=⟨f49,_,Xi lR a49,Py (n:=2) F49,k49,F49.b4 _ _ _ _⟩;have kp:Yh l.prog w K mg base CX0 16 f2 _ _ (Tf C CK 13):=Q0 B nenumerate TB T F2 (F2.b3 _ _ _) m2 w63 (bki.mono<|by decide) (F63.b1 _) w54 (knm.mono<|by decide) (F54.b1 _) ⟨f1,_,m1,k1,F1.b1 _,pA.mono<|by decide⟩ mU (QE hIn lR kR) (λL=>LE L R1 R2 R3 R4 R5 R6 R7 R8) 13;have apG:Yh l.prog w K mg base CX0 3 f7 _ _ (WP CK):=IN (n:=2) B T F7 q9 r9 ⟨f4,_,m4,k4,F4.b1 _,naG⟩ w54 (knm.mono<|by decide)<|F54.b1 _;have ap:Yh l.prog w K mg base CX0 3 f7 _ _ (Mf CK):=apG.sub Ir;have rc:Yh l.prog w K mg base CX0 2 f8 _ _ (U9 CK):=N7 (n:=1) B T F8 w55 kwo<|F55.b2 _ _;have ro:Yh l.prog w K mg base CX0 2 f9 _ _ (X9 CK):=N6 (n:=1) B T F9 w55 kwo<|F55.b2 _ _;have ih:Yh l.prog w K mg base CX0 4 f61 _ _ (Me C CK):=Li (n:=3) TB T F61 ⟨f4,_,m4,k4,F4.b1 _,na.mono<|by decide⟩ ⟨f7,_,m7,k7,F7.b2 _ _,ap⟩ w54 (knm.mono<|by decide)<|F54.b1 _;have th:Yh l.prog w K mg base CX0 5 f60 _ _ (Ko C CK):=Lh (n:=4) B nenumerate TB F60 q8 r8 q10 r10 q11 r11 w61 ih (F61.b4 _ _ _ _) ⟨f8,_,m8,k8,F8.b2 _ _,rc.mono<|by decide⟩ ⟨f9,_,m9,k9,F9.b2 _ _,ro.mono<|by decide⟩;have cb:Yh l.prog w K mg base CX0 17 f62 _ _ (Sa C CK):=AQ (n:=16) B nenumerate TB F62 w64 (bnm.mono<|by decide) (F64.b1 _) ⟨f2,_,m2,k2,F2.b3 _ _ _,kp⟩;have bi:Yh l.prog w K mg base CX0 18 f59 _ _ (SZ C CK):=AO (n:=17) (m:=5) (by decide) TB F59 ⟨caCK.ma,w50.1,w50.2,caCK.kc⟩ mC ini (F50.b2 _ _) w60 (th.mono<|by decide) (F60.b2 _ _) w62 cb<|F62.b1 _;have pl:Yh l.prog w K mg base CX0 6 f10 _ _ (Fe 5):=Qn nenumerate F10 (F10.b1 _) m10 ⟨f1,_,m1,k1,F1.b1 _,pA⟩ 5;have pt:Yh l.prog w K mg base CX0 2 f11 _ _ Wr:=Dt (n:=1) F11 ⟨f1,_,m1,k1,F1.b1 _,pA⟩;have kw:Yh l.prog w K mg base CX0 17 f13 _ _ (Nv C CK):=Ck (n:=16) F13 ⟨f2,_,m2,k2,F2.b3 _ _ _,kp⟩;have ka:Yh l.prog w K mg base CX0 18 f15 _ _ (Nv C CK):=Cq (n:=17) B F15 ⟨f13,_,m13,k13,F13.b3 _ _ _,kw⟩ ⟨f10,_,m10,k10,F10.b1 _,pl.mono<|by decide⟩ ⟨f11,_,m11,k11,F11.b2 _ _,pt.mono<|by decide⟩ ⟨f4,_,m4,k4,F4.b1 _,na.mono<|by decide⟩;have ko:Yh l.prog w K mg base CX0 1 f14 _ _ Km:=Co (n:=0) F14;have ot:Yh l.prog w K mg base CX0 2 f12 _ _ (Kl CK):=AJ (n:=1) T F12 w54 knm (F54.b1 _) w56 ksh<|F56.b2 _ _;have rn:Yh l.prog w K mg base CX0 1 f74 _ _ (Kg CW):=Cc (n:=0) B TW F74;have rk:Yh l.prog w K mg base CX0 1 f75 _ _ (Kh CW):=Cd (n:=0) TW F75;have rkx:Yh l.prog w K mg base (CX1 l.prog w) 1 f75 _ _ (EZ CW a1'):=AG (n:=0) TW XX.m1 YY.isx F75;have rh:Yh l.prog w K mg base CX0 4 f70 _ _ (Kj CW C CK):=AH (n:=3) B TW TB F70 w63 (bki.mono<|by decide) (F63.b1 _) ⟨f4,_,m4,k4,F4.b1 _,naG.mono<|by decide⟩ ⟨f7,_,m7,k7,F7.b2 _ _,apG⟩ ⟨f14,_,m14,k14,F14.b1 _,ko.mono<|by decide⟩ ⟨f12,_,m12,k12,F12.b2 _ _,ot.mono<|by decide⟩;have rb:Yh l.prog w K mg base CX0 21 f72 _ _ (Kk CW C CK 3):=Qm (L:=18) B TW TB T F72 (by decide) w72 (F72.b4 _ _ _ _) w63 (bki.mono<|by decide) (F63.b1 _) w56 (ksh.mono<|by decide) (F56.b2 _ _) w75 (rk.mono<|by decide) (F75.b2 _ _) ⟨f15,_,m15,k15,F15.b3 _ _ _,ka⟩ ⟨f14,_,m14,k14,F14.b1 _,ko.mono<|by decide⟩ 3;have ni:Yh l.prog w K mg base CX0 1 f76 _ _ (Nt N "number"):=F0 (n:=0) F76 xc v2;have rt:Yh l.prog w K mg base (CX1 l.prog w) 5 f69 _ _ (SS CW C CK N):=Ca (n:=3) B nenumerate TW F69 q12 r12 XX.mN xc v5 w76.2 (ni.mono<|by decide) (F76.b2 _ _) w70 rh<|F70.b4 _ _ _ _;have rC:Yh l.prog w K mg base (CX1 l.prog w) 22 f71 _ _ (SU CW C CK N):=Cg (n:=20) B nenumerate TW F71 XX.mN xc v5 w76.2 (ni.mono<|by decide) (F76.b2 _ _) w74 (rn.mono<|by decide) (F74.b1 _) w72 rb<|F72.b4 _ _ _ _;have rS:Yh l.prog w K mg base (CX1 l.prog w) 3 f73 _ _ (ST CW C CK N):=Cb (n:=1) B nenumerate TW TB F73 q13 r13 XX.mN xc v5 w76.2 ni (F76.b2 _ _) w74 (rn.mono<|by decide) (F74.b1 _) w63 (bki.mono<|by decide) (F63.b1 _) ⟨f8,_,m8,k8,F8.b2 _ _,rc⟩;have rI:Yh l.prog w K mg base (CX1 l.prog w) 23 f68 _ _ (Ki CW C CK N):=Ce (n:=22) TW F68 w69 (rt.mono<|by decide) (F69.b2 _ _) w71 rC (F71.b1 _) w73 (rS.mono<|by decide)<|F73.b1 _;have fi:Yh l.prog w K mg base CX0 1 f16 _ _ Bv:=P3 (n:=0) F16;have nx:Yh l.prog w K mg base CX0 2 f17 _ _ (Jx K):=Pu (n:=1) B F17 ⟨f16,_,m16,k16,F16.b2 _ _,fi⟩;have ls:Yh l.prog w K mg base CX0 3 f18 _ _ (Nu K):=AL (n:=2) B F18 ⟨f17,_,m17,k17,F17.b2 _ _,nx⟩;have sw:Yh l.prog w K mg base CX0 4 f19 _ _ (Uv K):=Fy (n:=3) F19 ⟨f18,_,m18,k18,F18.b3 _ _ _,ls⟩;have fl:Yh l.prog w K mg base CX0 1 f21 _ _ Md:=P2 (n:=0) F21;have tO:Yh l.prog w K mg base CX0 1 f22 _ _ UQ:=Fw (n:=0) F22;have kD:Yh l.prog w K mg base CX0 5 f20 _ _ (Te K):=II (n:=4) B nsum F20 ⟨f17,_,m17,k17,F17.b2 _ _,nx.mono<|by decide⟩ ⟨f19,_,m19,k19,F19.b2 _ _,sw⟩ ⟨f18,_,m18,k18,F18.b3 _ _ _,ls.mono<|by decide⟩;have hD:Yh l.prog w K mg base CX0 5 f23 _ _ (Th K):=IK (n:=4) B F23 ⟨f17,_,m17,k17,F17.b2 _ _,nx.mono<|by decide⟩ ⟨f19,_,m19,k19,F19.b2 _ _,sw⟩;have rH:Yh l.prog w K mg base CX0 5 f26 _ _ (Br K):=Pq (n:=4) B F26 ⟨f17,_,m17,k17,F17.b2 _ _,nx.mono<|by decide⟩ ⟨f19,_,m19,k19,F19.b2 _ _,sw⟩;have sd:Yh l.prog w K mg base CX0 10 f24 _ _ (Xd K 5):=El B F24 ⟨f17,_,m17,k17,F17.b2 _ _,nx.mono<|by decide⟩ ⟨f22,_,m22,k22,F22.b2 _ _,tO.mono<|by decide⟩ (F24.b5 _ _ _ _ _) m24 5;have dD:Yh l.prog w K mg base CX0 11 f25 _ _ (Bw K):=P4 (n:=10) B F25 ⟨f24,_,m24,k24,F24.b5 _ _ _ _ _,sd⟩;have rB:Yh l.prog w K mg base CX0 13 f27 _ _ (Wq K 3):=Em (L:=10) B F27 ⟨f17,_,m17,k17,F17.b2 _ _,nx.mono<|by decide⟩ ⟨f24,_,m24,k24,F24.b5 _ _ _ _ _,sd⟩ (F27.b6 _ _ _ _ _ _) m27 3;have rD:Yh l.prog w K mg base CX0 14 f28 _ _ (MZ K):=LW (n:=13) B F28 ⟨f26,_,m26,k26,F26.b2 _ _,rH.mono<|by decide⟩ ⟨f27,_,m27,k27,F27.b6 _ _ _ _ _ _,rB⟩;have fr:Yh l.prog w K mg base CX0 4 f29 _ _ (Bu K):=P1 (n:=3) F29 ⟨f18,_,m18,k18,F18.b3 _ _ _,ls⟩;have s1':Yh l.prog w K mg base CX0 5 f30 _ _ (Xc K):=Fz (n:=4) F30 ⟨f29,_,m29,k29,F29.b3 _ _ _,fr⟩;have bh:Yh l.prog w K mg base CX0 6 f31 _ _ (Eb K):=AR (n:=5) B nmin F31 ⟨f17,_,m17,k17,F17.b2 _ _,nx.mono<|by decide⟩ ⟨f30,_,m30,k30,F30.b2 _ _,s1'⟩ ⟨f19,_,m19,k19,F19.b2 _ _,sw.mono<|by decide⟩;have bb':Yh l.prog w K mg base CX0 6 f32 _ _ (Ec K):=AS (n:=5) F32 ⟨f30,_,m30,k30,F30.b2 _ _,s1'⟩;have ke:Yh l.prog w K mg base CX0 1 f39 _ _ (SV N):=Cp (n:=0) B XX F39;have rf:Yh l.prog w K mg base CX0 30 f40 _ _ (O3 C CK):=Cf (n:=29) (m:=23) (by decide) (by decide) B XX F40 ⟨caCW.ma,w68.1,w68.2,caCW.kc⟩ mV rI (F68.b3 _ _ _) ⟨f39,_,m39,k39,F39.b1 _,ke.mono<|by decide⟩;have sr:Yh l.prog w K mg base CX0 2 f33 _ _ (Ke CW):=AF (n:=1) B XX YY TW F33 w75 rkx<|F75.b2 _ _;have rg:Yh l.prog w K mg base CX0 25 f34 _ _ (Kf C CK):=AI (n:=24) (m:=23) (by decide) (by decide) B TW F34 ⟨caCW.ma,w68.1,w68.2,caCW.kc⟩ mV rI (F68.b3 _ _ _) w74 (rn.mono<|by decide) (F74.b1 _) w75 (rk.mono<|by decide) (F75.b2 _ _) ⟨f33,_,m33,k33,F33.b2 _ _,sr.mono<|by decide⟩;have gr:Yh l.prog w K mg base CX0 2 f35 _ _ Kn:=AN (n:=1) B F35 ⟨f22,_,m22,k22,F22.b2 _ _,tO⟩;have fo:Yh l.prog w K mg base CX0 2 f36 _ _ SX:=Ct (n:=1) B F36 ⟨f22,_,m22,k22,F22.b2 _ _,tO⟩;have gR:Yh l.prog w K mg base CX0 31 f37 _ _ (SW K C CK):=Cr (n:=30) B F37 ⟨f17,_,m17,k17,F17.b2 _ _,nx.mono<|by decide⟩ ⟨f21,_,m21,k21,F21.b1 _,fl.mono<|by decide⟩ ⟨f35,_,m35,k35,F35.b3 _ _ _,gr.mono<|by decide⟩ ⟨f36,_,m36,k36,F36.b2 _ _,fo.mono<|by decide⟩ ⟨f40,_,m40,k40,F40.b2 _ _,rf⟩ ⟨f32,_,m32,k32,F32.b3 _ _ _,bb'.mono<|by decide⟩ ⟨f31,_,m31,k31,F31.b4 _ _ _ _,bh.mono<|by decide⟩;have bS:Yh l.prog w K mg base CX0 18 f38 _ _ (SY C CK):=Cu (n:=17) (by decide) B TB F38 ⟨f22,_,m22,k22,F22.b2 _ _,tO.mono<|by decide⟩ ⟨f13,_,m13,k13,F13.b3 _ _ _,kw⟩ w64 (bnm.mono<|by decide)<|F64.b1 _;exact AM (n:=31) (mB:=18) (by decide) B F41 ⟨f17,_,m17,k17,F17.b2 _ _,nx.mono<|by decide⟩ ⟨f20,_,m20,k20,F20.b1 _,kD.mono<|by decide⟩ ⟨f21,_,m21,k21,F21.b1 _,fl.mono<|by decide⟩ ⟨f23,_,m23,k23,F23.b2 _ _,hD.mono<|by decide⟩ ⟨f25,_,m25,k25,F25.b2 _ _,dD.mono<|by decide⟩ ⟨f28,_,m28,k28,F28.b2 _ _,rD.mono<|by decide⟩ ⟨f30,_,m30,k30,F30.b2 _ _,s1'.mono<|by decide⟩ ⟨f34,_,m34,k34,F34.b3 _ _ _,rg.mono<|by decide⟩ ⟨f32,_,m32,k32,F32.b3 _ _ _,bb'.mono<|by decide⟩ ⟨f31,_,m31,k31,F31.b4 _ _ _ _,bh.mono<|by decide⟩ ⟨f40,_,m40,k40,F40.b2 _ _,rf.mono<|by decide⟩ ⟨f37,_,m37,k37,F37.b5 _ _ _ _ _,gR⟩ ⟨f38,_,m38,k38,F38.b4 _ _ _ _,bS.mono<|by decide⟩ ⟨caC.ma,w59.1,w59.2,caC.kc⟩ mB bi<|F59.b3 _ _ _
def goes{l:W.OpenLaw}{q:Program}{loose:kq}{XP:(Str->Option Value)->Heap->Prop}{YP:World->Heap->Prop}{d:DefRec}{K:Params->W.Frag}(hn:l.most=some 63)(hdf:d.params.defaults=[])(hY:∀(w:World)(h:Heap),YP w h->(K w.params).In h)(F:∀(w:World)(mg:Str->Option Value)(fa:Addr)(h:Heap),(K w.params).In h->h.Ns mainGlobals mg->mg d.name=some (.ref fa)->
   ∃fd:FuncData,(∀(s:Shared)(u:Value),BindsTo s fd ⟨[u],[]⟩ [("script",u)])/\∀base:Heap,(K w.params).In base->base.Ns mainGlobals mg->Yh l.prog w (K w.params) mg base CX0 32 fa fd ["script"] (Ea<|K w.params)):
  W.WalkO q loose XP YP l.row.toRowW d [] (λf vs=>PySem.call f vs):=
 L2.walk_of (n:=63) (k:=32) (x:="script") (CX:=λ_=>CX0) (sp:=λw=>Ea<|K w.params) hn (by decide) hdf ⟨rfl,by decide,by decide⟩ hY F (λ_ _ a ns hl _ hS=>⟨a,ns,hS,λ_=>rfl⟩) λ_ _ _ _ _ z=>z
end K4
end
namespace PySem.W.Fast
def tw1928860816459591622:=()
def tw13865407389226400717:=()
def tw623656887802246410:=()
def tw6260792854384509156:=()
def tw4250917516135007156:=()
def tw11592038771402504421:=()
def tw1203989513592545416:=()
def tw6869360279506462410:=()
def tw12249354548895295361:=()
def tw3397852211940256723:=()
def tw8591203196223900066:=()
def tw12647139269633059733:=()
def tw9219474523227710612:=()
def tw6604078280981323160:=()
def tw17401392068425757232:=()
def tw4954518998379359862:=()
def tw1928342957084744788:=()
def tw8820067043236117551:=()
def tw7759715764147856048:=()
def tw6504057839159250774:=()
def tw18222627844116928087:=()
def tw4257440191165554948:=()
def tw16995975931208515492:=()
def tw14651306029417856832:=()
def tw17005739321046648087:=()
def tw7359081661712734392:=()
def tw919360472638760184:=()
def tw175113970683372176:=()
def tw14707354477248860508:=()
def tw10790612972305915393:=()
def tw1132074940266254220:=()
def tw5690582793092639911:=()
def tw5722571369033921973:=()
def tw3779421928707670029:=()
def tw3382214866835933516:=()
def tw16876581067180990576:=()
def tw804439989542157015:=()
def tw16829869096149281962:=()
def tw13348300178943854033:=()
def tw5408128731195666623:=()
def tw5293404549713376384:=()
def tw3834088769623984601:=()
def tw6283867129629231632:=()
def tw7592068961534885857:=()
def tw6287506342157120301:=()
def tw16054866147116864020:=()
def tw13038459729780580044:=()
def tw2484416470010432436:=()
def tw9713895401899210119:=()
def tw12353891412536291761:=()
def tw2840182431949583811:=()
def tw11583468036992713082:=()
def tw12288499852332307064:=()
def tw6005571372897050127:=()
def tw3599577575141334695:=()
def tw15273652859111079111:=()
def tw18249172854053610369:=()
def tw16926775918780429907:=()
def tw17258651606160436931:=()
def tw9429569220837035278:=()
def tw6763084207850347754:=()
def tw14736686558041654228:=()
def tw3604295169700116765:=()
def tw8852913519225571389:=()
def tw2853296467371868062:=()
def tw8162194454335646032:=()
def tw1759881743957726306:=()
def tw10794256400426721210:=()
def tw16336957295121316549:=()
def tw8691702672014520027:=()
def tw7972108295411425815:=()
def tw15653135197531627345:=()
def tw3855091809708805789:=()
def tw7477432998900816487:=()
def tw15123984612331777367:=()
def tw13654001467332770671:=()
def tw1199662900766719486:=()
def tw13722405455017237895:=()
def tw5290043964394466900:=()
def tw391529617872849068:=()
def tw9041634939544038147:=()
def tw7778702130343017254:=()
def tw11443050711219449704:=()
def tw11085135364846554934:=()
def tw12221928122143989946:=()
def tw7642665938797044950:=()
def tw12975956760934310440:=()
def tw7874749457061791397:=()
def tw13747795861757085778:=()
def tw17717283383663943616:=()
def tw8210474874580793920:=()
def tw334851939688208918:=()
def tw3619007941721075375:=()
def tw13214363769223662368:=()
def tw4014867248336487710:=()
def tw12785164961961564287:=()
def tw8138197036542706315:=()
def tw4681407777869351206:=()
def tw2174264820096108327:=()
def tw4601245808490667790:=()
def tw13762916540360782402:=()
def tw9207274387222772702:=()
def tw4169813124206864446:=()
def tw11767658792071554304:=()
def tw4723888716236525850:=()
def tw2979938330440510369:=()
def tw13152050861758779501:=()
def tw1000197725650798758:=()
def tw3677086994662578195:=()
def tw5426442953485637773:=()
def tw14462500423103933765:=()
def tw8857222719905402488:=()
def tw6363637291890586400:=()
def tw4322947587860439633:=()
def tw5493714701561557078:=()
def tw5196647605441971797:=()
def tw15178151811283719714:=()
def tw17776921452516937647:=()
def tw12404527317937791009:=()
def tw3573756047976050200:=()
def tw17782897290283843516:=()
def tw4505991048482267390:=()
def tw9763668555207880733:=()
def tw17376531167906937718:=()
def tw8859769309323463251:=()
def tw11453379848666250909:=()
def tw11672904528901875107:=()
def tw1278686137720149660:=()
def tw16411170667513647794:=()
def tw9983330089091896029:=()
def tw10602292535629681921:=()
def tw16729917758270950148:=()
def tw695468727170681019:=()
def tw14020796512055800845:=()
def tw4299351963927972324:=()
def tw5736705429800095309:=()
def tw6953674043657559396:=()
def tw9228116260798215124:=()
def tw954265566719953830:=()
def tw15950349928010896603:=()
def tw18287553958419287729:=()
def tw13462404725330163762:=()
def tw14001365886218579121:=()
def tw10334703076599959532:=()
def tw1936595177559957092:=()
def tw11545566591152472735:=()
def tw16438469226907519437:=()
def tw16853746970531791080:=()
def tw8434062071979409466:=()
def tw14750125045810029754:=()
def tw17995463173430169550:=()
def tw1275241041961767149:=()
def tw8463134951644982583:=()
def tw14544540819408864135:=()
def tw9646581847247566980:=()
def tw11632407597494801356:=()
def tw3235262052344351952:=()
def tw11581622763292600491:=()
def tw16987581468607220115:=()
def tw8289121504686446102:=()
def tw13600885791270129260:=()
def tw766541567252466349:=()
def tw15678310304084201142:=()
def tw12667555074922690690:=()
def tw11098100548110230018:=()
def tw13148580378372594392:=()
def tw17320267832397809060:=()
def tw17841886687352361625:=()
def tw3395225401081563483:=()
def tw11597326437819673527:=()
def tw17437994677737866029:=()
def tw2947426542181580280:=()
def tw3353484171557543072:=()
def tw14296134871929762922:=()
def tw4152743783243345957:=()
def tw9986587873964909642:=()
def tw4240436353377826736:=()
def tw553170477230200382:=()
def tw14888322213952320876:=()
def tw10482583775048655407:=()
def tw799173191400653414:=()
def tw11375417160729518014:=()
def tw18011900812981057631:=()
def tw5048957083964397902:=()
def tw9962812578232482621:=()
def tw5974529635744237991:=()
def tw3557755265559316833:=()
def tw18263163292741925986:=()
def tw2654755396706247667:=()
def tw10150610212485532314:=()
def tw9055876800967253833:=()
def tw6485823517962843385:=()
def tw4414580664615718257:=()
def tw3407719581100471768:=()
def tw11242279841841487777:=()
def tw12472485493224115056:=()
def tw4780774341779980957:=()
def tw10637962097254669811:=()
def tw631799319080865045:=()
def tw6804267901381282463:=()
def tw2288114477949295861:=()
def tw10632108391115627644:=()
def tw17903118780391710081:=()
def tw14261950160552421387:=()
def tw10805347058300083972:=()
def tw7558394935909238119:=()
def tw7723833228127115150:=()
def tw16860025383771398959:=()
def tw3803616285210666762:=()
def tw8964323353537681707:=()
def tw4655571515550990120:=()
def tw4840584245370879032:=()
def tw17957524797477713654:=()
def tw15851299419788128911:=()
def tw1767598171396144005:=()
def tw13792269698724256937:=()
def tw12906390549576181757:=()
def tw13251792592521630493:=()
def tw1986301782572890804:=()
def tw7455375753228385730:=()
def tw16545680493978632372:=()
def tw17544390564049365630:=()
def tw3874226943499087915:=()
def tw8322873024847015825:=()
def tw1543218033483133670:=()
def tw11185942510345918939:=()
def tw12071651805330193056:=()
def tw10860689885514613117:=()
def tw1335308100593432377:=()
def tw13061592938937355369:=()
def tw1091268765392324957:=()
def tw17269597215366468731:=()
def tw10543665229466316364:=()
def tw2297215123645373426:=()
def tw13832311553052819006:=()
def tw13885018881205165012:=()
def tw1108191128077169104:=()
def tw12767369232382719276:=()
def tw5182139391793256108:=()
def tw14582265722532617066:=()
def tw10581670308767990859:=()
def tw14478973973319831116:=()
def tw8977610089858185813:=()
def tw13190784327028164461:=()
def tw14712848201875542037:=()
def tw2769451008595040615:=()
def tw4727359965664244268:=()
def tw3071614388798171823:=()
def tw15947497235006057925:=()
def tw5444277450375034590:=()
def tw12317832659076958924:=()
def tw7945614937796669891:=()
def tw2120856020421956401:=()
def tw17981428881300351018:=()
def tw8770600959014807448:=()
def tw29286757234997585:=()
def tw16814232204782380997:=()
def tw5959174828071465764:=()
def tw9292526639837804545:=()
def tw18294041298103489295:=()
def tw16062495427328684338:=()
def tw8143783000135717595:=()
def tw1249313730546369349:=()
def tw17156363287257585757:=()
def tw847401272938319733:=()
def tw5727143000051693511:=()
def tw13214410815432809864:=()
def tw14822364389071674829:=()
def tw16323044412164526010:=()
def tw3391992643299356598:=()
def tw10459952539542254950:=()
def tw17717497474394168250:=()
def tw9702427389609470758:=()
def tw6717151626151297001:=()
def tw875990299142917247:=()
def tw5934293847283743945:=()
def tw2769287902033608095:=()
def tw958814926679720812:=()
def tw382593994565588491:=()
def tw4357986564369983389:=()
def tw2760416368488182840:=()
def tw1836307891283002913:=()
def tw7504509557071088775:=()
def tw163765990285215331:=()
def tw8786231928141508421:=()
def tw15999721236519105865:=()
def tw13202228408914527051:=()
def tw13474339362708604871:=()
def tw697310492811090572:=()
def tw16396198524585837283:=()
def tw1318783452788201227:=()
def tw9001318514006118638:=()
def tw14954065209984185084:=()
def tw11671343501814275997:=()
def tw10064875729998222071:=()
def tw14140238013899737593:=()
def tw9372374643491088448:=()
def tw15811692470041166973:=()
def tw16706579199337489142:=()
def tw7159696502821931181:=()
def tw8647881262871905962:=()
def tw12517733710229762600:=()
def tw8791376016159338937:=()
def tw1176172569473776000:=()
def tw12775256712819851830:=()
def tw7243669299902518227:=()
def tw15355441910452182281:=()
def tw685796869407128685:=()
def tw17641089287304675127:=()
def tw9039994898246096312:=()
def tw7541640307479934519:=()
def tw14011740143585088479:=()
def tw10104633473912302159:=()
def tw3158416035397862440:=()
def tw6592194290337687504:=()
def tw9251054252264556376:=()
def tw10491408687403258969:=()
def tw8452051989553673745:=()
def tw17193070774562098603:=()
def tw15975875930893301369:=()
def tw7171266101904571702:=()
def tw4705019205743222218:=()
def tw10260544248464272391:=()
def tw10646317881024004521:=()
def tw7377278304203326623:=()
def tw12819418679852180326:=()
def tw8753014056453370928:=()
def tw14893795194358644339:=()
def tw7820511376877816137:=()
def tw5314682187080320059:=()
def tw15761059609108542961:=()
def tw5984618001834923930:=()
def tw11262635700516497016:=()
def tw17468682474679526770:=()
def tw917343759852026181:=()
def tw9515441252026667933:=()
def tw10590818340295038996:=()
def tw319818606632053958:=()
def tw17921017128273914996:=()
def tw3488628453977885505:=()
def tw16301327955099093267:=()
def tw8818930784119465574:=()
def tw293182283287222582:=()
def tw13654536194670705727:=()
def tw14953190914831168310:=()
def tw1307646703995355239:=()
def tw5339830844260723043:=()
def tw4175836515159402374:=()
def tw17873687244115358328:=()
def tw14955419163140864163:=()
def tw3195581268230023284:=()
def tw4334598787580962576:=()
def tw9811337563397031256:=()
def tw4914783031850726975:=()
def tw5732844607549165630:=()
def tw14354007957497849680:=()
def tw17947647472242451040:=()
def tw2166384761632249935:=()
def tw1353657973012826536:=()
def tw9899375446180800510:=()
def tw779522079356969036:=()
def tw1534287852356859897:=()
def tw2678190715542892818:=()
def tw6362238359712313369:=()
def tw993057900610657080:=()
def tw4214056340598221160:=()
def tw13913371647598356058:=()
def tw14632978924775586745:=()
def tw2362926653962652432:=()
def tw1448670425588063544:=()
def tw18354171983450201402:=()
def tw15153785790150708000:=()
def tw12217691067985835245:=()
def tw17362247309934449008:=()
def tw5423312032335700763:=()
def tw12191838752951748376:=()
def tw5963181474183013334:=()
def tw16186881658700288220:=()
def tw134941769737163364:=()
def tw7855494582489738239:=()
def tw9517762444226724150:=()
def tw7266765962524372873:=()
def tw10546034966854797018:=()
def tw3234721502135120041:=()
def tw3037581545141809318:=()
def tw5715930138090374815:=()
def tw16233659808169859868:=()
def tw15188559445687238671:=()
def tw8085054210836402879:=()
def tw10500904266225594424:=()
def tw13458635338978889718:=()
def tw574890382502473502:=()
def tw7844370524849565564:=()
def tw16996186385580142747:=()
def tw6127103654558015307:=()
def tw3110065449458968868:=()
def tw5761011964866344437:=()
def tw16314262695343837420:=()
def tw11210968738394684554:=()
def tw10720756537815255272:=()
def tw3885874641353060365:=()
def tw6653958370590489429:=()
def tw13148030681144089294:=()
def tw804590523121617:=()
def tw12297708843065436298:=()
def tw10794032887203755541:=()
def tw1307464536000900561:=()
def tw16170121748516269503:=()
def tw15190836403748537432:=()
def tw17210225400833509546:=()
def tw14931012655450910605:=()
def tw1526305046746151506:=()
def tw6790531830006209580:=()
def tw14297153217563483319:=()
def tw6026071358888626452:=()
def tw3322727163037604207:=()
def tw7164921079349092760:=()
def tw496422023421935925:=()
def tw6747571108860003182:=()
def tw15936188536608954881:=()
def tw10564061649909821428:=()
def tw16323031758939656617:=()
def tw16790088649744968933:=()
def tw11175584404805803794:=()
def tw10928475117541427692:=()
def tw1827725430887739184:=()
def tw12825913352810850489:=()
def tw8822687264194819941:=()
def tw9109299497266355534:=()
def tw9436925140859498271:=()
def tw11768227734473783782:=()
def tw16558446470196499585:=()
def tw2618913405135179626:=()
def tw9121320979259361893:=()
def tw12672474528842743814:=()
def tw15156154066722212713:=()
def tw17621531520214631144:=()
def tw4738733011754940485:=()
def tw11933298690641455993:=()
def tw4133229395985696312:=()
def tw14723715512978271821:=()
def tw2194888402539210010:=()
def tw14278682245973603734:=()
def tw7618404982812958656:=()
def tw10625197437929876827:=()
def tw5090156726798277338:=()
def tw1732325242487206549:=()
def tw3830220707139781491:=()
def tw2119270206066153262:=()
def tw8937435893973288002:=()
def tw3091724154732519700:=()
def tw15991180193481451951:=()
def tw15148772188423990664:=()
def tw5154803381883128623:=()
def tw18365818462155507796:=()
def tw579090894996190928:=()
def tw15158084611618809874:=()
def tw12271596823238110368:=()
def tw8968499608693105378:=()
def tw3956052326686382669:=()
def tw12564573934659405914:=()
def tw5426236759850316764:=()
def tw13423244952887951416:=()
def tw1124423642566460860:=()
def tw3218559749795130938:=()
def tw7394648970065841497:=()
def tw9854363330416959757:=()
def tw8219037505330414014:=()
def tw14293830435137423658:=()
def tw14189353861936022887:=()
def tw57264225877309848:=()
def tw8059423618911104660:=()
def tw9535316501194834245:=()
def tw5603047412678066451:=()
def tw10680975274466250250:=()
def tw14547503039208743165:=()
def tw2930147021541388285:=()
def tw10827526660328052752:=()
def tw16110802143849652461:=()
def tw12575152567157648409:=()
def tw16411235806672918090:=()
def tw14955964779998333445:=()
def tw11497433446137041985:=()
def tw4714800636025958599:=()
def tw5251282094188582577:=()
def tw12986598393788277944:=()
def tw7361108066087909636:=()
def tw12456506975947465231:=()
def tw1417279158596521441:=()
def tw3528368245450603322:=()
def tw9545111737778837533:=()
def tw5070584778993732142:=()
def tw5907536705175968695:=()
def tw8664158333105387577:=()
def tw6228318861325087092:=()
def tw829715005331283796:=()
def tw11737978432929095315:=()
def tw13489224403611313994:=()
def tw6866614610308329171:=()
def tw18106674078450122263:=()
def tw5777782880202644941:=()
def tw11162076644899531479:=()
def tw4748337456144154912:=()
def tw14520815292487643010:=()
def tw4058901303798091468:=()
def tw12699600055853367862:=()
def tw1941155218636063419:=()
def tw10798369272721926128:=()
def tw12367778855324095791:=()
def tw2882284083002320940:=()
def tw5942944385895396197:=()
def tw3069781751236866892:=()
def tw11278962159041694113:=()
def tw16297105040214539331:=()
def tw14511689507133262155:=()
def tw7013570807630394507:=()
def tw16233429771992978215:=()
def tw6779652107228947357:=()
def tw17363826444129294318:=()
def tw16349690198251169406:=()
def tw6573137039379733640:=()
def tw11839798981666912440:=()
def tw92082930562781832:=()
def tw6839806564412187598:=()
def tw17607148375574230244:=()
def tw1850278238450177575:=()
def tw2140471998033812027:=()
def tw12033067009006292903:=()
def tw3039295243800823006:=()
def tw3698276210294613531:=()
def tw2286132497432717808:=()
def tw7894153571659338174:=()
def tw6945263043516101199:=()
def tw1286862189288434201:=()
def tw16442879348413225042:=()
def tw6386094528023453659:=()
def tw7766068538327128376:=()
def tw10870520503227668424:=()
def tw5606381137615313346:=()
def tw17533366235583937747:=()
def tw5446767299413479191:=()
def tw7465712215053981408:=()
def tw15552477529295071409:=()
def tw11623732883975300550:=()
def tw4081976699522717513:=()
def tw527527207454810534:=()
def tw16744512840631438026:=()
def tw7389107745302029266:=()
def tw7530051655713918893:=()
def tw8912605238069521547:=()
def tw11892009824624352619:=()
def tw4188768859429047709:=()
def tw15575804131247913276:=()
def tw8794729836348927178:=()
def tw17375429709470411606:=()
def tw13179733351374624595:=()
def tw7141190561593990768:=()
def tw14791160456276889345:=()
def tw1536633176061257872:=()
def tw10691913668990449225:=()
def tw1871099952031574636:=()
def tw10879799959832898897:=()
def tw2610974237701714635:=()
def tw15398019849539079249:=()
def tw10794869182504268461:=()
def tw4286234581652168611:=()
def tw9937803077771569375:=()
def tw3759873784959965408:=()
def tw1638728912034114636:=()
def tw7360282822054989909:=()
def tw10073157016756345267:=()
def tw8400318894782761617:=()
def tw15396406797256432910:=()
def tw15738813194037659377:=()
def tw17201508253650312679:=()
def tw12278399909436722110:=()
def tw16676800571527266660:=()
def tw1301998981548871322:=()
def tw17998139161174002240:=()
def tw14937892197684292098:=()
def tw1081685499505465742:=()
def tw10126015712718956300:=()
def tw13186566182125272576:=()
def tw13402521077676722449:=()
def tw5040879672785443878:=()
def tw288269227188854854:=()
def tw5621192367364684219:=()
def tw8845805174014688201:=()
def tw10416220459439972582:=()
def tw779613969833044245:=()
def tw8708620761113565438:=()
def tw12223865145085061026:=()
def tw7278041293257107776:=()
def tw8343156056347360397:=()
def tw15736122870818975021:=()
def tw5582288935546154018:=()
def tw8158358237283649221:=()
def tw7359893132446768957:=()
def tw9857119254585182334:=()
def tw2996210803451487771:=()
def tw15658998802799935285:=()
def tw16809209602036613546:=()
def tw5749104737613321209:=()
def tw14108656255219625037:=()
def tw14534275664912545803:=()
def tw4237420158059279618:=()
def tw9953402023083355079:=()
def tw17760757105265392691:=()
def tw15963824406788186413:=()
def tw14618546764987866806:=()
def tw9617076865554466968:=()
def tw6760153630182134763:=()
def tw3236182244204099342:=()
def tw18052110455306489240:=()
def tw3060345801412844300:=()
def tw2417652091883641581:=()
def tw3730825702607449891:=()
def tw2244741349438264298:=()
def tw5597041172620603176:=()
def tw6795377627126632760:=()
def tw11050896224387130102:=()
def tw14716976697797964963:=()
def tw8517919646093012796:=()
def tw3648479875863093547:=()
def tw4779699246237860702:=()
def tw1112919917891005761:=()
def tw14354881749005746444:=()
def tw12921331886629513378:=()
def tw14261766139794625245:=()
def tw18382742479452555094:=()
def tw17126318662874200728:=()
def tw3229558372249005753:=()
def tw12368595425390370747:=()
def tw9627559712295956424:=()
def tw6898022862013512563:=()
def tw4714131574347871128:=()
def tw16824057151403069154:=()
def tw9558686613722289383:=()
def tw13554765665130281543:=()
def tw16900171240711150870:=()
def tw11050369217612001230:=()
def tw7962577986766524362:=()
def tw9467873425580346247:=()
def tw633592219594761558:=()
def tw12007655579157039769:=()
def tw4097238408235687998:=()
def tw1977680272948230434:=()
def tw13915095592604229252:=()
def tw9709902817646175775:=()
def tw15850700619200029523:=()
def tw18210357783564295058:=()
def tw11553038679057023024:=()
def tw14747068752411850394:=()
def tw6352083627526842048:=()
def tw10383549417994493629:=()
def tw8830209573761608038:=()
def tw13635436721321520202:=()
def tw9160979761992584139:=()
def tw17417642857837294925:=()
def tw14883087765704715935:=()
def tw2322112895499041496:=()
def tw13984142359564934055:=()
def tw10413671265247491070:=()
def tw4055901299878065493:=()
def tw13274540372495649711:=()
def tw17749393614540084274:=()
def tw3357939574966995965:=()
def tw17165708801709996545:=()
def tw9932968892069985444:=()
def tw17736534329600608645:=()
def tw13172865647888027649:=()
def tw13525824657809679970:=()
def tw12182733273562892772:=()
def tw9891958992379695894:=()
def tw3214275694063001896:=()
def tw8171900604375737377:=()
def tw13018300282933668489:=()
def tw16793831824674785712:=()
def tw3075472514330034074:=()
def tw8249120008079763918:=()
def tw18423937320519794631:=()
def tw16783440190210760152:=()
def tw10314313135612532971:=()
def tw2684326927223938025:=()
def tw3125299052230843528:=()
def tw15179885941514295992:=()
def tw12382881708950449175:=()
def tw3612583027366562095:=()
def tw8249641251291868694:=()
def tw10486330618721150656:=()
def tw4201953183515015814:=()
def tw4203707834576924126:=()
def tw5654618445994698580:=()
def tw3527906252070245537:=()
def tw4778894818242268059:=()
def tw173119677740523448:=()
def tw279614867031940783:=()
def tw2993998025616830625:=()
def tw14110557417375473128:=()
def tw12014578516315920193:=()
def tw13748604522455366641:=()
def tw2366768152215432986:=()
def tw1989126101503044347:=()
def tw14596382132792193138:=()
def tw1655043799314892741:=()
def tw3875583951307975242:=()
def tw14021485826368321357:=()
def tw2476667155285999297:=()
def tw8148396094664939114:=()
def tw9798171499481196674:=()
def tw3234555807916394248:=()
def tw17068715917065992598:=()
def tw7247082062545418263:=()
def tw15107909943135146719:=()
def tw443504045853961382:=()
def tw8736504291657711172:=()
def tw7916314326690660964:=()
def tw1473930254349959928:=()
def tw4811246239861055932:=()
def tw2391533382545678039:=()
def tw6098853858527521686:=()
def tw11473095944822811663:=()
def tw6553553781599266630:=()
def tw9999686403200314923:=()
def tw12156942635684898961:=()
def tw15188848455781019956:=()
def tw13042460679986438488:=()
def tw10402832679534928188:=()
def tw12793888105138554907:=()
def tw13850835895340293872:=()
def tw7742467911945764143:=()
def tw118157939654647566:=()
def tw4307767992127246139:=()
def tw7477333600415853983:=()
def tw10472649312874086415:=()
def tw87225211094552495:=()
def tw9708332171014782239:=()
def tw14553419945641665215:=()
def tw9631600994568434395:=()
def tw26471406921121142:=()
def tw6337867984215403914:=()
def tw16018012510367419921:=()
def tw1887880718316067061:=()
def tw6091419051466389417:=()
def tw1353742847485964608:=()
def tw9251649381563445620:=()
def tw12710532480445290951:=()
def tw2120394675984381649:=()
def tw4251911458543066701:=()
def tw7961355947536390594:=()
def tw9740022425151390595:=()
def tw14311453454552141755:=()
def tw16681308756248178385:=()
def tw11250242186179621053:=()
end PySem.W.Fast
set_option tactic.hygienic true
open PySem PySem.W PyProof.Rows
set_option maxRecDepth 100000 in
set_option maxHeartbeats 0 in
theorem PySem.Challenge.cw_wantway_k65_no_rows_holds : PySem.Challenge.rw_wantway_k65_no_rows.Holds := by
  w_on; o_law; k_head; (case hw => w_witness2)
  k_fill
  refine K4.goes (l := PySem.Challenge.rw_wantway_k65_no_rows) rfl rfl (fun w h Y => PySem.W.kIn_of Y) ?F
  case F =>
    intro w mg fa h KX G hmg
    refine' K4.all_at KX G hmg ?_ ?_ ?_ ?_ ?_ ?_ ?_ ?_ ?_ ?_ ?_ ?_ ?_ ?_ ?_ ?_ ?_ ?_ ?_ ?_ ?_ ?_ ?_ ?_ ?_ ?_ ?_ ?_ ?_ ?_ ?_ ?_ ?_ ?_ ?_ ?_ ?_ ?_ ?_ ?_ ?_ ?_ ?_ ?_ ?_ ?_ ?_ ?_ ?_ ?_ ?_ ?_ ?_ ?_ ?_ ?_ ?_ ?_ ?_ ?_ ?_ ?_ ?_ ?_ ?_ ?_ ?_ ?_ ?_ ?_ ?_ ?_ ?_ ?_ ?_ ?_ ?_ ?_ ?_ ?_ ?_ ?_ ?_ ?_ ?_ ?_ ?_ ?_ ?_ ?_ ?_ ?_ ?_ ?_ ?_ ?_ ?_ ?_ ?_ ?_ ?_ ?_ ?_ ?_ ?_ ?_ ?_ ?_ ?_ ?_ ?_ ?_ ?_ ?_ ?_ ?_ ?_ ?_ ?_ ?_ ?_ ?_ ?_ ?_ ?_ ?_ ?_ ?_ ?_ ?_ ?_ ?_ ?_ ?_ ?_ ?_ ?_ ?_ ?_ ?_ ?_ ?_ ?_ ?_ ?_ ?_ ?_ ?_ ?_ ?_ ?_ ?_ ?_ ?_ ?_ ?_ ?_ ?_ ?_ ?_ ?_ ?_ ?_ ?_ ?_ ?_ ?_ ?_ ?_ ?_ ?_
    any_goals first | k_is | (refine' And.intro ?zz0 (K4.At.of ?zz1 ?zz2 ?zz3); (case zz0 => first | k_is | (constructor <;> k_is)); (case zz1 => k_is); (case zz2 => k_is); (case zz3 => k_is)) | (unfold K4.GN; k_is) | (unfold K4.GC; k_is) | (unfold K4.GF; k_is) | (refine' And.intro ?zz0 ?zz1; (case zz0 => k_is); (case zz1 => exact ⟨_, rfl⟩)) | kit_is | k_exc | (refine K4.CA.mk ?_ ?_ ?_ ?_ ?_ ?_ <;> k_is) | (refine And.intro ⟨_, _, rfl, rfl⟩ ?_; k_keys) | kernel_rfl
