import PyProof.Rows.All
import Wide.All
import OpenK.AllK
import Wide.FinOn
import KE.KDictList
import KE.KDictOf
import KE.KEqDict
import KE.KRevSl
import KE.KSortTup
import KE.LcSums
import Lean
import PyProof.AttrMissSeq
import PyProof.DictWalks
import PyProof.EnumStmt
import PyProof.EqAt
import PyProof.EqKinds
import PyProof.ListOps
import PyProof.ListRange
import PyProof.NeKinds
import PyProof.Rows.ListMul
import PyProof.Rows.SumGenD
import PyProof.SeqRoads2
import PyProof.StrWalks
import PyProof.SumWalk
import PyProof.TupleCall
import PyProof.WalkInts
import PyProof.WalksMore
import PyProof.ZipIter
import PySem.Challenge.RW_wantway_k09_kinds_within
set_option Elab.async false
set_option linter.all false
set_option maxRecDepth 100000
set_option maxHeartbeats 8000000
set_option tactic.hygienic false
abbrev ZA:=@List.length_map
abbrev ZC:=@List.getElem?_eq_getElem
abbrev ZD:=@PySem.Heap.get?_push_of_some
abbrev ZE:=@List.getElem?_eq_some_iff
abbrev ZF:=@Nat.le_refl
abbrev ZG:=@List.getElem?_map
abbrev ZH:=@List.mem_of_getElem?
abbrev ZI:=@List.map_append
abbrev ZJ:=@List.length_append
abbrev ZK:=@List.mem_cons_of_mem
abbrev ZL:=@List.length_take
abbrev ZM:=@List.size_toArray
abbrev ZN:=@PySem.Heap.lt_size
abbrev ZO:=@List.mem_singleton
abbrev ZP:=@Option.some.inj
abbrev ZQ:=@List.mem_append_right
abbrev ZT:=@List.map_cons
abbrev ZU:=@List.mem_map
abbrev ZV:=@List.mem_append
abbrev ZW:=@PySem.Heap.get?_push_size
abbrev ZX:=@Bool.and_eq_true
abbrev ZY:=@List.mem_cons_self
abbrev ZZ:=@Nat.le_trans
abbrev Za:=@Nat.zero_le
abbrev Zb:=@List.mem_cons
abbrev Zc:=@Nat.ne_of_lt
abbrev Zd:=@List.length_cons
abbrev Ze:=@List.take_of_length_le
abbrev Zf:=@Nat.le_of_lt
abbrev Zg:=@Bool.false_ne_true
abbrev Zh:=@Option.map_eq_some_iff
abbrev Zi:=@List.mem_of_mem_take
abbrev Zj:=@PySem.wpAny_bind
abbrev Zk:=@PySem.wpAny_pure
abbrev Zl:=@PySem.wpAny_mono
abbrev Zm:=@PySem.wpAny_field
abbrev Zn:=@if_pos
abbrev Zo:=@if_neg
abbrev Zp:=@absurd
abbrev Zq:=@Ne.symm
abbrev Zr:=@of_decide_eq_true
abbrev Zs:=@PySem.boot_len
abbrev Zt:=@PySem.PassesOwn.never
abbrev Zu:=@Nat.not_lt_zero
abbrev Zv:=@Nat.lt_of_lt_of_le
abbrev Zw:=@decide_eq_false
abbrev Zx:=@PySem.F.plainAttrs_list
abbrev Zy:=@PySem.F.slot_list_append
abbrev Zz:=@PySem.F.type_list_append
theorem oq0{a b:Nat}:(a<=2/\b<=30)->a<3:=by intros;simp +arith [*]
theorem oq1{a b:Nat}:a+1+b=a+(b+1):=by intros;simp +arith [*]
theorem oq5{a b c:Nat}:a=min b c->c<=3->a<=3:=by lia
theorem oq7{a:Nat}: -2 ^ 64<(↑a:Int):=by omega
theorem oq9{a b:Nat}:b=a->a<=b:=by intros;simp +arith [*]
theorem zA{a b c:Nat}:a<c->c=b->a+1<=b:=by intros;subst_vars;first|assumption|exact ZF _|exact Za _|exact Nat.succ_pos _|rfl|decide
theorem yP{a b c:Nat}:a=min b c->c<=8->a<=8:=by lia
theorem Cs{a:Nat}:a<=40->a<=1000:=by intros;subst_vars;exact ZZ ‹_› (by decide)
theorem OE{a:Nat}:a<=8->a<=1000:=by intros;subst_vars;exact ZZ ‹_› (by decide)
theorem yO{a b c:Nat}:b<=8->a<=min c b->a<=1000:=by lia
theorem CS{a:Nat}:a<=11->a<13:=by lia
theorem yN{a:Nat}:1<=a->a=a-1+1:=by intros;simp +arith [*]
theorem Q6{a:Nat}:1<=a+1:=by intros;simp +arith [*]
theorem Q5{a:Int}:a<2->0<=a->a=0\/a=1:=by lia
theorem yM{a b c:Nat}:a<b->b=c->c<=8->a<8:=by intros;subst_vars;exact ZZ ‹_› ‹_›
theorem Ai{a b c d:Nat}:a=c->c=min b d->a<=b:=by lia
theorem yL{a b:Nat}:a=b->b<=3->a<=3:=by intros;simp +arith [*]
theorem Ac{a b:Nat}:a=b->b<=8->a<=8:=by intros;simp +arith [*]
theorem yK{a:Nat}:a=3->a<=4:=by intros;simp +arith [*]
theorem AY{a b:Nat}:b<8->a<=b->a<=1000:=by lia
theorem yJ{a:Nat}:a<=9+2->a<12:=by intros;simp +arith [*]
theorem yI{a:Nat}:a<=9+2->a<=18:=by lia
theorem RB{a b:Nat}:b<a->a-(b+1)<a-b:=by lia
theorem Il{a b:Nat}:a<=b->¬a<b->a=b:=by lia
theorem Q4{a b:Nat}:a<=b->a ≥ b->a=b:=by lia
theorem yH{a b:Nat}:min (a+1) (b+1)=min a b+1:=by intros;simp +arith [*]
theorem W3{a b c:Nat}:a<c->b=c->a<b:=by intros;simp +arith [*]
theorem AH{a b:Nat}:1+a<=b->a+1<=b:=by lia
theorem AG{a b:Nat}:b+1<=a->a=a-1+1:=by lia
theorem AE{a b:Nat}:a+1<=b+1->a<=b:=by lia
theorem OD{a b c:Nat}:c=b->c=a->a=b:=by intros;subst_vars;first|assumption|exact ZF _|exact Za _|exact Nat.succ_pos _|rfl|decide
theorem AD{a b c d:Nat}:a=c->b=d->c=d->a=b:=by intros;simp +arith [*]
theorem OC{a b c:Nat}:a<min b c->a<b:=by omega
theorem El{a b c:Nat}:a<c->c=b->a<b:=by lia
theorem Ik{a:Nat}:(↑(a+1):Int)-1=(↑a:Int):=by intros;simp +arith [*]
theorem Ek{a b:Nat}:a<=b->a<=b+1:=by lia
theorem yG{a b:Nat}:b=a->0<b->0<a:=by intros;subst_vars;first|assumption|exact ZF _|exact Za _|exact Nat.succ_pos _|rfl|decide
theorem Ij{a:Nat}:0<a->0<(↑a:Int):=by intros;simp +arith [*]
theorem Ej{a b:Nat}:a+(b+1)<=20->a+b<=20:=by lia
theorem yF{a b c:Nat}:b<c->a=b->c<=4->a<=1000:=by omega
theorem yE{a b:Nat}:a<b->a=min a b:=by omega
theorem Q3{a b c:Nat}:a<=c+2->b<=c+2->1+max a b<=c+1+2:=by lia
theorem Ii{a:Nat}:2<=a+2:=by intros;simp +arith [*]
theorem Q2{a b:Nat}:a+(b+1)<=20->a<=100:=by lia
theorem Q1{a b c:Nat}:(a<=2/\c<=30)->a<=b+1+2:=by lia
theorem OB{a b:Nat}:a=b+1->0<(↑a:Int):=by intros;simp +arith [*]
theorem yC{a b c:Nat}:b+1<=c->a=b+1->c<=8->(↑a:Int)<1073741824:=by omega
theorem yB{a b c:Nat}:b<c->a=b->c<=3->a<=1000:=by lia
theorem yA{a b c:Nat}:b=c->a=b->c<=3->a<=6:=by lia
theorem Q0{a b:Nat}:a<=b+2->1+a<=b+1+2:=by intros;simp +arith [*]
theorem AC{a b c:Nat}:c=b->a=c->a=b:=by lia
theorem AB{a:Nat}:a<=1->1+a<=2:=by intros;simp +arith [*]
theorem Ih{a:Nat}:3<=a+3:=by intros;simp +arith [*]
theorem zz{a:Nat}:2*a<=2*(a+1):=by intros;simp +arith [*]
theorem zy{a:Nat}:2*a+1<=2*(a+1):=by intros;simp +arith [*]
theorem zG{a b:Nat}:b<6->a<=2*b+1->a<=1000:=by lia
theorem zF{a:Nat}:2*a+1+1<=2*(a+1):=by intros;simp +arith [*]
theorem zE{a:Nat}:2*a<=2*a+1:=by intros;simp +arith [*]
theorem zD{a b:Nat}:b<6->a<=2*b->a<=1000:=by lia
theorem zC{a:Nat}:2*a+1<=2*a+1:=by intros;simp +arith [*]
theorem zB{a b c:Nat}:b=c->a<=2*b->c<=6->(↑a:Int)<1073741824:=by lia
theorem KH{a:Nat}:a<=a+1:=by intros;simp +arith [*]
theorem C9{a:Nat}:2<=a+3:=by intros;simp +arith [*]
theorem C8{a:Nat}:a<=4->a<=1000:=by intros;subst_vars;exact ZZ ‹_› (by decide)
theorem QK{a b:Nat}:a<=b->b<=4->a<=4:=by intros;subst_vars;exact ZZ ‹_› ‹_›
theorem Wx{a b:Nat}:a=b->0<b->0<(↑a:Int):=by intros;simp +arith [*]
theorem RU{a b:Nat}:a=b->b<=6->(↑a:Int)<1073741824:=by lia
theorem QJ{a b:Nat}:a+(b+1)<=20->a+1+b<=20:=by lia
theorem C7{a:Nat}:6+4*a+2<=8+4*a:=by intros;simp +arith [*]
theorem C6{a:Nat}:6+4*a+2<=6+4*a+2:=by intros;simp +arith [*]
theorem C5{a:Nat}:6<=6+4*a+2:=by intros;simp +arith [*]
theorem C4{a:Nat}:8+4*a<=6+4*a+2:=by intros;simp +arith [*]
theorem QI{a:Nat}:7+4*a+2<=6+4*a+3:=by intros;simp +arith [*]
theorem QH{a:Nat}:8+4*a+1<=6+4*a+3:=by intros;simp +arith [*]
theorem QG{a:Nat}:8+4*a<=6+4*a+3:=by intros;simp +arith [*]
theorem C3{a:Nat}:8+4*a+2<=10+4*a:=by intros;simp +arith [*]
theorem C2{a:Nat}:6<=10+4*a:=by intros;simp +arith [*]
theorem C1{a:Nat}:8+4*a+1<=10+4*a:=by intros;simp +arith [*]
theorem QF{a:Nat}:6+4*a+3+1<=10+4*a:=by lia
theorem C0{a:Nat}:6+4*a+2+1<=10+4*a:=by intros;simp +arith [*]
theorem Cz{a:Nat}:8+4*a<=10+4*a:=by intros;simp +arith [*]
theorem Cy{a:Nat}:9+4*a+2<=11+4*a:=by intros;simp +arith [*]
theorem Cw{a:Nat}:6<=11+4*a:=by intros;simp +arith [*]
theorem Cv{a:Nat}:10+4*a+1<=11+4*a:=by intros;simp +arith [*]
theorem Cu{a:Nat}:11+4*a+1<=8+4*(a+1):=by intros;simp +arith [*]
theorem Ct{a:Nat}:10+4*a+1<=8+4*(a+1):=by intros;simp +arith [*]
theorem Tj{a b c:Nat}:c=a->c<=b->a<=b:=by intros;subst_vars;first|assumption|exact ZF _|exact Za _|exact Nat.succ_pos _|rfl|decide
theorem QE{a:Int}:a<6->0<=a->a=0\/a=1\/a=2\/a=3\/a=4\/a=5:=by lia
theorem U1{a:Int}:0<=a->a=(↑a.toNat:Int):=by lia
theorem KF{a:Nat}: -2 ^ 62<=(↑a:Int):=by intros;simp +arith [*]
theorem Cr{a b:Nat}:a<(↑b:Int).toNat->b<=3->a<3:=by intros;subst_vars;exact ZZ ‹_› ‹_›
theorem D7{a:Nat}:a<=1000->(↑a:Int)<2 ^ 64:=by omega
theorem Cq{a b:Nat}:a<3->b=3->a<b:=by intros;simp +arith [*]
theorem Cp{a b c:Nat}:b<3->a=c->c<=b->a<=1000:=by lia
theorem Co{a b:Nat}:a<=(↑b:Int).toNat->b<=3->a<=3:=by intros;subst_vars;exact ZZ ‹_› ‹_›
theorem QD{a b c:Nat}:a=b->b=1+c->0<a:=by intros;simp +arith [*]
theorem KE{a:Nat}:6<=a+6:=by intros;simp +arith [*]
theorem QC{a:Nat}:1<=a->1<=(↑a:Int):=by lia
theorem RT{a b c d:Nat}:c<b+1->c=1+max a d->a<b:=by lia
theorem RS{a b c d:Nat}:c<b+1->c=1+max d a->a<b:=by lia
theorem Cm{a:Nat}:a<=4->1+a<=1000:=by lia
theorem WG{a:Nat}:a<=100->a<=1000:=by intros;subst_vars;exact ZZ ‹_› (by decide)
theorem Ck{a b c:Nat}:a<=b+c->c<=4->a<=b+4:=by lia
theorem KB{a:Nat}:1+(↑a:Int)=(↑(1+a):Int):=by intros;simp +arith [*]
theorem Cj{a:Nat}:1+a<=30->1+a<=1000:=by intros;subst_vars;exact ZZ ‹_› (by decide)
theorem Ci{a b:Nat}:a=b->1+b<=30->(↑a:Int)+1<=30:=by lia
theorem I0{a b c:Nat}:b=1+max a c->b<=2->a<3:=by omega
theorem QB{a b c:Nat}:b=1+max c a->b<=2->a<2:=by omega
theorem Iz{a b c:Nat}:b=1+max c a->b<=2->a<3:=by lia
theorem Cg{a b c:Nat}:a<=c+1->c<=4*b->a<=4*(b+1):=by lia
theorem QA{a b c:Nat}:a<=c+4->c<=4*b->a<=4*(b+1):=by lia
theorem Ww{a b:Nat}:a<=4*b->b<=6->a<=100:=by lia
theorem P9{a b:Nat}:a<=4*b->b<=6->a<=1000:=by lia
theorem Cf{a b c:Nat}:c=1+max a b->c<=2->1+max a b<=2:=by intros;subst_vars;exact ZZ ‹_› (by decide)
theorem P8{a b:Nat}:a=b->b<=30->a<=30:=by intros;simp +arith [*]
theorem Ce{a b:Nat}:b=1+a->b<=30->1+a<=30:=by intros;subst_vars;first|assumption|exact ZF _|exact Za _|exact Nat.succ_pos _|rfl|decide
theorem Cd{a b:Nat}:a<=b+1->a<=b+4:=by lia
theorem P7{a b:Nat}:a<1+b->b<4->a<4:=by lia
theorem Cc{a b:Nat}:b<=6->min a b<=6:=by lia
theorem P6{a b:Nat}:a<b+1->¬a<b->a=b:=by lia
theorem Iy{a b c:Nat}:b<c->a=min b c->a=b:=by lia
theorem Cb{a b c:Nat}:a<(↑c:Int).toNat->c=b->a<b:=by intros;subst_vars;first|assumption|exact ZF _|exact Za _|exact Nat.succ_pos _|rfl|decide
theorem P5{a:Nat}:0+(↑a:Int)=(↑a:Int):=by intros;simp +arith [*]
theorem P4{a b c d:Nat}:b<c->a=d->d=b->c<=6->a<=1000:=by lia
theorem Ca{a b:Nat}:4*a<=4*a+1+b:=by intros;simp +arith [*]
theorem CZ{a b c d:Nat}:c<d->b=4*d->(↑a:Int)<4->min (1+a) (b-4*c)=1+a:=by lia
theorem D6{a b c:Nat}:b<c->a<=b->c<=6->a<=1000:=by lia
theorem CY{a b:Nat}:a=1+b->(↑b:Int)<4->1+a<=1000:=by lia
theorem CW{a b:Nat}:a=1+b->1<=a:=by intros;simp +arith [*]
theorem CV{a b:Nat}:a=1+b->(↑b:Int)<4->a<=4:=by lia
theorem CU{a:Nat}:(↑a:Int)<4->a<4:=by omega
theorem CT{a b:Nat}:b<=1000->1+a<=b->1+a<=1000:=by intros;subst_vars;exact ZZ ‹_› ‹_›
theorem CQ{a b:Nat}:1+max a b<=2->1+max a b<=1000:=by intros;subst_vars;exact ZZ ‹_› (by decide)
theorem CP{a b c:Nat}:a<c->b=c->a<=b:=by omega
theorem CO{a:Nat}:0<0+(↑a:Int)->0<a:=by omega
theorem CN{a b:Nat}:a<b->min a b=a:=by lia
theorem CM{a b:Nat}:a=b->0<b->0<a:=by intros;simp +arith [*]
theorem CL{a b c:Nat}:b<c->a=b->c<=6->a<=8:=by lia
theorem RQ{a b:Nat}:(↑a:Int)=(↑b:Int)->a=b:=by omega
theorem CJ{a b:Nat}:a=b->(↑a:Int).toNat=b:=by intros;simp +arith [*]
theorem Ti{a b c:Nat}:a<c->c<b+1->a<b:=by lia
theorem P3{a b c:Nat}:a=c->c<=b->a<=b:=by lia
theorem D5{a:Int}:0<a->a≠0:=by omega
theorem P2{a:Int}:0<a->0<=a:=by lia
theorem P1{a b:Nat}:a<=b->a+1<=b+1:=by intros;simp +arith [*]
theorem P0{a b c:Nat}:a+3*(b+1)+5<c->a+1+3*b+5<c:=by lia
theorem Pz{a b c:Nat}:a+16*(b+1)+200<c->a+1+16*b+200<c:=by lia
theorem CI{a b c:Nat}:a=c->c<=b->a+(b-a)=b:=by intros;simp +arith [*]
theorem Py{a b c:Nat}:min (a-b) (c-b)<=c:=by lia
theorem M5{a:Int}:¬0<=a->a<0:=by lia
theorem Iw{b c:Nat}{a:Int}:a<(↑b:Int)->c<2 ^ 63->b<=c->a<2 ^ 63:=by lia
theorem Iv{b c:Nat}{a:Int}:b<2 ^ 63->c<=b-> -(↑c:Int)<=a-> -2 ^ 63<=a:=by lia
theorem CH{a b:Nat}:a<b->a+1<=b:=by lia
theorem Px{a b c:Nat}:c<b->a<=c+1->a<=b:=by intros;subst_vars;exact ZZ ‹_› ‹_›
theorem CG{a b:Nat}:a<=0+b->b<=15->a<=16777216:=by lia
theorem Pw{a b:Nat}:a=b->b<=3->a<=1000:=by intros;subst_vars;exact ZZ ‹_› (by decide)
theorem CF{a b:Nat}:a=b->b<=7->a<=1000:=by intros;subst_vars;exact ZZ ‹_› (by decide)
theorem CC{a b c:Nat}:a+1=b->b=c->c<=7->a+1<=1000:=by lia
theorem A9{a b c:Nat}:a+(b+c)=a+b+c:=by intros;simp +arith [*]
theorem A8{a:Nat}:3<=a+6:=by intros;simp +arith [*]
theorem RP{a:Nat}:1<=1+a:=by intros;simp +arith [*]
theorem Pu{a b c d:Nat}:c+d<=500->b<d->a<=c+1->a+b<=500:=by lia
theorem Iu{a b:Nat}:a<b->b<=18->a<=18:=by lia
theorem A7{a b:Nat}:b<=8->min a b<=1000:=by omega
theorem Ps{a b c d:Nat}:a<=c->b<=d->a+b<=c+d:=by lia
theorem A6{a b c:Nat}:c<b->a<=c->a+1<=b:=by lia
theorem Pr{a b c:Nat}:b=1+c->a<=c->a<=b:=by lia
theorem Pq{a b:Nat}:a+b<=500->a<=1000:=by lia
theorem Pp{a b:Nat}:a<=b+1->¬a=b+1->a<=b:=by lia
theorem D4{a b:Nat}:a=b->b<=8->a<=1000:=by intros;subst_vars;exact ZZ ‹_› (by decide)
theorem A5{a b:Nat}:a<b+1->¬a=b->a<b:=by lia
theorem Po{a:Nat}:1+a<=9 ^ 18->a<2 ^ 62:=by lia
theorem A4{a b c:Nat}:b=1+c->a<=c->1+a<=b:=by intros;simp +arith [*]
theorem Ir{a:Nat}:a<=16->a<17:=by intros;simp +arith [*]
theorem Pn{a:Nat}:a<=16->a<=18:=by intros;subst_vars;exact ZZ ‹_› (by decide)
theorem Iq{b c:Nat}{a:Int}:b=c->a.toNat<c->a.toNat<b:=by intros;simp +arith [*]
theorem D2{a b:Nat}:a=b->(1<=b/\b<=7)->a<=1000:=by lia
theorem A3{a b c d e:Nat}:a<c->d=e->c=e->b=d->a<b:=by intros;subst_vars;first|assumption|exact ZF _|exact Za _|exact Nat.succ_pos _|rfl|decide
theorem A2{a b c d:Nat}:d=c->b=d->min a b=min a c:=by intros;simp +arith [*]
theorem A1{a b c d:Nat}:c=d->b=d->a=c->a<=b:=by intros;simp +arith [*]
theorem A0{a b c d:Nat}:c=d->b=d->(↑(a+b):Int)-(↑c:Int)=(↑a:Int):=by intros;simp +arith [*]
theorem Az{a b c:Nat}:a=b->0<b->min c (c+a)=c+a->False:=by lia
theorem Ip{a b:Nat}:a<=a+b:=by intros;simp +arith [*]
theorem Ay{a b c d:Nat}:b=c->a=d->d<=3->c<=8->a+b<=1000:=by lia
theorem Ax{b:Nat}{a:Int}:1<=b->1<=a->1<=min (min a.toNat b-0) b:=by lia
theorem Pm{a:Nat}:1+a<=a+1:=by intros;simp +arith [*]
theorem Aw{a:Nat}:1+max a a<=a+1:=by intros;simp +arith [*]
theorem Pl{a:Nat}:1+max a 0<=a+1:=by intros;simp +arith [*]
theorem Av{a:Int}:a<3->0<=a->a=0\/a=1\/a=2:=by lia
theorem Au{a b c:Nat}:c<=3->min (a-b) (c-b)<=4:=by lia
theorem As{a b:Nat}:b=a->min a b=a:=by lia
theorem Ar{a b c:Nat}:a=c->b<=a->c<=7->a+b<=900:=by lia
theorem Aq{a b c:Nat}:b=c->a<=b->c<=7->1+a<=900:=by lia
theorem Ap{a b:Nat}:a=b->b<=7->a+1<=900:=by intros;subst_vars;exact Nat.lt_of_le_of_lt ‹_› (by decide)
theorem Io{a b:Nat}:a=b->1<=b->1<=a:=by intros;simp +arith [*]
theorem Pk{a b:Nat}:a=b->b<=7->a<=7:=by intros;simp +arith [*]
theorem Pj{a b:Nat}:1<=b->1<=a+b:=by lia
theorem Ao{a b c d:Nat}:c=d->a<=c->b<=1->d<=4->a+b<=7:=by lia
theorem An{a b c:Nat}:a=c->b<=1->c<=4->a+b<=7:=by lia
theorem Am{a b c:Nat}:b=c->a<=b->c<=4->1+a<=7:=by lia
theorem Al{a b c:Nat}:a=c->1<=c->1<=a+b:=by lia
theorem Ak{a b:Nat}:a=b->b<=4->a+1<=7:=by intros;subst_vars;exact Nat.lt_of_le_of_lt ‹_› (by decide)
theorem Aj{a:Nat}:1+0<=a+1:=by intros;simp +arith [*]
theorem Im{a:Nat}:a<=12->a<13:=by intros;simp +arith [*]
theorem Ah{a:Nat}:a=2->a+a<=4:=by intros;subst_vars;first|assumption|exact ZF _|exact Za _|exact Nat.succ_pos _|rfl|decide
theorem Pi{a b c d:Nat}:b=c->d=b->a<=d->(↑c:Int)<5->a<=4:=by lia
theorem Ph{a:Nat}:a<=40->a<=100:=by lia
theorem Ag{a:Nat}:a<=9 ^ 2->a<=100:=by lia
theorem Af{a:Nat}:0<=0+(↑a:Int):=by intros;simp +arith [*]
theorem Ae{a b c:Nat}:a+b=c->c<=64->a+b<=1000:=by intros;subst_vars;exact ZZ ‹_› (by decide)
theorem Pg{a b:Nat}:b<=12->a<=4->a+b<=500:=by lia
theorem Ad{a:Nat}:a<=12->a<=18:=by lia
theorem D1{a b c:Nat}:a<c->c<=b+1->a<=b:=by lia
theorem Ab{a b:Nat}:a=b->a+1=1+b:=by intros;simp +arith [*]
theorem Aa{a:Nat}:(↑(0+a):Int).toNat=a:=by intros;simp +arith [*]
theorem Pf{a b:Nat}:a<b->b<=20->a<=20:=by lia
theorem Pe{a b c:Nat}:b<=500->1+c+a<=b->a<=500:=by lia
theorem Pd{a b:Nat}:a=b->b<=8->(↑a:Int)<1073741824:=by omega
theorem Pc{a b c:Nat}:a=c->b=c->a<=b:=by intros;simp +arith [*]
theorem Pb{a b c:Nat}:b=c->a=b->(1<=c/\c<=7)->1+a<=1000:=by lia
theorem AZ{a b:Nat}:2<=a+3+b:=by intros;simp +arith [*]
theorem AX{a b:Nat}:a=b->1<=b->0<(↑a:Int):=by intros;simp +arith [*]
theorem AW{a b:Nat}:a=b->b<=4->(↑a:Int)<1073741824:=by lia
theorem AV{a b:Nat}:a+1<=b->b<=100->a+1<=100:=by intros;subst_vars;exact ZZ ‹_› ‹_›
theorem AU{a b:Nat}:a<=b->1+a<=b+1:=by intros;simp +arith [*]
theorem Pa{a b:Nat}:1+a<b+1->a<b:=by lia
theorem PZ{a b c:Nat}:b=c->a=b->c<=1000->a<=1000:=by intros;simp +arith [*]
theorem PY{a b:Nat}:b<2 ^ 62->a<=b-> -2 ^ 63<=(↑a:Int)/\(↑a:Int)<2 ^ 63:=by lia
theorem AT{a:Nat}:(97<=a/\a<97+26)->97+(a-97)=a:=by intros;simp +arith [*]
theorem AS{a:Nat}:(65<=a/\a<65+26)->65+(a-65)=a:=by intros;simp +arith [*]
theorem AR{a b:Nat}:a<24->a-b<24:=by omega
theorem AQ{a b:Nat}:b<a->a-b≠0:=by lia
theorem AO{a:Nat}:a % 8+1<=8:=by lia
theorem AN{a:Nat}:8-(0+(↑a:Int)) % 8=(↑(8-a % 8):Int):=by lia
theorem AM{a:Nat}:8-a % 8<=8:=by intros;simp +arith [*]
theorem AL{a b:Nat}:b=1->a<=8->a+b<=100:=by lia
theorem AJ{a b:Nat}:a=1->b<=8->a+b<=100:=by lia
theorem AI{a b c:Nat}:a<b->(c<=2/\b<=24\/c<=4/\b<=8)->a<=1000:=by lia
theorem PX{a b:Nat}:a=1+b->0<a:=by intros;simp +arith [*]
theorem PV{a b:Nat}:b=1+a->a+1=b:=by intros;simp +arith [*]
namespace L2
open PySem PySem.Spec PyProof.Rows
theorem sl(n:Nat)(h:n<=sizeLine:=by decide):n<=sizeLine:=h
abbrev Key:=Sum Int Str
def JY:Key->Value->Bool
 |.inl k,v=>Value.isInt k v
 |.inr x,v=>Value.isStrOf x v
def yR(w:World):Key->Int
 |.inl k=>hashInt k
 |.inr x=>hashStr w x
theorem VX:∀{k:Key}{v:Value},JY k v=true->(∃i t,k=Sum.inl i/\v=Value.int i t)\/(∃x t,k=Sum.inr x/\v=Value.str x t)
 |.inl i,v,h=>by
  obtain⟨t,e⟩:=Value.isInt_shape (k:=i) (v:=v) h;exact .inl ⟨i,t,rfl,e⟩
 |.inr x,v,h=>by
  obtain⟨t,e⟩:=Value.isStrOf_shape (x:=x) (v:=v) h;exact .inr ⟨x,t,rfl,e⟩
theorem E5(i:Int)(t:Tok):JY (.inl i) (.int i t)=true:=by simp[JY,Value.isInt]
theorem RX(x:Str)(t:Tok):JY (.inr x) (.str x t)=true:=by simp[JY,Value.isStrOf]
theorem SR(a b:Int):decide ((Sum.inl a:Key)=Sum.inl b)=(a==b):=by
 by_cases e:a=b
 .subst e;simp
 .have h:¬(Sum.inl a:Key)=Sum.inl b:=fun q=>e (Sum.inl.inj q)
  rw[Zw h];exact(beq_eq_false_iff_ne.mpr e).symm
theorem SN(a b:Str):decide ((Sum.inr a:Key)=Sum.inr b)=decide (a=b):=by
 by_cases e:a=b
 .subst e;simp
 .have h:¬(Sum.inr a:Key)=Sum.inr b:=fun q=>e (Sum.inr.inj q)
  rw[Zw h,Zw e]
theorem SQ(a:Int)(b:Str):decide ((Sum.inl a:Key)=Sum.inr b)=false:=Zw (fun q=>nomatch q)
theorem SO(a:Str)(b:Int):decide ((Sum.inr a:Key)=Sum.inl b)=false:=Zw (fun q=>nomatch q)
def VC(prog:Program)(w:World):PySem.KeyKind prog w Key where
 is:=JY
 hash:=yR w
 inj:=fun v a b ha hb=>by
  rcases VX ha with⟨i,t,rfl,rfl⟩|⟨x,t,rfl,rfl⟩
  .rcases VX hb with⟨j,u,rfl,e⟩|⟨y,u,rfl,e⟩
   .injection e with e1 _;rw[e1]
   .exact nomatch e
  .rcases VX hb with⟨j,u,rfl,e⟩|⟨y,u,rfl,e⟩
   .exact nomatch e
   .injection e with e1 _;rw[e1]
 byValue:=fun k v h=>by
  rcases VX h with⟨i,t,rfl,rfl⟩|⟨x,t,rfl,rfl⟩ <;> rfl
 pyHash:=fun hv h=>by
  rcases VX hv with⟨i,t,rfl,rfl⟩|⟨x,t,rfl,rfl⟩
  .exact wpAny_pyHash_int h
  .exact wpAny_pyHash_str h
 eqBool:=fun hu hv h=>by
  rcases VX hu with⟨i,t,rfl,rfl⟩|⟨x,t,rfl,rfl⟩
  .rcases VX hv with⟨j,u,rfl,rfl⟩|⟨y,u,rfl,rfl⟩
   .rw [SR]at h;exact wpAny_eqBool_int h
   .rw [SQ]at h;exact SeqAt.EqAt.int_str i t y u _ _ _ _ h
  .rcases VX hv with⟨j,u,rfl,rfl⟩|⟨y,u,rfl,rfl⟩
   .rw [SO]at h;exact SeqAt.EqAt.str_int x t j u _ _ _ _ h
   .rw [SN]at h;exact wpAny_eqBool_str h
 «strs»:=fun k x t v h=>by
  rcases VX h with⟨i,u,rfl,e⟩|⟨y,u,rfl,e⟩
  .exact nomatch e
  .injection e with e1 _
   subst e1;cases v <;> rfl
theorem NE(prog:Program)(w:World)(i:Int)(t:Tok):(VC prog w).is (.inl i) (.int i t)=true:=E5 i t
theorem ND(prog:Program)(w:World)(x:Str)(t:Tok):(VC prog w).is (.inr x) (.str x t)=true:=RX x t
inductive V where
 |non|bl (b:Bool)|int (i:Int)|str (x:Str)|byt (b:Array UInt8)|flt (b:UInt64)|ref (a:Addr)|ty (n:String)
 deriving DecidableEq
def RelV:V->Value->Prop
 |.non,u=>u=Value.none
 |.bl b,u=>u=Value.bool b
 |.int i,u=>∃t,u=Value.int i t
 |.str x,u=>∃t,u=Value.str x t
 |.byt b,u=>∃t,u=Value.bytes b t
 |.flt b,u=>∃t,u=Value.float b t
 |.ref a,u=>u=Value.ref a
 |.ty n,u=>u=Value.type n
abbrev Vals:List V->List Value->Prop:=Paired RelV
theorem Vals.length(r:Vals xs us):xs.length=us.length:=Paired.length r
theorem Vals.get:∀{xs:List V}{us:List Value}{i:Nat}{x:V},Vals xs us->xs[i]?=some x->∃u,us[i]?=some u/\RelV x u
 |_,_,_,_,.nil,e=>by simp at e
 |_,_,0,_,.cons r _,e=>by simp at e;subst e;exact⟨_,rfl,r⟩
 |_,_,i+1,x,.cons _ t,e=>by
  obtain⟨u,Z,Y⟩:=Vals.get (i:=i) (x:=x) t (by simpa using e);exact⟨u,by simpa using Z,Y⟩
theorem Vals.set(r:RelV x u):∀{xs:List V}{us:List Value}(i:Nat),Vals xs us->Vals (xs.set i x) (us.set i u)
 |_,_,_,.nil=>.nil
 |_,_,0,.cons _ t=>.cons r t
 |_,_,i+1,.cons q t=>.cons q (Vals.set r i t)
theorem Vals.append:∀{xs ys:List V}{us ws:List Value},Vals xs us->Vals ys ws->Vals (xs++ ys) (us++ ws)
 |_,_,_,_,.nil,s=>s
 |_,_,_,_,.cons r t,s=>.cons r (Vals.append t s)
theorem Vals.take:∀{xs:List V}{us:List Value}(n:Nat),Vals xs us->Vals (xs.take n) (us.take n)
 |_,_,0,_=>.nil
 |_,_,_+1,.nil=>.nil
 |_,_,n+1,.cons r t=>.cons r (Vals.take n t)
theorem Vals.drop:∀{xs:List V}{us:List Value}(n:Nat),Vals xs us->Vals (xs.drop n) (us.drop n)
 |_,_,0,r=>r
 |_,_,_+1,.nil=>.nil
 |_,_,n+1,.cons _ t=>Vals.drop n t
def U3:Option V->Option Value->Prop
 |some v,some u=>RelV v u
 |none,none=>True
 |_,_=>False
def KV{κ:Type}:List (κ×V)->List (κ×Value)->Prop:=Paired fun(p:κ×V)(q:κ×Value)=>p.1=q.1/\RelV p.2 q.2
def kV:Key->V
 |.inl i=>.int i
 |.inr x=>.str x
inductive HO where
 /-- a list -/
 |lst (xs:List V)
 /-- a tuple (never changes) -/
 |tup (xs:List V)
 /-- a dict whose keys are ints and texts;one whose keys are tuples of ints and texts (the empty one is both) -/
 |dK (kvs:List (Key×V))|dT (kvs:List (List Key×V))
 /-- a set of ints:its members,its size -/
 |set (S:Int->Bool) (n:Nat)
 /-- an instance of the class at C,its dict at dx,its attributes -/
 |ins (C dx:Addr) (fs:List (Str×V))
 /-- the dict of the instance at x -/
 |own (x:Addr)
 /-- the dict of an exception -/
 |xd (fs:List (Str×V))
 /-- a bound method,f of x -/
 |met (f x:Addr)
 /-- a range object lo,lo+1,.. below hi -/
 |rng (lo hi:Int)
 /-- a thing that is known to the object (the script;a dict while a loop walks it):read,never written while it is so -/
 |frz (o:Obj) (u:HO)
 /-- a code object's table -/
 |tbl (ps:Array Value)
 /-- any other thing,by what is true of its one object (a def of one's own:SetO a S n:=HO.ext fun h=>..) -/
 |ext (φ:Heap->Prop)
abbrev Hp:=Addr->Option HO
def upd(H:Hp)(a:Addr)(o:HO):Hp:=fun b=>if b=a then some o else H b
theorem YY:upd H a o a=some o:=by unfold upd;rw[Zn rfl]
theorem Ya(h:b≠a):upd H a o b=H b:=by unfold upd;rw[Zo h]
theorem W9:upd (upd H a o) a u=upd H a u:=by
 funext b;unfold upd;split <;> rfl
theorem Vv{H:Hp}(h:H a=some o)(h':H b=some u)(d:o≠u):a≠b:=by
 intro e;subst e;rw[h]at h';exact d (ZP h')
theorem Yc{H:Hp}(h:H a=some o)(h':H b=none):a≠b:=by
 intro e;subst e;rw[h]at h';cases h'
def Wt(h:Heap)(a:Addr)(items:Array Value):Prop:=∃o,h.get? a=some o/\o.dict=none/\o.cls=.type "tuple" /\∃n,o.data=.seq items n
theorem Wt.is(x:Wt h a items):IsTup h a items:=let⟨o,J,_,Z,Y⟩:=x;⟨o,J,Z,Y⟩
theorem Wt.keeps(x:Wt h a items)(Z:∀b o,h.get? b=some o->h'.get? b=some o):Wt h' a items:=let⟨o,Y,r⟩:=x;⟨o,Z a o Y,r⟩
theorem Wt.new(h:Heap)(items:Array Value):Wt (h.push {cls:=.type "tuple",data:=.seq items}) h.objs.size items:=⟨_,ZW _ rfl,rfl,rfl,_,rfl⟩
section
variable(P:Program)(w:World)
def Vf(H:Hp)(h:Heap)(a:Addr):HO->Prop
 |.lst xs=>xs.length<=sizeLine/\∃(its:List Value)(n:Nat),Vals xs its/\h.get? a=some {cls:=.type "list",data:=.seq its.toArray n}
 |.tup xs=>xs.length<=sizeLine/\∃its:List Value,Vals xs its/\Wt h a its.toArray
 |.dK kvs=>kvs.length<=sizeLine/\(a==sysModules)=false/\∃vs,KV kvs vs/\h.DictOf (VC P w) a vs
 |.dT kvs=>kvs.length<=sizeLine/\(a==sysModules)=false/\∃xs:List (List Key×Addr×Value),
   Paired (fun(p:List Key×V)(q:List Key×Addr×Value)=>p.1=q.1/\H q.2.1=some (.tup (p.1.map kV))/\RelV p.2 q.2.2) kvs xs/\
   ∃o es ep,h.get? a=some o/\o.ExactDict/\o.data=.dict es ep/\es.toList=xs.map (entryOfKey (tupleKind (VC P w)))/\(xs.map (·.1)).Nodup
 |.set S n=>h.SetOf (intKind P w) a S n
 |.ins C dx fs=>H dx=some (.own a)/\fs.length<=1000/\dx≠a/\h.get? a=some (W.instObj C dx)/\
   ∃mA,h.Ns1 dx mA/\(∀f,U3 (fs.lookup f) (mA f))/\PySem.Within mA (fs.map (·.1))
 |.own _=>∃o,h.get? a=some o
 |.xd fs=>∃mA,h.Ns1 a mA/\∀f,U3 (fs.lookup f) (mA f)
 |.rng lo hi=>∃t u v,h.get? a=some {cls:=.type "range",data:=.fields #[.int lo t,.int hi u,.int 1 v]}
 |.frz o u=>h.get? a=some o/\Vf H h a u
 |.tbl ps=>h.get? a=some {cls:=.none,data:=.fields ps}
 |.met f x=>h.get? a=some (W.methodObj (.ref f) (.ref x))
 |.ext φ=>φ h/\(∃o,h.get? a=some o)/\∀h1 h2:Heap,φ h1->(∀o,h1.get? a=some o->h2.get? a=some o)->φ h2
def HOk(H:Hp)(h:Heap):Prop:=∀a o,H a=some o->Vf P w H h a o
end
section
theorem Vf.lt(x:Vf P w H h a o):a<h.objs.size:=by
 cases o with
 |lst Z=>obtain⟨_,_,_,_,e⟩:=x;exact ZN e
 |tup Z=>obtain⟨_,_,_,p⟩:=x;exact p.is.lt
 |dK Y=>obtain⟨_,_,_,_,o,_,_,e,_⟩:=x;exact ZN e
 |dT Y=>obtain⟨_,_,_,_,o,_,_,e,_⟩:=x;exact ZN e
 |set S n=>obtain⟨o,_,_,_,e,_⟩:=x;exact ZN e
 |ins C O J=>obtain⟨_,_,_,e,_⟩:=x;exact ZN e
 |own y=>obtain⟨_,e⟩:=x;exact ZN e
 |xd J=>obtain⟨_,⟨_,_,_,e,_⟩,_⟩:=x;exact ZN e
 |rng M N=>obtain⟨_,_,_,e⟩:=x;exact ZN e
 |frz L u=>obtain⟨e,_⟩:=x;exact ZN e
 |tbl G=>exact ZN (show h.get? a=some _ from x)
 |met f y=>exact ZN (show h.get? a=some _ from x)
 |ext φ=>obtain⟨_,⟨_,e⟩,_⟩:=x;exact ZN e
theorem Paired.mapP:∀{Z:List α}{Y:List β},Paired F Z Y->(∀a b,F a b->G a b)->Paired G Z Y
 |_,_,.nil,_=>.nil
 |_,_,.cons r t,f=>.cons (f _ _ r) (Paired.mapP t f)
theorem Vf.stay(x:Vf P w H h a o)(k:∀b u,(b=a\/H b=some (.own a))->h.get? b=some u->h'.get? b=some u)(E:∀b,H b=some (.own a)->H' b=some (.own a))(D:∀b xs,H b=some (.tup xs)->H' b=some (.tup xs)):Vf P w H' h' a o:=by
 induction o with
 |lst xs=>obtain⟨z,G,n,r,e⟩:=x;exact⟨z,G,n,r,k _ _ (.inl rfl) e⟩
 |tup xs=>obtain⟨z,G,r,Y,e,c⟩:=x;exact⟨z,G,r,Y,k _ _ (.inl rfl) e,c⟩
 |dK N=>obtain⟨z,y,T,r,Y,Z,J,e,c⟩:=x;exact⟨z,y,T,r,Y,Z,J,k _ _ (.inl rfl) e,c⟩
 |dT N=>
  obtain⟨z,y,xs,r,Y,Z,J,e,c⟩:=x;exact⟨z,y,xs,Paired.mapP r fun p q z=>⟨z.1,D _ _ z.2.1,z.2.2⟩,Y,Z,J,k _ _ (.inl rfl) e,c⟩
 |set S n=>obtain⟨Y,Z,J,t,e,c⟩:=x;exact⟨Y,Z,J,t,k _ _ (.inl rfl) e,c⟩
 |ins C X F=>
  obtain⟨d,z,B,e,M,⟨L,Z,J,A,c⟩,r⟩:=x;exact⟨E _ d,z,B,k _ _ (.inl rfl) e,M,⟨L,Z,J,k _ _ (.inr d) A,c⟩,r⟩
 |own y=>obtain⟨Y,e⟩:=x;exact⟨Y,k _ _ (.inl rfl) e⟩
 |xd F=>obtain⟨M,⟨L,Z,J,e,c⟩,r⟩:=x;exact⟨M,⟨L,Z,J,k _ _ (.inl rfl) e,c⟩,r⟩
 |rng I U=>obtain⟨t,u,v,e⟩:=x;exact⟨t,u,v,k _ _ (.inl rfl) e⟩
 |frz Y u ih=>obtain⟨e,q⟩:=x;exact⟨k _ _ (.inl rfl) e,ih q⟩
 |tbl R=>
  have e:h.get? a=some {cls:=.none,data:=.fields R}:=x;show h'.get? a=some {cls:=.none,data:=.fields R};exact k a _ (.inl rfl) e
 |met f y=>
  have e:h.get? a=some (W.methodObj (.ref f) (.ref y)):=x;show h'.get? a=some (W.methodObj (.ref f) (.ref y));exact k a _ (.inl rfl) e
 |ext φ=>obtain⟨p,⟨o,e⟩,O⟩:=x;exact⟨O _ _ p fun o q=>k _ _ (.inl rfl) q,⟨o,k _ _ (.inl rfl) e⟩,O⟩
theorem HOk.lt(x:HOk P w H h)(e:H a=some o):a<h.objs.size:=(x a o e).lt
theorem HOk.fresh(x:HOk P w H h)(e:h.objs.size<=a):H a=none:=by
 cases q:H a with
 |none=>rfl
 |some u=>exact Zp (Zv (x.lt q) e) (Nat.lt_irrefl _)
theorem HOk.kept(x:HOk P w H h)(k:∀b u,h.get? b=some u->h'.get? b=some u):HOk P w H h':=fun a o e=>
 (x a o e).stay (fun b u _ q=>k b u q) (fun _ q=>q) fun _ _ q=>q
theorem HOk.laid(x:HOk P w H h)(k:∀b u,h.get? b=some u->h'.get? b=some u)(J:h.objs.size<=a)(Y:Vf P w (upd H a o) h' a o):HOk P w (upd H a o) h':=fun b u e=>by
 have Z:=x.fresh J
 by_cases hb:b=a
 .subst hb;rw[YY]at e;cases e;exact Y
 .rw [Ya hb]at e
  exact(x b u e).stay (fun c v _ q=>k c v q) (fun c q=>by rw[Ya (Yc q Z)];exact q) fun c G q=>by rw[Ya (Yc q Z)];exact q
end
def Rd(H:Hp)(a:Addr)(u:HO):Prop:=H a=some u \/ ∃o,H a=some (.frz o u)
theorem Rd.ok(r:Rd H a u)(x:HOk P w H h):Vf P w H h a u:=by
 rcases r with r|⟨o,r⟩
 .exact x a u r
 .obtain ⟨_,q⟩:=x a _ r
  exact q
def Mut:Option HO->Prop
 |some (.lst _)=>True
 |some (.dK _)=>True
 |some (.dT _)=>True
 |some (.set _ _)=>True
 |some (.ins _ _ _)=>True
 |some (.ext _)=>True
 |_=>False
section
theorem HOk.write(O:HOk P w H h)(G:Mut (H x))(he:e=x\/H e=some (.own x))(k:∀b u,b≠e->h.get? b=some u->h'.get? b=some u)(N:∃u,h'.get? e=some u)(M:Vf P w (upd H x o') h' x o'):HOk P w (upd H x o') h':=fun b u q=>by
 have Y:∀c y,H c=some (.own y)->c≠x:=fun c y r z=>by subst z;rw[r]at G;exact G
 have Z:∀c J,H c=some (.tup J)->c≠x:=fun c J r z=>by subst z;rw[r]at G;exact G
 by_cases hb:b=x
 .subst hb;rw[YY]at q;cases q;exact M
 .rw [Ya hb]at q
  by_cases hbe:b=e
  .have q':H b=some (.own x):=by
    rcases he with z|z
    .exact Zp (hbe.trans z) hb
    .rw [hbe];exact z
   rw[q]at q';cases q';obtain⟨v,R⟩:=N;exact⟨v,by rw[hbe];exact R⟩
  .refine (O b u q).stay (fun c v L r=>k c v ?_ r) (fun c r=>by rw[Ya (Y c b r)];exact r) fun c J r=>by rw[Ya (Z c J r)];exact r
   rcases L with rfl|L
   .exact hbe
   .rintro rfl
    rcases he with z|z
    .exact Y c b L z
    .rw [L]at z;cases z;exact hb rfl
end
structure Un(fs ex:List Addr)(H H':Hp)(h h':Heap):Prop where
 keep:∀b o,h.get? b=some o->H b=none->b∉fs->b∉ex->h'.get? b=some o
 slot:∀b o,h.get? b=some o->H b=none->b∈fs->b∉ex->∃sl,h'.get? b=some {o with slots:=sl}
 free:∀b o,h.get? b=some o->H b=none->b∉ex->H' b=none
 there:∀b o,h.get? b=some o->b∉ex->∃o',h'.get? b=some o'
 tups:∀b xs,H b=some (.tup xs)->H' b=some (.tup xs)
 frzs:∀b o u,H b=some (.frz o u)->H' b=some (.frz o u)
 tbls:∀b ps,H b=some (.tbl ps)->∃more,H' b=some (.tbl (ps++ more))
section
variable{fs fs' ex ex':List Addr}{H H1 H2:Hp}{h h1 h2 h':Heap}{a x e:Addr}{o:HO}
theorem Un.any(u:Un fs ex H H1 h h1)(q:h.get? b=some ob)(n:H b=none)(hx:b∉ex):∃sl,h1.get? b=some {ob with slots:=sl}:=by
 by_cases hb:b∈fs
 .exact u.slot b ob q n hb hx
 .exact ⟨ob.slots,u.keep b ob q n hb hx⟩
theorem Un.kept(k:∀b u,h.get? b=some u->h'.get? b=some u):Un fs ex H H h h':=
 ⟨fun b Y q _ _ _=>k b Y q,fun b Y q _ _ _=>⟨Y.slots,k b Y q⟩,fun _ _ _ n _=>n,fun b Y q _=>⟨Y,k b Y q⟩,fun _ _ q=>q,fun _ _ _ q=>q,fun _ Z q=>⟨#[],by rw[q];simp⟩⟩
theorem Un.refl:Un fs ex H H h h:=Un.kept fun _ _ q=>q
theorem Un.laid(k:∀b u,h.get? b=some u->h'.get? b=some u)(J:h.objs.size<=a)(Y:H a=none):Un fs ex H (upd H a o) h h' where
 keep:=fun b u q _ _ _=>k b u q
 slot:=fun b u q _ _ _=>⟨u.slots,k b u q⟩
 free:=fun b u q n _=>by rw[Ya (Zc (Zv (ZN q) J))];exact n
 there:=fun b u q _=>⟨u,k b u q⟩
 tups:=fun b Z q=>by rw[Ya (Yc q Y)];exact q
 frzs:=fun b u Z q=>by rw[Ya (Yc q Y)];exact q
 tbls:=fun b G q=>⟨#[],by rw[Ya (Yc q Y),q];simp⟩
theorem Un.write(Y:Mut (H x))(he:e=x\/H e=some (.own x))(k:∀b u,b≠e->h.get? b=some u->h'.get? b=some u)(J:∃u,h'.get? e=some u):Un fs ex H (upd H x o) h h':=by
 have G:∀b,H b=none->b≠x:=fun b n z=>by subst z;rw[n]at Y;exact Y
 have L:∀b,H b=none->b≠e:=fun b n z=>by
  subst z;rcases he with r|r
  .exact G b n r
  .rw [n]at r;cases r
 have Z:∀b u,H b=some u->¬Mut (some u)->b≠x:=fun b u q N z=>by subst z;rw[q]at Y;exact N Y
 refine⟨fun b u q n _ _=>k b u (L b n) q,fun b u q n _ _=>⟨u.slots,k b u (L b n) q⟩,fun b u q n _=>by rw[Ya (G b n)];exact n,fun b u q _=>?_,
  fun b M q=>by rw[Ya (Z b _ q fun z=>z)];exact q,fun b u M q=>by rw[Ya (Z b _ q fun z=>z)];exact q,fun b O q=>⟨#[],by rw[Ya (Z b _ q fun z=>z),q];simp⟩⟩
 by_cases hbe:b=e
 .subst hbe;exact J
 .exact ⟨u,k b u hbe q⟩
end
def trk(h:Heap)(H:Hp):List Addr:=(List.range h.objs.size).filter fun a=>(H a).isSome
def MZ(h:Heap)(H:Hp):Heap:=W.hideAll h (trk h H)
theorem E8(h:Heap)(H:Hp):(MZ h H).objs.size=h.objs.size:=W.hideAll_size _ _
theorem K5(e:h.get? b=some o)(n:H b=none):(MZ h H).get? b=some o:=
 W.hideAll_get _ e fun Y=>by
  have q:(H b).isSome=true:=(List.mem_filter.mp Y).2;rw[n]at q;simp at q
theorem Oh(e:(MZ h H).get? b=some o):h.get? b=some o/\H b=none:=by
 have Y:h.get? b=some o:=W.of_hideAll (trk h H) e;refine⟨Y,?_⟩
 cases q:H b with
 |none=>rfl
 |some x=>
  have Z:b∈trk h H:=List.mem_filter.mpr ⟨List.mem_range.mpr (ZN Y),by simp[q]⟩;have z:(MZ h H).get? b=none:=W.hideAll_none (trk h H) Z;rw[z]at e;cases e
structure Mod(K:W.Frag)(mg:Str->Option Value)(base:Heap):Prop where
 kin:K.In base
 glob:base.Ns mainGlobals mg
 blt:∃mb,base.Ns builtinsNs mb/\∀x:Str,x≠"__name__" ->mb x=bootBuiltins x
 nolimit:base.NoLimit
structure Cx where
 prog:Program
 w:World
 K:W.Frag
 mg:Str->Option Value
 base:Heap
 A:Around
 N:List Str
 s₀:Shared
 H₀:Hp
 env:Env
 outer:List Env
 stack:List Env
 ex:List Addr
 fn:Str->Bool
 calm:Bool
 pn:List (Addr×Obj)
 xe:Value->Shared->Prop
def frs(l:List Env):List Addr:=l.filterMap (·.frame)
abbrev Cx.fs(X:Cx):List Addr:=frs X.outer
def Vis(sc:Scope)(x:Str):Prop:=sc.names.lookup x=some .local\/sc.names.lookup x=some .cell\/sc.names.lookup x=some .free
def Loc(sc:Scope)(x:Str):Prop:=sc.names.lookup x=some .local\/sc.names.lookup x=some .cell
def Look(env:Env)(h:Heap)(m:Str->Option Value)(x:Str)(u:Value):Prop:=
 (env.kindOf x=some .local/\m x=some u)\/((env.kindOf x=some .cell\/env.kindOf x=some .free)/\∃c,env.cells.lookup x=some c/\h.IsCell c (some u))
structure Cx.Ok(X:Cx):Prop where
 mod:Mod X.K X.mg X.base
 kind:X.env.scope.kind=.function
 glob:X.env.globals=mainGlobals
 blt:X.env.builtins=builtinsNs
 above:X.s₀.heap.objs.size<=X.env.locals
 inj:∀x y c,X.env.cells.lookup x=some c->X.env.cells.lookup y=some c->x=y
 has:∀x,(X.env.kindOf x=some .cell\/X.env.kindOf x=some .free)->∃c,X.env.cells.lookup x=some c
 cab:∀x c,X.fn x=true->X.env.cells.lookup x=some c->X.s₀.heap.objs.size<=c
 hd:X.calm=true->X.A.handled=none
 frames:X.A.frames=some X.stack
 stk:X.stack=X.outer\/(X.stack=X.env::X.outer/\X.env.frame=some X.env.locals)
 exf:∀b∈X.ex,b≠X.env.locals/\∀x c,X.env.cells.lookup x=some c->c≠b
 bs:∀b o,X.base.get? b=some o->X.s₀.heap.get? b=some o/\X.H₀ b=none
 bsz:X.base.objs.size<=X.s₀.heap.objs.size
 noex:∀b o,X.base.get? b=some o->b∉X.ex
 exfs:∀b∈X.ex,b∉X.fs
 funs:X.s₀.heap.FunFrames X.base X.outer
 frf:∀b∈X.fs,X.H₀ b=none
structure Inv(X:Cx)(pins:List (Addr×Obj))(U:List (Option V))(H:Hp)(s:Shared):Prop where
 ok:X.Ok
 os:s.os=X.s₀.os
 bare:AllBare s.gens
 base:Un X.fs X.ex X.H₀ H X.s₀.heap s.heap
 loc:∃m,s.heap.Ns X.env.locals m/\∀(i:Nat)(x:Str)(v:V),X.N[i]?=some x->U[i]?=some (some v)->Vis X.env.scope x->∃u,RelV v u/\Look X.env s.heap m x u
 cell:∀x c,X.env.cells.lookup x=some c->∃v,s.heap.IsCell c v
 free:H X.env.locals=none
 freeC:∀x c,X.env.cells.lookup x=some c->H c=none
 pin:∀p∈X.pn++ pins,s.heap.get? p.1=some p.2/\H p.1=none/\p.1≠X.env.locals/\p.1∉X.fs/\∀v,p.2.data≠.cell v
 hok:HOk X.prog X.w H s.heap
 len:U.length=X.N.length
section
variable{X:Cx}
theorem Cx.Ok.nofr(Y:X.Ok)(e:X.base.get? b=some o):b∉X.fs:=fun Z=>by
 have:=(Y.funs.mem Z).1;rw[e]at this;cases this
theorem Inv.bs(I:Inv X pins U H s):∀b o,X.base.get? b=some o->s.heap.get? b=some o/\H b=none:=fun b o e=>
 ⟨I.base.keep b o (I.ok.bs b o e).1 (I.ok.bs b o e).2 (I.ok.nofr e) (I.ok.noex b o e),I.base.free b o (I.ok.bs b o e).1 (I.ok.bs b o e).2 (I.ok.noex b o e)⟩
theorem Inv.bk(I:Inv X pins U H s):∀b o,X.base.get? b=some o->s.heap.get? b=some o:=fun b o e=>(I.bs b o e).1
theorem Inv.mod(I:Inv X pins U H s):Mod X.K X.mg X.base:=I.ok.mod
theorem Inv.kIn(I:Inv X pins U H s):X.K.In s.heap:=I.ok.mod.kin.keeps I.bk
theorem Inv.lt(I:Inv X pins U H s):X.env.locals<s.heap.objs.size:=let⟨_,Y,_⟩:=I.loc;Y.lt
theorem Inv.sz(I:Inv X pins U H s):X.s₀.heap.objs.size<=s.heap.objs.size:=ZZ I.ok.above (Zf I.lt)
theorem Inv.nofs(I:Inv X pins U H s)(h:s.heap.objs.size<=a):a∉X.fs:=fun Z=>by
 obtain⟨_,o,Y,_⟩:=I.ok.funs.mem Z;exact Zp (Zv (ZN Y) (ZZ I.sz h)) (Nat.lt_irrefl _)
theorem Inv.cne(I:Inv X pins U H s):∀x c,X.env.cells.lookup x=some c->c≠X.env.locals:=fun x c e z=>by
 obtain⟨v,o,J,G⟩:=I.cell x c e;obtain⟨m,⟨L,M,N,Y,Z,_⟩,_⟩:=I.loc;rw[z,Y]at J;cases J;rw[Z]at G;cases G
theorem Inv.funs(I:Inv X pins U H s):s.heap.FunFrames X.base X.outer:=by
 have G:∀(l:List Env),(∀b∈frs l,b∈X.fs)->X.s₀.heap.FunFrames X.base l->s.heap.FunFrames X.base l:=by
  intro l
  induction l with
  |nil=>intro _ _;trivial
  |cons E r ih=>
   intro M T;obtain⟨B,⟨L,o,Y,R,O,D⟩,N⟩:=T;have J:L∈X.fs:=M L (by unfold frs;rw[List.filterMap_cons,Y];exact ZY);obtain⟨sl,e⟩:=I.base.slot L o O (I.ok.frf L J) J fun z=>I.ok.exfs L z J;exact⟨B,⟨L,_,Y,R,e,D⟩,ih (fun b Z=>M b (by unfold frs;rw[List.filterMap_cons,Y];exact ZK _ Z)) N⟩
 exact G X.outer (fun _ Z=>Z) I.ok.funs
theorem Inv.stack(I:Inv X pins U H s):s.heap.FunFrames X.base X.stack:=by
 rcases I.ok.stk with e|⟨e,Z⟩
 .rw [e];exact I.funs
 .rw [e]
  obtain⟨m,Y,_⟩:=I.loc;refine .cons (by rw[I.ok.kind];decide) Z Y ?_ I.funs;exact Heap.get?_none_of_le (ZZ I.ok.bsz I.ok.above)
theorem Inv.stkSub(I:Inv X pins U H s):∀b∈frs X.stack,b∈X.env.locals::X.fs:=fun b Y=>by
 rcases I.ok.stk with e|⟨e,Z⟩
 .rw [e]at Y;exact ZK _ Y
 .rw [e]at Y
  unfold frs at Y;rw[List.filterMap_cons,Z]at Y;exact Y
theorem Inv.stkFree(I:Inv X pins U H s):∀b∈frs X.stack,H b=none:=fun b Y=>by
 rcases Zb.mp (I.stkSub b Y)with e|Y
 .rw [e];exact I.free
 .obtain ⟨_,o,ho,_⟩:=I.ok.funs.mem Y
  exact I.base.free b o ho (I.ok.frf b Y) fun z=>I.ok.exfs b z Y
theorem Inv.step{ch:List Addr}(I:Inv X pins U H s)(J:∀b∈ch,(b∈X.ex\/X.s₀.heap.objs.size<=b)/\b≠X.env.locals/\(∀x c,X.env.cells.lookup x=some c->c≠b)/\∀p∈X.pn++ pins,p.1≠b)(keep:∀b o,b≠X.env.locals->b∉X.fs->b∉ch->s.heap.get? b=some o->H b=none->h'.get? b=some o)(slot:∀b o,b≠X.env.locals->b∈X.fs->b∉ch->s.heap.get? b=some o->H b=none->∃sl,h'.get? b=some {o with slots:=sl})(free:∀b o,b∉ch->s.heap.get? b=some o->H b=none->H' b=none)(there:∀b o,b∉ch->s.heap.get? b=some o->∃T,h'.get? b=some T)(O:∀b xs,H b=some (.tup xs)->H' b=some (.tup xs))(D:∀b o u,H b=some (.frz o u)->H' b=some (.frz o u))(R:∀b ps,H b=some (.tbl ps)->∃more,H' b=some (.tbl (ps++ more)))(ns:∀m,s.heap.Ns X.env.locals m->h'.Ns X.env.locals m)(A:HOk X.prog X.w H' h')(Q:AllBare g'):
  Inv X pins U H' {s with heap:=h',gens:=g',drawn:=d',toks:=t'}:=by
 have B:∀b o,X.s₀.heap.get? b=some o->b≠X.env.locals:=fun b o e=>Zc (Zv (ZN e) I.ok.above)
 have G:∀b o,X.s₀.heap.get? b=some o->b∉X.ex->b∉ch:=fun b o e Y M=>by
  rcases(J b M).1 with z|z
  .exact Y z
  .exact Zp (Zv (ZN e) z) (Nat.lt_irrefl _)
 have cellK:∀x c,X.env.cells.lookup x=some c->∀v,s.heap.IsCell c v->h'.IsCell c v:=fun x c e v ⟨o,N,S⟩=>by
  have Z:c∉ch:=fun z=>(J c z).2.2.1 x c e rfl
  by_cases hc:c∈X.fs
  .obtain ⟨sl,q⟩:=slot c o (I.cne x c e) hc Z N (I.freeC x c e)
   exact⟨_,q,S⟩
  .exact ⟨o,keep c o (I.cne x c e) hc Z N (I.freeC x c e),S⟩
 refine⟨I.ok,I.os,Q,⟨fun b o e n M Y=>?_,fun b o e n M Y=>?_,fun b o e n Y=>?_,fun b o e Y=>?_,fun b xs e=>O b xs (I.base.tups b xs e),fun b o xs e=>D b o xs (I.base.frzs b o xs e),fun b ps e=>?_⟩,?_,fun x c e=>?_,?_,fun x c e=>?_,fun p C=>?_,A,I.len⟩
 .exact keep b o (B b o e) M (G b o e Y) (I.base.keep b o e n M Y) (I.base.free b o e n Y)
 .obtain ⟨sl,L⟩:=I.base.slot b o e n M Y
  obtain⟨F,E⟩:=slot b _ (B b o e) M (G b o e Y) L (I.base.free b o e n Y);exact⟨F,E⟩
 .obtain ⟨T,L⟩:=I.base.there b o e Y
  exact free b T (G b o e Y) L (I.base.free b o e n Y)
 .obtain ⟨T,L⟩:=I.base.there b o e Y
  exact there b T (G b o e Y) L
 .obtain ⟨m1,L⟩:=I.base.tbls b ps e
  obtain⟨P,E⟩:=R b _ L;exact⟨m1++ P,by rw[E,Array.append_assoc]⟩
 .obtain ⟨m,hn,hl⟩:=I.loc
  refine⟨m,ns m hn,fun i x v L E j=>?_⟩;obtain⟨u,r,l⟩:=hl i x v L E j;refine⟨u,r,?_⟩;rcases l with l|⟨k,c,e,z⟩
  .exact .inl l
  .exact .inr ⟨k,c,e,cellK x c e _ z⟩
 .obtain ⟨v,z⟩:=I.cell x c e
  exact⟨v,cellK x c e v z⟩
 .obtain ⟨m,⟨o,_,_,N,_⟩,_⟩:=I.loc
  exact free _ o (fun z=>(J _ z).2.1 rfl) N I.free
 .obtain ⟨v,o,N,S⟩:=I.cell x c e
  exact free c o (fun z=>(J c z).2.2.1 x c e rfl) N (I.freeC x c e)
 .obtain ⟨e,n,ne,nf,d⟩:=I.pin p C
  have Z:p.1∉ch:=fun z=>(J p.1 z).2.2.2 p C rfl;exact⟨keep p.1 p.2 ne nf Z e n,free p.1 p.2 Z e n,ne,nf,d⟩
theorem Inv.un(I:Inv X pins U H s)(u:Un X.fs [] H H' s.heap h')(Z:HOk X.prog X.w H' h'):Inv X pins U H' {s with heap:=h',toks:=t'}:=by
 obtain⟨m,⟨o,D,E,M,r⟩,_⟩:=id I.loc;obtain⟨sl,R⟩:=u.any M I.free (by simp)
 exact I.step (g':=s.gens) (d':=s.drawn) (ch:=[]) (fun _ z=>nomatch z) (fun b o _ J _ e n=>u.keep b o e n J (by simp)) (fun b o _ J _ e n=>u.slot b o e n J (by simp)) (fun b o _ e n=>u.free b o e n (by simp)) (fun b o _ e=>u.there b o e (by simp)) u.tups u.frzs u.tbls (fun B O=>by
  obtain⟨T,G,L,Y,N⟩:=O;rw[M]at Y;cases Y;exact⟨_,G,L,R,N⟩) Z I.bare
theorem Inv.call(I:Inv X pins U H s)(u:Un (frs X.stack) ch H H' s.heap h')(G:HOk X.prog X.w H' h')(B:AllBare g')(J:∀b∈ch,(b∈X.ex\/X.s₀.heap.objs.size<=b)/\b≠X.env.locals/\(∀x c,X.env.cells.lookup x=some c->c≠b)/\∀p∈X.pn++ pins,p.1≠b):
  Inv X pins U H' {s with heap:=h',gens:=g',drawn:=d',toks:=t'}:=by
 obtain⟨m,⟨o,A,S,O,r⟩,_⟩:=id I.loc;obtain⟨sl,L⟩:=u.any O I.free fun z=>(J _ z).2.1 rfl
 exact I.step (ch:=ch) J (fun b o L D Y e n=>u.keep b o e n (fun z=>(Zb.mp (I.stkSub b z)).elim L D) Y) (fun b o _ _ Y e n=>u.any e n Y) (fun b o Y e n=>u.free b o e n Y) (fun b o Y e=>u.there b o e Y) u.tups u.frzs u.tbls (fun F T=>by
  obtain⟨E,M,N,Z,R⟩:=T;rw[O]at Z;cases Z;exact⟨_,M,N,L,R⟩) G B
theorem Inv.turned(I:Inv X pins U H s)(k:∀b o,b≠it->s.heap.get? b=some o->h'.get? b=some o)(G:H it=none)(J:it≠X.env.locals)(R:it∈X.ex\/X.s₀.heap.objs.size<=it)(O:∀x c,X.env.cells.lookup x=some c->c≠it)(N:∀p∈X.pn++ pins,p.1≠it):Inv X pins U H {s with heap:=h',toks:=t'}:=by
 have Z:∀b u,H b=some u->b≠it:=fun b u e z=>by rw[z,G]at e;cases e
 refine I.step (g':=s.gens) (d':=s.drawn) (ch:=[it]) (fun b M=>?_) (fun b o _ _ Y e _=>k b o (fun z=>Y (by simp[z])) e) (fun b o _ _ Y e _=>⟨o.slots,k b o (fun z=>Y (by simp[z])) e⟩) (fun _ _ _ _ n=>n)
  (fun b o Y e=>⟨o,k b o (fun z=>Y (by simp[z])) e⟩) (fun _ _ e=>e) (fun _ _ _ e=>e) (fun b T e=>⟨#[],by rw[e];simp⟩) (fun m L=>?_) (fun b u e=>?_) I.bare
 .have e:b=it:=by simpa using M
  subst e;exact⟨R,J,O,N⟩
 .obtain ⟨o,es,ep,ho,r⟩:=L
  exact⟨o,es,ep,k _ o (Zq J) ho,r⟩
 .refine (I.hok b u e).stay (fun c v Y q=>k c v ?_ q) (fun _ q=>q) fun _ _ q=>q
  rcases Y with z|z
  .rw [z];exact Z b u e
  .exact Z c _ z
theorem Inv.tok(I:Inv X pins U H s)(t:Nat):Inv X pins U H {s with toks:=t}:=I.un (h':=s.heap) (t':=t) Un.refl I.hok
theorem Inv.kept(I:Inv X pins U H s)(k:∀b u,s.heap.get? b=some u->h'.get? b=some u):Inv X pins U H {s with heap:=h',toks:=t'}:=I.un (Un.kept k) (I.hok.kept k)
theorem Inv.laid(I:Inv X pins U H s)(k:∀b u,s.heap.get? b=some u->h'.get? b=some u)(Z:s.heap.objs.size<=a)(Y:Vf X.prog X.w (upd H a o) h' a o):
  Inv X pins U (upd H a o) {s with heap:=h',toks:=t'}:=I.un (Un.laid k Z (I.hok.fresh Z)) (I.hok.laid k Z Y)
theorem Inv.write(I:Inv X pins U H s)(J:Mut (H x))(he:e=x\/H e=some (.own x))(k:∀b u,b≠e->s.heap.get? b=some u->h'.get? b=some u)(Y:∃u,h'.get? e=some u)(Z:Vf X.prog X.w (upd H x o) h' x o):Inv X pins U (upd H x o) {s with heap:=h',toks:=t'}:=I.un (Un.write J he k Y) (I.hok.write J he k Y Z)
theorem Inv.weak(I:Inv X pins U H s)(J:U'.length=U.length)(w:∀(i:Nat) v,U'[i]?=some (some v)->U[i]?=some (some v)):Inv X pins U' H s:=
 ⟨I.ok,I.os,I.bare,I.base,let⟨m,Z,Y⟩:=I.loc;⟨m,Z,fun i x v M L G=>Y i x v M (w i v L) G⟩,I.cell,I.free,I.freeC,I.pin,I.hok,J.trans I.len⟩
theorem Inv.pins_of(I:Inv X pins U H s)(h:∀p∈pins',s.heap.get? p.1=some p.2/\H p.1=none/\p.1≠X.env.locals/\p.1∉X.fs/\∀v,p.2.data≠.cell v):Inv X pins' U H s:=
 ⟨I.ok,I.os,I.bare,I.base,I.loc,I.cell,I.free,I.freeC,fun p Y=>(ZV.mp Y).elim (fun z=>I.pin p (List.mem_append_left _ z)) (h p),I.hok,I.len⟩
theorem NC{N:List Str}(Y:N.Nodup){i j:Nat}(a:N[i]?=some x)(b:N[j]?=some x):i=j:=by
 obtain⟨L,J⟩:=ZE.mp a;obtain⟨G,Z⟩:=ZE.mp b;exact(List.getElem_inj Y).mp (J.trans Z.symm)
theorem RK(I:Inv X pins U H s)(hN:X.N.Nodup)(hi:X.N[i]?=some x)(hx:Loc X.env.scope x)(r:RelV v u)(h:∀w,Inv X pins (U.set i (some v)) H w->(∃a,Heap.SameBut a s.heap w.heap/\(a=X.env.locals\/X.env.cells.lookup x=some a))->Q () w)(hf:X.fn x=true\/X.env.scope.names.lookup x=some .local:=by first|exact .inl rfl|exact .inr rfl|assumption):wpAny M A (storeName X.env x u) Q E s:=by
 obtain⟨m,hn,hl⟩:=id I.loc;have S:(X.env.scope.kind==.class || (X.env.scope.kind==.module && X.env.locals !=X.env.globals))=false:=by rw[I.ok.kind];rfl
 have O:i<U.length:=by rw[I.len];exact(ZE.mp hi).1
 have T:=I.cne
 have tracked:∀{a:Addr}{B:Heap},(∃o,s.heap.get? a=some o/\H a=none)->Heap.SameBut a s.heap B->HOk X.prog X.w H B:=fun{a B} ha Y b ob e=>by
  obtain⟨_,_,G⟩:=ha;refine(I.hok b ob e).stay (fun c P J q=>(Y.2 c ?_).trans q) (fun _ q=>q) fun _ _ q=>q;rintro rfl;rcases J with rfl|J
  .rw [G]at e;cases e
  .rw [G]at J;cases J
 rcases hx with N|N
 .refine wpAny_storeName_local N hn (fun B Z9 Y=>?_) S
  obtain⟨oL,_,_,Z8,_⟩:=id hn;refine h _ ⟨I.ok,I.os,I.bare,⟨fun b o e n R hx=>?_,fun b o e n R hx=>?_,I.base.free,fun b o e hx=>?_,I.base.tups,I.base.frzs,I.base.tbls⟩,⟨_,Z9,fun j y g Z L e3=>?_⟩,fun y c e=>?_,I.free,I.freeC,fun p hp=>?_,tracked ⟨oL,Z8,I.free⟩ Y,by simpa using I.len⟩ ⟨_,Y,.inl rfl⟩
  .exact (Y.2 b (Zc (Zv (ZN e) I.ok.above))).trans (I.base.keep b o e n R hx)
  .obtain ⟨sl,Z⟩:=I.base.slot b o e n R hx
   exact⟨sl,(Y.2 b (Zc (Zv (ZN e) I.ok.above))).trans Z⟩
  .obtain ⟨o',Z⟩:=I.base.there b o e hx
   exact⟨o',(Y.2 b (Zc (Zv (ZN e) I.ok.above))).trans Z⟩
  .by_cases hj:j=i
   .subst hj
    rw[hi]at Z;cases Z;rw[List.getElem?_set_self O]at L;cases L;exact⟨u,r,.inl ⟨N,by simp⟩⟩
   .rw [List.getElem?_set_ne (Zq hj)]at L
    obtain⟨f,l,q⟩:=hl j y g Z L e3;refine⟨f,l,?_⟩;rcases q with⟨k,e⟩|⟨k,c,e,z⟩
    .refine .inl ⟨k,?_⟩
     have:y≠x:=fun e=>hj (NC hN Z (e ▸ hi));simp[this,e]
    .exact .inr ⟨k,c,e,z.sameBut Y (T y c e)⟩
  .obtain ⟨P,z⟩:=I.cell y c e
   exact⟨P,z.sameBut Y (T y c e)⟩
  .obtain ⟨e,n,ne,nf,d⟩:=I.pin p hp
   exact⟨(Y.2 p.1 ne).trans e,n,ne,nf,d⟩
 .have hfn:X.fn x=true:=by
   rcases hf with z|z
   .exact z
   .rw [z]at N;cases N
  obtain⟨c,J⟩:=I.ok.has x (.inl N);obtain⟨P,z⟩:=I.cell x c J;refine wpAny_storeName_cell I.ok.kind N J z (fun B C Y=>?_);obtain⟨oc,F,D⟩:=id z;refine h {s with heap:=B} ⟨I.ok,I.os,I.bare,⟨fun b o e n R hx=>?_,fun b o e n R hx=>?_,I.base.free,fun b o e hx=>?_,I.base.tups,I.base.frzs,I.base.tbls⟩,⟨m,hn.sameBut Y (Zq (T x c J)),fun j y g Z L e3=>?_⟩,fun y t e=>?_,I.free,I.freeC,fun p hp=>?_,tracked ⟨oc,F,I.freeC x c J⟩ Y,by simpa using I.len⟩ ⟨c,Y,.inr J⟩
  .exact (Y.2 b (Zc (Zv (ZN e) (I.ok.cab x c hfn J)))).trans (I.base.keep b o e n R hx)
  .obtain ⟨sl,Z⟩:=I.base.slot b o e n R hx
   exact⟨sl,(Y.2 b (Zc (Zv (ZN e) (I.ok.cab x c hfn J)))).trans Z⟩
  .obtain ⟨o',Z⟩:=I.base.there b o e hx
   exact⟨o',(Y.2 b (Zc (Zv (ZN e) (I.ok.cab x c hfn J)))).trans Z⟩
  .by_cases hj:j=i
   .subst hj
    rw[hi]at Z;cases Z;rw[List.getElem?_set_self O]at L;cases L;exact⟨u,r,.inr ⟨.inl N,c,J,C⟩⟩
   .rw [List.getElem?_set_ne (Zq hj)]at L
    obtain⟨f,l,q⟩:=hl j y g Z L e3;refine⟨f,l,?_⟩;rcases q with q|⟨k,t,e,z'⟩
    .exact .inl q
    .refine .inr ⟨k,t,e,z'.sameBut Y ?_⟩
     rintro rfl;exact hj (NC hN Z (I.ok.inj _ _ _ e J ▸ hi))
  .by_cases hcc:t=c
   .subst hcc;exact⟨_,C⟩
   .obtain ⟨w2,z2⟩:=I.cell y t e
    exact⟨w2,z2.sameBut Y hcc⟩
  .obtain ⟨e,n,ne,nf,d⟩:=I.pin p hp
   refine⟨(Y.2 p.1 ?_).trans e,n,ne,nf,d⟩;intro q;rw[q,F]at e;have q':oc=p.2:=ZP e;exact d P (by rw[<-q'];exact D)
theorem Gw(I:Inv X pins U H s)(J:X.N.Nodup)(hi:X.N[i]?=some x)(hx:Loc X.env.scope x)(r:RelV v u)(h:∀Y,Inv X pins (U.set i (some v)) H Y->Q () Y)(Z:X.fn x=true\/X.env.scope.names.lookup x=some .local:=by first|exact .inl rfl|exact .inr rfl|assumption):wpAny M A (storeName X.env x u) Q E s:=
 RK I J hi hx r (fun Y G _=>h Y G) Z
theorem Inv.call'(I:Inv X pins U H s)(G:s'.os=s.os)(u:Un (frs X.stack) ch H H' s.heap s'.heap)(Y:HOk X.prog X.w H' s'.heap)(L:AllBare s'.gens)(Z:∀b∈ch,(b∈X.ex\/X.s₀.heap.objs.size<=b)/\b≠X.env.locals/\(∀x c,X.env.cells.lookup x=some c->c≠b)/\∀p∈X.pn++ pins,p.1≠b):Inv X pins U H' s':=by
 obtain⟨M,g',d',t',J⟩:=s';have e:J=s.os:=G;subst e;exact I.call (g':=g') (t':=t') (d':=d') u Y L Z
end
abbrev XK:=Value->Option Addr->Hp->Prop
abbrev St:=List (Option V)
abbrev VK:=V->Hp->Prop
abbrev TE:=St->Hp->VK->Prop
abbrev TT:=St->Hp->(Bool->Hp->Prop)->Prop
abbrev TA:=St->Hp->(List V->Hp->Prop)->Prop
structure Ends where
 nx:St->Hp->Prop
 rt:VK
 bk:St->Hp->Prop:=fun _ _=>False
 ct:St->Hp->Prop:=fun _ _=>False
abbrev TS:=Ends->St->Hp->Prop
def EP(X:Cx)(pins:List (Addr×Obj))(U:St)(Q:VK)(u:Value)(s':Shared):Prop:=∃v H',Inv X pins U H' s'/\RelV v u/\Q v H'
def TP(X:Cx)(pins:List (Addr×Obj))(U:St)(Q:Bool->Hp->Prop)(b:Bool)(s':Shared):Prop:=∃H',Inv X pins U H' s'/\Q b H'
def AP(X:Cx)(pins:List (Addr×Obj))(U:St)(Q:List V->Hp->Prop)(us:List Value)(s':Shared):Prop:=∃vs H',Inv X pins U H' s'/\Vals vs us/\Q vs H'
def SP(X:Cx)(pins:List (Addr×Obj))(D:Ends)(f:Flow)(s':Shared):Prop:=
 match f with
 |.next=>∃U' H',Inv X pins U' H' s'/\D.nx U' H'
 |.brk=>∃U' H',Inv X pins U' H' s'/\D.bk U' H'
 |.cont=>∃U' H',Inv X pins U' H' s'/\D.ct U' H'
 |.ret u=>∃v U' H',Inv X pins U' H' s'/\RelV v u/\D.rt v H'
def PE(X:Cx)(e:Expr)(t:TE):Prop:=
 ∀(pins:List (Addr×Obj))(s:Shared)(U:St)(H:Hp)(Q:VK),Inv X pins U H s->t U H Q->wpAny (model X.prog X.w) X.A (eval e X.env) (EP X pins U Q) X.xe s
def PT(X:Cx)(e:Expr)(t:TT):Prop:=
 ∀(pins:List (Addr×Obj))(s:Shared)(U:St)(H:Hp)(Q:Bool->Hp->Prop),Inv X pins U H s->t U H Q->wpAny (model X.prog X.w) X.A (isTrue e X.env (eval e X.env)) (TP X pins U Q) X.xe s
def PW(X:Cx)(e:Expr)(t:TT):Prop:=
 ∀(whole:Sem Value)(pins:List (Addr×Obj))(s:Shared)(U:St)(H:Hp)(Q:Bool->Hp->Prop),Inv X pins U H s->t U H Q->wpAny (model X.prog X.w) X.A (isTrue e X.env whole) (TP X pins U Q) X.xe s
theorem PW.pt(h:PW X e t):PT X e t:=h _
def PA(X:Cx)(es:List Expr)(t:TA):Prop:=
 ∀(pos:Pos)(pins:List (Addr×Obj))(s:Shared)(U:St)(H:Hp)(Q:List V->Hp->Prop),Inv X pins U H s->t U H Q->wpAny (model X.prog X.w) X.A (spliced (backTo pos (starEach es X.env))) (AP X pins U Q) X.xe s
def PS(X:Cx)(st:Stmt)(t:TS):Prop:=
 ∀(pins:List (Addr×Obj))(s:Shared)(U:St)(H:Hp)(D:Ends),Inv X pins U H s->t D U H->wpAny (model X.prog X.w) X.A (exec st X.env) (SP X pins D) X.xe s
def PSs(X:Cx)(st:List Stmt)(t:TS):Prop:=
 ∀(pins:List (Addr×Obj))(s:Shared)(U:St)(H:Hp)(D:Ends),Inv X pins U H s->t D U H->wpAny (model X.prog X.w) X.A (execs st X.env) (SP X pins D) X.xe s
theorem thn(h:wpAny M A t Q E s)(Y:∀a s,Q a s->Q' a s):wpAny M A t Q' E s:=Zl h Y fun _ _ x=>x
end L2
namespace L2
open PySem PySem.Spec PyProof.Rows
section
variable{X:Cx}
def Fa(o:Option (Option V))(P:V->Prop):Prop:=match o with
 |some (some v)=>P v
 |_=>False
theorem Fa.old(h:Fa o P):∃v,o=some (some v)/\P v:=by
 match o,h with
 |some (some v),h=>exact⟨v,rfl,h⟩
def J9(x:V)(P:Int->Prop):Prop:=match x with
 |.int c=>P c
 |_=>False
theorem J9.old(h:J9 x P):∃c,x=.int c/\P c:=by
 cases x <;> first|exact⟨_,rfl,h⟩|exact h.elim
def Jr(x:V)(P:Addr->Prop):Prop:=match x with
 |.ref c=>P c
 |_=>False
theorem Jr.old(h:Jr x P):∃c,x=.ref c/\P c:=by
 cases x <;> first|exact⟨_,rfl,h⟩|exact h.elim
def Nk(i:Nat):TE:=fun U H Q=>Fa U[i]? fun v=>Q v H
def tC(v:V):TE:=fun _ H Q=>Q v H
theorem Qx(D:X.N[i]?=some x)(O:Vis X.env.scope x)(L:(x==("__debug__":Str))=false:=by decide)(M:(x==("__classdict__":Str))=false:=by decide):PE X (.Name x pos) (Nk i):=by
 intro G s U H Q I h;replace h:=Fa.old h;obtain⟨v,e,h⟩:=h;obtain⟨m,R,B⟩:=I.loc;obtain⟨u,r,l⟩:=B i x v D e O;have J:EP X G U Q u s:=⟨v,H,I,r,h⟩;rcases l with⟨Z,T⟩|⟨Z,c,N,Y⟩
 .exact wpAny_Name (wpAny_loadName_local I.ok.kind Z R T J) L
 .rcases Z with Z|Z
  .exact wpAny_Name (wpAny_loadName_cell I.ok.kind Z N Y J) L
  .exact wpAny_Name (wpAny_loadName_free I.ok.kind Z N Y J M) L
theorem YX:PE X (.Constant (.int i) j pos) (tC (.int i)):=fun _ _ _ H _ I h=>wpAny_Constant_int ⟨.int i,H,I.tok _,⟨_,rfl⟩,h⟩
theorem RO:PE X (.Constant (.bool b) j pos) (tC (.bl b)):=fun _ _ _ H _ I h=>Constant_bool ⟨.bl b,H,I,rfl,h⟩
theorem VZ:PE X (.Constant .none j pos) (tC .non):=fun _ _ _ H _ I h=>Constant_none ⟨.non,H,I,rfl,h⟩
theorem Yn:PE X (.Constant (.str x) j pos) (tC (.str x)):=fun _ _ _ H _ I h=>Calls.Constant_str ⟨.str x,H,I.tok _,⟨_,rfl⟩,h⟩
def Gl(X:Cx)(x:Str):Prop:=X.env.kindOf x=some .globalImplicit
theorem Gd(I:Inv X pins U H s)(Z:Gl X x)(Y:X.mg x=some u)(h:Q u s)(J:(x==("__debug__":Str))=false:=by decide):wpAny (model X.prog X.w) X.A (eval (.Name x pos) X.env) Q E s:=
 Calls.Name_function_global I.ok.kind Z (Calls.loadGlobal_global (by rw[I.ok.glob];exact I.mod.glob.keeps I.bk) Y h) J
theorem Wh(I:Inv X pins U H s)(G:Gl X x)(J:X.mg x=none)(Y:bootBuiltins x=some u)(h:Q u s)(Z:x≠"__name__":=by decide)(L:(x==("__debug__":Str))=false:=by decide):wpAny (model X.prog X.w) X.A (eval (.Name x pos) X.env) Q E s:=by
 obtain⟨O,N,M⟩:=I.mod.blt;exact Calls.Name_function_global I.ok.kind G (Calls.loadGlobal_builtin (by rw[I.ok.glob];exact I.mod.glob.keeps I.bk) J (by rw[I.ok.blt];exact N.keeps I.bk) ((M x Z).trans Y) h) L
theorem Jk(Z:Gl X x)(Y:X.mg x=some u)(r:RelV v u)(J:(x==("__debug__":Str))=false:=by decide):PE X (.Name x pos) (tC v):=
 fun _ _ _ H _ I h=>Gd I Z Y ⟨v,H,I,r,h⟩ J
theorem L9(G:Gl X x)(J:X.mg x=none)(Y:bootBuiltins x=some u)(r:RelV v u)(Z:x≠"__name__":=by decide)(L:(x==("__debug__":Str))=false:=by decide):PE X (.Name x pos) (tC v):=
 fun _ _ _ H _ I h=>Wh I G J Y ⟨v,H,I,r,h⟩ Z L
variable{a b:Expr}{ta tb:TE}{pos:Pos}
def PC(X:Cx)(op:CmpOp)(a b:Expr)(t:TE):Prop:=
 ∀(pins:List (Addr×Obj))(s:Shared)(U:St)(H:Hp)(Q:VK),Inv X pins U H s->t U H Q->
  wpAny (model X.prog X.w) X.A (eval a X.env) (fun v s₁=>wpAny (model X.prog X.w) X.A (eval b X.env) (fun u s₂=>wpAny (model X.prog X.w) X.A (compareOp op v u) (EP X pins U Q) X.xe s₂) X.xe s₁) X.xe s
def tB(t:TE):TT:=fun U H Q=>t U H fun x H1=>∃c,x=.bl c/\Q c H1
theorem Ju(h:PC X op a b t)(Z:behindInMarks op b=false:=by first|exact nobehind _ (by decide) (by decide)|rfl):PT X (.Compare a [op] [b] pos) (tB t):=by
 intro Y s U H Q I L;refine wpAny_isTrue_Compare1 (thn (h Y s U H _ I L) fun v B Z=>thn Z fun u T M=>thn M fun c R ⟨x,O,N,J,G⟩=>?_) Z;obtain⟨d,rfl,q⟩:=G;cases J;exact wpAny_truthy_bool ⟨O,N,q⟩
theorem V9(h:PE X e t)(he:∀whole,isTrue e X.env whole=(do let v <-whole;standAt e.pos;holding [v] (truthy v)):=by intro _;rfl):PT X e (tB t):=by
 intro Y s U H Q I G;refine isTrue_plain (thn (h Y s U H _ I G) fun v N ⟨x,M,L,Z,J⟩=>?_) (he _);obtain⟨d,rfl,q⟩:=J;cases Z;exact wpAny_truthy_bool ⟨M,L,q⟩
variable{rest:List Expr}
def zm(t u:TT):TT:=fun U H Q=>t U H fun c H1=>if c=true then u U H1 Q else Q false H1
def tOr(t u:TT):TT:=fun U H Q=>t U H fun c H1=>if c=true then Q true H1 else u U H1 Q
def zf(t:TT):TT:=fun U H Q=>t U H fun c H1=>Q (!c) H1
theorem JH(Z:PT X a tA):PW X (.BoolOp .And [a] pos) tA:=by
 intro J Y s U H Q I h;refine isTrue_and (thn (Z Y s U H Q I h) fun c G e=>?_)
 cases c with
 |true=>exact isTrue_and_nil e
 |false=>exact e
theorem Js(Z:PT X a tA):PW X (.BoolOp .Or [a] pos) tA:=by
 intro J Y s U H Q I h;refine isTrue_or (thn (Z Y s U H Q I h) fun c G e=>?_)
 cases c with
 |false=>exact isTrue_or_nil e
 |true=>exact e
theorem JU(O:PT X a tA)(N:PW X (.BoolOp .And (b::rest) pos) tB'):PW X (.BoolOp .And (a::b::rest) pos) (zm tA tB'):=by
 intro L Y s U H Q I h;refine isTrue_and (thn (O Y s U H _ I h) fun c M ⟨G,J,Z⟩=>?_)
 cases c with
 |true=>exact N L Y M U G Q J Z
 |false=>exact⟨G,J,Z⟩
theorem UK(O:PT X a tA)(N:PW X (.BoolOp .Or (b::rest) pos) tB'):PW X (.BoolOp .Or (a::b::rest) pos) (tOr tA tB'):=by
 intro L Y s U H Q I h;refine isTrue_or (thn (O Y s U H _ I h) fun c M ⟨G,J,Z⟩=>?_)
 cases c with
 |true=>exact⟨G,J,Z⟩
 |false=>exact N L Y M U G Q J Z
theorem Jt(Z:PT X a tA):PT X (.UnaryOp .Not a pos) (zf tA):=by
 intro Y s U H Q I h;exact isTrue_not (Z Y s U H (fun c J=>Q (!c) J) I h)
def S3(ta tb:TE):TE:=fun U H Q=>ta U H fun x H1=>∃c,x=.bl c/\if c=true then tb U H1 Q else Q (.bl false) H1
def ze(ta tb:TE):TE:=fun U H Q=>ta U H fun x H1=>∃c,x=.bl c/\if c=true then Q (.bl true) H1 else tb U H1 Q
def Ss(ta:TE):TE:=fun U H Q=>ta U H fun x H1=>∃c,x=.bl c/\Q (.bl (!c)) H1
theorem Up(h:PE X a t):PE X (.BoolOp op [a] pos) t:=fun Y s U H Q I Z=>BoolOp_one (h Y s U H Q I Z)
theorem UV(O:PE X a ta)(N:PE X (.BoolOp .And (b::rest) pos) tb):PE X (.BoolOp .And (a::b::rest) pos) (S3 ta tb):=by
 intro Y s U H Q I h;refine BoolOp_and (thn (O Y s U H _ I h) fun v L ⟨x,G,J,M,Z⟩=>?_);obtain⟨c,rfl,Z⟩:=Z;cases M;refine wpAny_truthy_bool ?_
 cases c with
 |true=>exact N Y L U G Q J Z
 |false=>exact⟨.bl false,G,J,rfl,Z⟩
theorem AA(O:PE X a ta)(N:PE X (.BoolOp .Or (b::rest) pos) tb):PE X (.BoolOp .Or (a::b::rest) pos) (ze ta tb):=by
 intro Y s U H Q I h;refine BoolOp_or (thn (O Y s U H _ I h) fun v L ⟨x,G,J,M,Z⟩=>?_);obtain⟨c,rfl,Z⟩:=Z;cases M;refine wpAny_truthy_bool ?_
 cases c with
 |false=>exact N Y L U G Q J Z
 |true=>exact⟨.bl true,G,J,rfl,Z⟩
theorem Qy(G:PE X a ta):PE X (.UnaryOp .Not a pos) (Ss ta):=by
 intro Y s U H Q I h;refine UnaryOp_ (thn (G Y s U H _ I h) fun v N ⟨x,M,L,J,Z⟩=>?_);obtain⟨c,rfl,Z⟩:=Z;cases J;exact not_of (wpAny_truthy_bool ⟨.bl (!c),M,L,rfl,Z⟩)
end
end L2
namespace L2
open PySem PySem.Spec PyProof.Rows
def SqL(K:W.Frag)(H:Hp)(a:Addr)(xs:List V):Prop:=
 Rd H a (.lst xs) \/
  ∃(o:Obj)(its:Array Value)(n:Nat),K.lookup a=some o/\o.cls=.type "list" /\o.dict=none/\o.data=.seq its n/\its.size<=sizeLine/\Vals xs its.toList
def SqT(K:W.Frag)(H:Hp)(a:Addr)(xs:List V):Prop:=
 Rd H a (.tup xs) \/
  ∃(o:Obj)(its:Array Value)(n:Nat),K.lookup a=some o/\o.cls=.type "tuple" /\o.data=.seq its n/\its.size<=sizeLine/\Vals xs its.toList
def yh:Value->Option V
 |.none=>some .non
 |.bool b=>some (.bl b)
 |.int i _=>some (.int i)
 |.str x _=>some (.str x)
 |.bytes b _=>some (.byt b)
 |.float b _=>some (.flt b)
 |.ref a=>some (.ref a)
 |.type n=>some (.ty n)
 |_=>none
theorem RelV.abs(r:RelV x u):yh u=some x:=by
 cases x with
 |non=>cases r;rfl
 |bl _=>cases r;rfl
 |int _=>obtain⟨t,rfl⟩:=r;rfl
 |str _=>obtain⟨t,rfl⟩:=r;rfl
 |byt _=>obtain⟨t,rfl⟩:=r;rfl
 |flt _=>obtain⟨t,rfl⟩:=r;rfl
 |ref _=>cases r;rfl
 |ty _=>cases r;rfl
theorem RelV.inj(r:RelV x u)(q:RelV y u):x=y:=ZP (r.abs.symm.trans q.abs)
theorem Vals.inj:∀{xs ys:List V}{us:List Value},Vals xs us->Vals ys us->xs=ys
 |_,_,_,.nil,.nil=>rfl
 |_,_,_,.cons r t,.cons r' t'=>by rw[r.inj r',Vals.inj t t']
section
theorem SqL.of{K:W.Frag}(h:H a=some (.lst xs)):SqL K H a xs:=.inl (.inl h)
abbrev Z1:=@SqL.of
theorem SqT.of{K:W.Frag}(h:H a=some (.tup xs)):SqT K H a xs:=.inl (.inl h)
abbrev Z0:=@SqT.of
theorem Inv.list(I:Inv X pins U H s)(h:SqL X.K H a xs):∃Y:List Value,Vals xs Y/\PlainL s.heap a Y.toArray/\xs.length<=sizeLine:=by
 rcases h with h|⟨o,Y,n,G,M,L,J,Z,r⟩
 .obtain ⟨z,Y,n,r,e⟩:=h.ok I.hok
  exact⟨Y,r,⟨_,n,e,rfl,rfl,rfl⟩,z⟩
 .refine ⟨Y.toList,r,⟨o,n,I.kIn a o G,M,L,by simpa using J⟩,?_⟩
  have e:=r.length;simp only[Array.length_toList]at e;exact P3 e Z
theorem Inv.tuple(I:Inv X pins U H s)(h:SqT X.K H a xs):∃Y:List Value,Vals xs Y/\IsTup s.heap a Y.toArray/\xs.length<=sizeLine:=by
 rcases h with h|⟨o,Y,n,G,L,J,Z,r⟩
 .obtain ⟨z,Y,r,p⟩:=h.ok I.hok
  exact⟨Y,r,p.is,z⟩
 .refine ⟨Y.toList,r,⟨o,I.kIn a o G,L,n,by simpa using J⟩,?_⟩
  have e:=r.length;simp only[Array.length_toList]at e;exact P3 e Z
theorem Inv.list_inj(I:Inv X pins U H s)(h:SqL X.K H a xs)(h':SqL X.K H a ys):xs=ys:=by
 obtain⟨Z,r,⟨o,n,e,_,_,d⟩,_⟩:=I.list h;obtain⟨Y,L,⟨N,O,J,_,_,G⟩,_⟩:=I.list h';rw[e]at J;cases J;rw[d]at G;injection G with M _;have:Z=Y:=by simpa using congrArg Array.toList M
 subst this;exact r.inj L
theorem Inv.tuple_inj(I:Inv X pins U H s)(h:SqT X.K H a xs)(h':SqT X.K H a ys):xs=ys:=by
 obtain⟨Z,r,⟨o,e,_,n,d⟩,_⟩:=I.tuple h;obtain⟨Y,L,⟨N,J,_,O,G⟩,_⟩:=I.tuple h';rw[e]at J;cases J;rw[d]at G;injection G with M _;have:Z=Y:=by simpa using congrArg Array.toList M
 subst this;exact r.inj L
end
abbrev Cx.wish(X:Cx)(E:Value->Shared->Prop):Cx:={X with xe:=E}
abbrev Cx.nox(X:Cx):Cx:=X.wish fun _ _=>False
theorem Cx.Ok.wish{X:Cx}(Y:X.Ok)(E:Value->Shared->Prop):(X.wish E).Ok:=
 ⟨Y.mod,Y.kind,Y.glob,Y.blt,Y.above,Y.inj,Y.has,Y.cab,Y.hd,Y.frames,Y.stk,Y.exf,Y.bs,Y.bsz,Y.noex,Y.exfs,Y.funs,Y.frf⟩
theorem Cx.Ok.unwish{X:Cx}(Y:(X.wish E).Ok):X.Ok:=
 ⟨Y.mod,Y.kind,Y.glob,Y.blt,Y.above,Y.inj,Y.has,Y.cab,Y.hd,Y.frames,Y.stk,Y.exf,Y.bs,Y.bsz,Y.noex,Y.exfs,Y.funs,Y.frf⟩
section
theorem Inv.wish(I:Inv X pins U H s)(E:Value->Shared->Prop):Inv (X.wish E) pins U H s:=⟨I.ok.wish E,I.os,I.bare,I.base,I.loc,I.cell,I.free,I.freeC,I.pin,I.hok,I.len⟩
theorem Inv.unwish(I:Inv (X.wish E) pins U H s):Inv X pins U H s:=⟨I.ok.unwish,I.os,I.bare,I.base,I.loc,I.cell,I.free,I.freeC,I.pin,I.hok,I.len⟩
theorem SP.unwish(h:SP (X.wish E) pins D f s'):SP X pins D f s':=by
 cases f with
 |next=>obtain⟨Y,Z,I,q⟩:=h;exact⟨Y,Z,I.unwish,q⟩
 |brk=>obtain⟨Y,Z,I,q⟩:=h;exact⟨Y,Z,I.unwish,q⟩
 |cont=>obtain⟨Y,Z,I,q⟩:=h;exact⟨Y,Z,I.unwish,q⟩
 |ret u=>obtain⟨v,Y,Z,I,r,q⟩:=h;exact⟨v,Y,Z,I.unwish,r,q⟩
theorem PSs.nox{st:List Stmt}(h:PSs X.nox st t):PSs X st t:=fun Y s U H D I Z=>
 Zl (h Y s U H D (I.wish _) Z) (fun _ _ q=>q.unwish) fun _ _ z=>False.elim z
end
section
variable{st:Stmt}{rest:List Stmt}{t u:TS}{te:TE}
def Su:TS:=fun D U H=>D.nx U H
def Yj(t u:TS):TS:=fun D U H=>t {D with nx:=u D} U H
theorem Yl:PSs X [] Su:=fun _ _ U H _ I h=>wpAny_execs_nil ⟨U,H,I,h⟩
theorem YW(G:PS X st t)(J:PSs X rest u):PSs X (st::rest) (Yj t u):=by
 intro Y s U H D I h;refine wpAny_execs_cons (thn (G Y s U H {D with nx:=u D} I h) fun f Z q=>?_)
 cases f with
 |next=>
  obtain⟨L,N,M,q⟩:=q;exact J Y Z L N D M q
 |ret v=>exact q
 |brk=>exact q
 |cont=>exact q
theorem YZ(Z:PS X st t):PSs X [st] t:=by
 intro Y s U H D I h;refine wpAny_execs_cons (thn (Z Y s U H D I h) fun f J q=>?_)
 cases f with
 |next=>exact wpAny_execs_nil q
 |ret v=>exact q
 |brk=>exact q
 |cont=>exact q
theorem Inv.quiet(I:Inv X pins U H s):interactive X.env=false:=by simp[interactive,I.ok.kind]
def Sz(te:TE):TS:=fun D U H=>te U H fun _ H1=>D.nx U H1
theorem JB(he:PE X e te)(J:swapsWith e none pos.line X.env=pure false:=by rfl):PS X (.Expr e pos) (Sz te):=by
 intro Y s U H D I h;exact wpAny_Expr_any (thn (he Y s U H _ I h) fun v M ⟨x,L,G,N,Z⟩=>⟨U,L,G,Z⟩) I.quiet J
def zd(te:TE):TS:=fun D U H=>te U H D.rt
theorem Yf(he:PE X e te):PS X (.Return (some e) pos) (zd te):=by
 intro Y s U H D I h;exact wpAny_Return_some (thn (he Y s U H _ I h) fun v M ⟨x,L,G,Z,J⟩=>⟨x,U,L,G,Z,J⟩)
def Y9(c:TT)(t u:TS):TS:=fun D U H=>c U H fun b H1=>if b=true then t D U H1 else u D U H1
theorem Yx(M:PT X c tc)(O:PSs X a t)(N:PSs X b u):PS X (.If c a b pos) (Y9 tc t u):=by
 intro Y s U H D I h;refine wpAny_If (thn (M Y s U H _ I h) fun d Z ⟨L,G,J⟩=>?_)
 cases d with
 |true=>exact O Y Z U L D G J
 |false=>exact N Y Z U L D G J
end
abbrev TG:=V->St->Hp->(St->Hp->Prop)->Prop
abbrev TGs:=List V->St->Hp->(St->Hp->Prop)->Prop
def PG(X:Cx)(target:Expr)(t:TG):Prop:=
 ∀(pins:List (Addr×Obj))(s:Shared)(U:St)(H:Hp)(v:V)(u:Value)(Q:St->Hp->Prop),Inv X pins U H s->RelV v u->t v U H Q->
  wpAny (model X.prog X.w) X.A (assign target X.env u) (fun _ s'=>∃U' H',Inv X pins U' H' s'/\Q U' H') X.xe s
def PGs(X:Cx)(ts:List Expr)(t:TGs):Prop:=
 ∀(pins:List (Addr×Obj))(s:Shared)(U:St)(H:Hp)(vs:List V)(us:List Value)(Q:St->Hp->Prop),Inv X pins U H s->Vals vs us->t vs U H Q->
  wpAny (model X.prog X.w) X.A (assignInOrder ((assignEach ts X.env).map (·.2)) us) (fun _ s'=>∃U' H',Inv X pins U' H' s'/\Q U' H') X.xe s
abbrev zY:=V->V->V->Hp->(Hp->Prop)->Prop
def zZ(X:Cx)(t:zY):Prop:=
 ∀(pins:List (Addr×Obj))(s:Shared)(U:St)(H:Hp)(o i v:V)(ov iv u:Value)(Q:Hp->Prop),Inv X pins U H s->RelV o ov->RelV i iv->RelV v u->t o i v H Q->
  wpAny (model X.prog X.w) X.A (setItem ov iv u) (fun _ s'=>∃H',Inv X pins U H' s'/\Q H') X.xe s
abbrev TIp:=V->V->Hp->VK->Prop
def PIp(X:Cx)(op:Operator)(t:TIp):Prop:=
 ∀(pins:List (Addr×Obj))(s:Shared)(U:St)(H:Hp)(x y:V)(v u:Value)(Q:VK),Inv X pins U H s->RelV x v->RelV y u->t x y H Q->
  wpAny (model X.prog X.w) X.A (inplaceOp op v u) (EP X pins U Q) X.xe s
section
variable{X:Cx}
def JG(i:Nat):TG:=fun v U H Q=>Q (U.set i (some v)) H
theorem Yk(i:Nat)(J:X.N.Nodup)(hi:X.N[i]?=some x:=by exact rfl)(hx:Loc X.env.scope x:=by exact Or.inl rfl)(Z:X.fn x=true\/X.env.scope.names.lookup x=some .local:=by first|exact .inl rfl|exact .inr rfl|assumption):PG X (.Name x pos) (JG i):=by
 intro Y s U H v u Q I r h;exact wpAny_assign_Name (Gw I J hi hx r (fun L G=>⟨_,H,G,h⟩) Z)
def Bz:TGs:=fun vs U H Q=>match vs with
 |[]=>Q U H
 |_=>False
theorem Bz.old(h:Bz vs U H Q):vs=[]/\Q U H:=by
 match vs,h with
 |[],h=>exact⟨rfl,h⟩
def XM(t:TG)(u:TGs):TGs:=fun vs U H Q=>match vs with
 |v::r=>t v U H fun U' H'=>u r U' H' Q
 |_=>False
theorem XM.old(h:XM t u vs U H Q):∃v r,vs=v::r/\t v U H fun Y H'=>u r Y H' Q:=by
 match vs,h with
 |v::r,h=>exact⟨v,r,rfl,h⟩
theorem VO:PGs X [] Bz:=by
 intro Y s U H Z J Q I r h;replace h:=Bz.old h;obtain⟨e,h⟩:=h;subst e;cases r;exact assignInOrder_nil ⟨U,H,I,h⟩
theorem Ys(N:PG X e t)(M:PGs X es u)(L:(assignEach (e::es) X.env).map (·.2)=assign e X.env::(assignEach es X.env).map (·.2):=by rfl):PGs X (e::es) (XM t u):=by
 intro Y s U H B E Q I r h;replace h:=XM.old h;obtain⟨v,D,O,h⟩:=h;subst O
 cases r with
 |cons r J=>
  rw[L];refine assignInOrder_cons (thn (N Y s U H _ _ _ I r h) fun _ Z ⟨σ1,T,R,G⟩=>?_);exact M Y Z σ1 T _ _ Q R J G
def Ox(K:W.Frag)(n:Nat)(t:TGs):TG:=fun v U H Q=>Jr v fun a=>∃xs,SqT K H a xs/\xs.length=n/\t xs U H Q
theorem Vn(D:X.calm=true)(h:PGs X es t)(T:(assignEach es X.env).length=n:=by rfl)(J:(assignEach es X.env).findIdx? (·.1)=none:=by rfl):PG X (.Tuple es k pos) (Ox X.K n t):=by
 intro Y s U H v u Q I r Z;replace Z:=Jr.old Z;obtain⟨a,F,L,R,B,Z⟩:=Z;subst F;cases r;obtain⟨M,G,O,S⟩:=I.tuple R;refine assign_Tuple_tuple (I.ok.hd D) O (by simp[T,<-B,G.length]) J fun E N=>?_;have A:Inv X Y U H {s with heap:=E}:=I.kept (t':=s.toks) fun b o e=>N b o (Zc (ZN e)) e;exact h Y _ U H L _ Q A (by simpa using G) Z
def ya(to ti:TE)(t:zY):TG:=fun v U H Q=>to U H fun o H1=>ti U H1 fun i H2=>t o i v H2 fun H3=>Q U H3
theorem Tg(D:PE X o to)(hi:PE X i ti)(B:zZ X t)(E:∀v,assign (.Subscript o i pos) X.env v=(do
   let Z <-holding [v] (eval o X.env)
   let J <-holding [v,Z] (eval i X.env)
   standAt pos
   holding [v,Z,J] (setItem Z J v)
   release [v,Z,J] []):=by intro _;rfl):PG X (.Subscript o i pos) (ya to ti t):=by
 intro Y s U H v u Q I r h;rw[E];refine Zj (wpAny_holding (thn (D Y s U H _ I h) fun Z L ⟨x,j,S,N,T⟩=>?_));refine Zj (wpAny_holding (thn (hi Y L U j _ S T) fun J G ⟨y,P,A,M,R⟩=>?_));refine Zj (wpAny_standAt (Zj (wpAny_holding (thn (B Y G U P x y v Z J u _ A N M r R) fun _ z ⟨C,F,O⟩=>?_))));exact wpAny_release ⟨U,C,F,O⟩
def EY(te:TE)(g:TG):TS:=fun D U H=>te U H fun x H1=>g x U H1 D.nx
theorem Je(he:PE X e te)(N:PG X tg g)(M:swapsWithSole [tg] e pos.line X.env=pure false:=by rfl)(L:swappedStores [tg] e X.env=pure none:=by rfl)(O:(assignEach [tg] X.env).map (·.2)=[assign tg X.env]:=by rfl):PS X (.Assign [tg] e pos) (EY te g):=by
 intro Y s U H D I h;refine wpAny_Assign_stores (thn (he Y s U H _ I h) fun v Z ⟨x,T,R,J,G⟩=>?_) M L;rw[O];exact thn (N Y Z U T x v _ R J G) fun _ B q=>q
theorem Yp(i:Nat)(M:X.N.Nodup)(he:PE X e te)(hi:X.N[i]?=some x:=by exact rfl)(hx:Loc X.env.scope x:=by exact Or.inl rfl)(G:swapsWith e (some (.Name x pos')) pos.line X.env=pure false:=by rfl)(L:X.fn x=true\/X.env.scope.names.lookup x=some .local:=by first|exact .inl rfl|exact .inr rfl|assumption):
  PS X (.Assign [.Name x pos'] e pos) (EY te (JG i)):=by
 intro Y s U H D I h;refine wpAny_Assign_Name (thn (he Y s U H _ I h) fun v B ⟨y,R,O,Z,J⟩=>?_) G;exact Gw O M hi hx Z (fun T N=>⟨_,R,N,J⟩) L
def zj(i:Nat)(te:TE)(ti:TIp):TS:=fun D U H=>∃x,U[i]?=some (some x)/\te U H fun y H1=>ti x y H1 fun z H2=>D.nx (U.set i (some z)) H2
theorem IT(j:X.N.Nodup)(hi:X.N[i]?=some x)(hx:Loc X.env.scope x)(he:PE X e te)(F:PIp X op ti)(P:X.fn x=true\/X.env.scope.names.lookup x=some .local:=by first|exact .inl rfl|exact .inr rfl|assumption):
  PS X (.AugAssign (.Name x pos') op e pos) (zj i te ti):=by
 intro Y s U H D I h;obtain⟨v,q,h⟩:=h;obtain⟨m,A,C⟩:=I.loc;have M:Vis X.env.scope x:=by rcases hx with k|k;exact .inl k;exact .inr (.inl k)
 obtain⟨u,r,l⟩:=C i x v hi q M;refine wpAny_AugAssign_Name ?_
 have N:wpAny (model X.prog X.w) X.A (eval e X.env) (fun w L=>wpAny (model X.prog X.w) X.A (inplaceOp op u w) (fun r G=>wpAny (model X.prog X.w) X.A (storeName X.env x r) (fun _=>SP X Y D .next) X.xe G) X.xe L) X.xe s:=by
  refine thn (he Y s U H _ I h) fun w O ⟨y,f,p,T,E⟩=>?_;refine thn (F Y O U f v y u w _ p r T E) fun z n ⟨b,d,g,R,B⟩=>?_;exact Gw g j hi hx R (fun o t=>⟨_,d,t,B⟩) P
 rcases l with⟨Z,S⟩|⟨Z,c,Q,J⟩
 .exact wpAny_loadName_local I.ok.kind Z A S N
 .rcases Z with Z|Z
  .exact wpAny_loadName_cell I.ok.kind Z Q J N
  .rcases hx with k|k
   .have:X.env.scope.names.lookup x=some .free:=Z
    rw[k]at this;cases this
   .have:X.env.scope.names.lookup x=some .free:=Z
    rw[k]at this;cases this
end
structure It where
 go:Nat->Hp->Prop
 yld:Nat->Hp->V->Hp->Prop
 stop:Nat->Hp->Prop
def UD(X:Cx)(pins:List (Addr×Obj))(H:Hp)(b:Addr):Prop:=
 H b=none/\b≠X.env.locals/\b∉X.fs/\(b∈X.ex\/X.s₀.heap.objs.size<=b)/\(∀x c,X.env.cells.lookup x=some c->c≠b)/\∀p∈X.pn++ pins,p.1≠b
theorem Inv.fpOk(I:Inv X pins U H s)(Y:s.heap.objs.size<=b)(J:H' b=none):UD X pins H' b:=by
 refine⟨J,Nat.ne_of_gt (Zv I.lt Y),I.nofs Y,.inr (ZZ I.sz Y),fun x c e z=>?_,fun p Z z=>?_⟩
 .obtain ⟨v,q⟩:=I.cell x c e
  exact Zp (Zv q.lt (by rw[z];exact Y)) (Nat.lt_irrefl _)
 .exact Zp (Zv (ZN (I.pin p Z).1) (by rw[z];exact Y)) (Nat.lt_irrefl _)
structure Turn(P:Program)(w:World)(K:W.Frag)(tg:Expr)(J:It)(fp:List Addr)(it:Addr)(tn:Nat->Heap->Prop):Prop where
 mem:it∈fp
 obj:∀i h,tn i h->∀b∈fp,∃o,h.get? b=some o/\∀v,o.data≠.cell v
 keep:∀i h h',tn i h->(∀b∈fp,∀o,h.get? b=some o->h'.get? b=some o)->tn i h'
 item:∀(X:Cx),X.prog=P->X.w=w->X.K=K->X.calm=true->∀(i:Nat)(pins:List (Addr×Obj))(s:Shared)(U:St)(H:Hp)(E:Value->Shared->Prop),Inv X pins U H s->(∀b∈fp,UD X pins H b)->tn i s.heap->J.go i H->
  wpAny (model P w) X.A (pyNext (.ref it)) (fun r s1=>∃u,r=some u/\
   wpAny (model P w) X.A (letOwnedTupleGo tg (.ref it) u) (fun _ s2=>∃x H',Inv X pins U H' s2/\RelV x u/\J.yld i H x H'/\tn (i+1) s2.heap/\∀b∈fp,H' b=none) E s1) E s
 done:∀(X:Cx),X.prog=P->X.w=w->X.K=K->X.calm=true->∀(i:Nat)(pins:List (Addr×Obj))(s:Shared)(U:St)(H:Hp)(E:Value->Shared->Prop),Inv X pins U H s->(∀b∈fp,UD X pins H b)->tn i s.heap->J.stop i H->
  wpAny (model P w) X.A (pyNext (.ref it)) (fun r s1=>r=none/\Inv X pins U H s1) E s
 self:∀(A:Around)(i:Nat)(s:Shared)(Q:Value->Shared->Prop)(E:Value->Shared->Prop),tn i s.heap->Q (.ref it) s->wpAny (model P w) A (pyIter (.ref it)) Q E s
abbrev TI:=St->Hp->(It->Hp->Prop)->Prop
def PIE(X:Cx)(pins:List (Addr×Obj))(U:St)(tg:Expr)(R:It->Hp->Prop)(itv:Value)(s2:Shared):Prop:=
 ∃(it:Addr)(fp:List Addr)(tn:Nat->Heap->Prop)(J:It)(H':Hp),itv=.ref it/\Inv X pins U H' s2/\Turn X.prog X.w X.K tg J fp it tn/\tn 0 s2.heap/\(∀b∈fp,UD X pins H' b)/\R J H'
def PI(X:Cx)(tg iter:Expr)(wi:TI):Prop:=
 ∀(pins:List (Addr×Obj))(s:Shared)(U:St)(H:Hp)(R:It->Hp->Prop),Inv X pins U H s->wi U H R->
  wpAny (model X.prog X.w) X.A (eval iter X.env) (fun v s1=>wpAny (model X.prog X.w) X.A (pyIter v) (PIE X pins U tg R) X.xe s1) X.xe s
theorem LB(Z:s.heap.get? it=some o)(L:o.cls=.type n)(G:o.data=.fields vs)(J:["enumerate","zip","dict_itemiterator","dict_reverseitemiterator","odict_iterator","itertools.zip_longest","itertools.pairwise"].contains n=false)(Y:Q () s):wpAny M A (letOwnedTupleGo tg (.ref it) u) Q E s:=by
  unfold letOwnedTupleGo;cases tg <;> first
    |exact Zk Y
    | (cases u <;> first
        |exact Zk Y
        | (refine Zj (wpAny_load Z ?_)
           rw[L,G];show wpAny M A (if(["enumerate","zip","dict_itemiterator","dict_reverseitemiterator","odict_iterator","itertools.zip_longest","itertools.pairwise"].contains n && vs[0]?==some (rawInt _))=true then _ else _) Q E s;rw[Zo (by intro h;rw[J,Bool.false_and]at h;cases h)];exact Zk Y))
def Itl(K:W.Frag)(a:Addr):It:=
 ⟨fun i H=>∃xs x,SqL K H a xs/\xs[i]?=some x,fun i H x H'=>H'=H/\∀xs,SqL K H a xs->xs[i]?=some x,fun i H=>∃xs,SqL K H a xs/\xs.length<=i⟩
def Itt(K:W.Frag)(a:Addr):It:=
 ⟨fun i H=>∃xs x,SqT K H a xs/\xs[i]?=some x,fun i H x H'=>H'=H/\∀xs,SqT K H a xs->xs[i]?=some x,fun i H=>∃xs,SqT K H a xs/\xs.length<=i⟩
def Itr(lo:Int)(n:Nat):It:=⟨fun i _=>i<n,fun i H x H'=>H'=H/\x=.int (lo+i),fun i _=>n<=i⟩
theorem EW{P:Program}{w:World}{K:W.Frag}{m:Expr}(a it:Addr):Turn P w K m (Itl K a) [it] it (fun i h=>h.IsListIter it a i) where
 mem:=by simp
 obj:=fun i h Y b J=>by
  have e:b=it:=by simpa using J
  subst e;obtain⟨o,e,c,d⟩:=Y;exact⟨o,e,fun v z=>by rw[d]at z;cases z⟩
 keep:=fun i h O Y k=>Y.at fun o e=>k it (by simp) o e
 item:=by
  intro X F B A q i Z s U H E I N Y D;subst F B A;obtain⟨t,x,M,L⟩:=D;obtain⟨T,R,p,r⟩:=I.list M;obtain⟨u,n,f⟩:=R.get L;obtain⟨y,j,f2,Q,C,S⟩:=N it (by simp);refine wpAny_pyNext_list_item Y p.isList (x:=u) (by simpa using n) fun O G g=>?_;have I1:Inv X Z U H {s with heap:=O}:=I.turned (t':=s.toks) (fun b o J e=>(g.2 b J).trans e) y j Q C S;obtain⟨o,e,c,d⟩:=id G;exact⟨u,rfl,LB (s:={s with heap:=O}) e c d (by decide) ⟨x,H,I1,f,⟨rfl,fun ys l=>by rw[I.list_inj l M];exact L⟩,G,fun b J=>(N b J).1⟩⟩
 done:=by
  intro X F B A q i Z s U H E I N Y D;subst F B A;obtain⟨t,M,L⟩:=D;obtain⟨T,R,p,r⟩:=I.list M;obtain⟨y,j,f2,Q,C,S⟩:=N it (by simp);have hl:=R.length;exact wpAny_pyNext_list_end (I.ok.hd q) Y p.isList (by simp;exact Tj hl L) fun O eb=>⟨rfl,I.turned (t':=s.toks) (fun b o J e=>eb b o J e) y j Q C S⟩
 self:=fun _ _ _ _ _ Y h=>wpAny_pyIter_listiter Y h
theorem Ng{P:Program}{w:World}{K:W.Frag}{m:Expr}(a it:Addr):Turn P w K m (Itt K a) [it] it (fun i h=>h.IsTupleIter it a i) where
 mem:=by simp
 obj:=fun i h Y b G=>by
  have e:b=it:=by simpa using G
  subst e;obtain⟨o,e,c,d⟩:=Y;exact⟨o,e,fun v z=>by rw[d]at z;cases z⟩
 keep:=fun i h R Y k=>Y.at fun o e=>k it (by simp) o e
 item:=by
  intro X F B A q i Z s U H E I O Y D;subst F B A;obtain⟨t,x,N,M⟩:=D;obtain⟨J,T,p,r⟩:=I.tuple N;obtain⟨u,n,f⟩:=T.get M;obtain⟨y,j,f2,Q,C,S⟩:=O it (by simp);refine wpAny_pyNext_tuple_item Y (show s.heap.IsTuple a J.toArray from p) (x:=u) (by simpa using n) fun R L g=>?_;have I1:Inv X Z U H {s with heap:=R}:=I.turned (t':=s.toks) (fun b o G e=>(g.2 b G).trans e) y j Q C S;obtain⟨o,e,c,d⟩:=id L;exact⟨u,rfl,LB (s:={s with heap:=R}) e c d (by decide) ⟨x,H,I1,f,⟨rfl,fun ys l=>by rw[I.tuple_inj l N];exact M⟩,L,fun b G=>(O b G).1⟩⟩
 done:=by
  intro X F B A q i Z s U H E I O Y D;subst F B A;obtain⟨t,N,M⟩:=D;obtain⟨J,T,p,r⟩:=I.tuple N;obtain⟨y,j,f2,Q,C,S⟩:=O it (by simp);have hl:=T.length;exact wpAny_pyNext_tuple_end (I.ok.hd q) Y (show s.heap.IsTuple a J.toArray from p) (by simp;exact Tj hl M) fun R eb=>⟨rfl,I.turned (t':=s.toks) (fun b o G e=>eb b o G e) y j Q C S⟩
 self:=fun _ _ _ _ _ Y h=>wpAny_pyIter_tupleiter Y h
theorem Nh{P:Program}{w:World}{K:PySem.W.Frag}{y:Expr}(it:Addr)(lo:Int)(n:Nat):Turn P w K y (Itr lo n) [it] it (fun i h=>IsRangeIter h it (lo+(i:Nat)*1) ((n:Int)-(i:Nat)) 1) where
 mem:=by simp
 obj:=fun i h Y b J=>by
  have e:b=it:=by simpa using J
  subst e
  exact⟨_,Y,fun v z=>by
   have j:Data.fields _=Data.cell v:=z;cases j⟩
 keep:=fun i h M Y k=>k it (by simp) _ Y
 item:=by
  intro X T N B R i Z s U H E I L Y O;subst T N B;obtain⟨C,S,g,A,F,D⟩:=L it (by simp);have W:=Walks.range (prog:=X.prog) (w:=X.w) (I.ok.hd R) it lo 1 n;refine W.item i s _ _ O Y fun v M Q m G q=>?_;obtain⟨t,rfl⟩:=m;have c:Inv X Z U H {s with heap:=M,toks:=Q}:=I.turned (fun b o J e=>q b o (by simpa using J) e) C S A F D;refine⟨_,rfl,LB (s:={s with heap:=M,toks:=Q}) (n:="range_iterator") G rfl rfl (by decide) ⟨.int (lo+i),H,c,⟨t,?_⟩,⟨rfl,rfl⟩,G,fun b J=>(L b J).1⟩⟩;rw[Int.mul_one]
 done:=by
  intro X T N B R i Z s U H E I L Y O;subst T N B;obtain⟨C,S,g,A,F,D⟩:=L it (by simp);exact wpAny_pyNext_range_end (I.ok.hd R) Y (by have:n<=i:=O;omega) fun M p=>⟨rfl,I.turned (t':=s.toks) (fun b o J e=>p b o J e) C S A F D⟩
 self:=fun _ _ _ _ _ Y h=>wpAny_pyIter_rangeiter Y h
end L2
namespace L2
open PySem PySem.Spec PyProof.Rows
section
def K3(K:W.Frag)(tl:TE):TI:=fun U H R=>tl U H fun x H1=>Jr x fun a=>(∃xs,SqL K H1 a xs)/\R (Itl K a) H1
def yT(K:W.Frag)(tl:TE):TI:=fun U H R=>tl U H fun x H1=>Jr x fun a=>(∃xs,SqT K H1 a xs)/\R (Itt K a) H1
theorem V5(O:PE X l tl):PI X tg l (K3 X.K tl):=by
 intro Y s U H R I h;refine thn (O Y s U H _ I h) fun v Z ⟨x,B,J,L,G⟩=>?_;replace G:=Jr.old G;obtain⟨a,e,⟨D,N⟩,q⟩:=G;subst e;cases L;obtain⟨M,E,p,F⟩:=J.list N;refine wpAny_pyIter_list p.isList ?_;refine⟨Z.heap.objs.size,[Z.heap.objs.size],_,_,B,rfl,J.kept (t':=Z.toks) fun b o e=>ZD _ e,EW a _,⟨_,ZW _ rfl,rfl,rfl⟩,fun b T=>?_,q⟩;have e:b=Z.heap.objs.size:=by simpa using T
 subst e;exact J.fpOk (ZF _) (J.hok.fresh (ZF _))
theorem Ji(O:PE X l tl):PI X tg l (yT X.K tl):=by
 intro Z s U H R I h;refine thn (O Z s U H _ I h) fun v Y ⟨x,B,J,M,G⟩=>?_;replace G:=Jr.old G;obtain⟨a,e,⟨D,N⟩,q⟩:=G;subst e;cases M;obtain⟨L,E,p,F⟩:=J.tuple N;refine wpAny_pyIter_tuple (show Y.heap.IsTuple a L.toArray from p) ?_;refine⟨Y.heap.objs.size,[Y.heap.objs.size],_,_,B,rfl,J.kept (t':=Y.toks) fun b o e=>ZD _ e,Ng a _,⟨_,ZW _ rfl,rfl,rfl⟩,fun b T=>?_,q⟩;have e:b=Y.heap.objs.size:=by simpa using T
 subst e;exact J.fpOk (ZF _) (J.hok.fresh (ZF _))
theorem IR{lo hi:Int}(I:Inv X pins U H s)(M: -(2 ^ 62)<=lo)(L:lo<2 ^ 62)(G: -(2 ^ 62)<=hi)(J:hi<2 ^ 62)(q:R (Itr lo (hi-lo).toNat) H):wpAny (model X.prog X.w) X.A (pyIter (.ref s.heap.objs.size)) (PIE X pins U tg R) E {s with heap:=s.heap.push {cls:=.type "range",data:=.fields #[.int lo t,.int hi u,.int 1 v]},toks:=tk}:=by
 refine wpAny_pyIter_range (IsRange.new ..) (small_one M L G J) ?_;have Y:Inv X pins U H {s with heap:=s.heap.push {cls:=.type "range",data:=.fields #[.int lo t,.int hi u,.int 1 v]},toks:=tk}:=I.kept fun b o e=>ZD _ e;refine⟨(s.heap.push {cls:=.type "range",data:=.fields #[.int lo t,.int hi u,.int 1 v]}).objs.size,[(s.heap.push {cls:=.type "range",data:=.fields #[.int lo t,.int hi u,.int 1 v]}).objs.size],_,_,H,rfl,
  Y.kept (t':=tk) fun b o e=>ZD _ e,Nh _ lo (hi-lo).toNat,?_,fun b Z=>?_,q⟩
 .have e1:lo+((0:Nat):Int)*1=lo:=by simp
  have N:(((hi-lo).toNat:Nat):Int)-((0:Nat):Int)=Builtin.Range.rangeSize lo hi 1:=by rw[rangeSize_one];split <;> omega
  show IsRangeIter _ _ (lo+((0:Nat):Int)*1) ((((hi-lo).toNat:Nat):Int)-((0:Nat):Int)) 1;rw[e1,N];exact ZW _ rfl
 .have e:b=(s.heap.push {cls:=.type "range",data:=.fields #[.int lo t,.int hi u,.int 1 v]}).objs.size:=by simpa using Z
  subst e;exact Y.fpOk (ZF _) (Y.hok.fresh (ZF _))
def zP(ta:TA):TI:=fun U H R=>ta U H fun vs H1=>∃j:Int,vs=[.int j]/\ -(2 ^ 62)<=j/\j<2 ^ 62/\R (Itr 0 j.toNat) H1
theorem Ub(O:Gl X "range")(N:X.mg "range"=none)(T:PA X [a] ta)(M:starEach [a] X.env=[(false,eval a X.env)]:=by rfl):PI X tg (.Call (.Name "range" p) [a] [] pos) (zP ta):=by
 intro Y s U H R I h;refine Call_ (Wh I O N boot_range (PyProof.Rows.callWith_type1 (thn (T pos Y s U H _ I h) fun E F ⟨D,A,B,G,Z⟩=>?_) M rfl));obtain⟨j,e,Z,L,q⟩:=Z;subst e
 cases G with
 |cons r J=>
  cases J;obtain⟨t,rfl⟩:=r;exact call_range_1 (IR B (by decide) (by decide) Z L (by simpa using q))
def UE(wi:TI)(g:TG)(tb:TS):TS:=fun D U H=>wi U H fun J H1=>∃W:Nat->Nat->St->Hp->Prop,(∃m,W 0 m U H1)/\∀i m U H,W i m U H->
 (J.stop i H/\D.nx U H)\/(J.go i H/\∃N:St->Hp->Prop,(∀U' H',N U' H'->∃m',m'<m/\W (i+1) m' U' H')/\∀x H',J.yld i H x H'->g x U H' fun σ2 H2=>tb {D with nx:=N,ct:=N,bk:=D.nx} σ2 H2)
def VS(fp:List Addr)(h:Heap):List (Addr×Obj):=fp.filterMap fun b=>(h.get? b).map fun o=>(b,o)
theorem Vz(Y:b∈fp)(e:h.get? b=some o):(b,o)∈VS fp h:=List.mem_filterMap.mpr ⟨b,Y,by rw[e];rfl⟩
theorem Xj(Y:p∈VS fp h):p.1∈fp/\h.get? p.1=some p.2:=by
 obtain⟨b,Z,e⟩:=List.mem_filterMap.mp Y
 cases q:h.get? b with
 |none=>rw[q]at e;cases e
 |some o=>
  rw[q]at e;have J:(b,o)=p:=ZP e;subst J;exact⟨Z,q⟩
theorem Inv.pinned(I:Inv X pins U H s)(L:∀b∈fp,UD X pins H b)(G:∀b∈fp,∃o,s.heap.get? b=some o/\∀v,o.data≠.cell v):Inv X (pins++ VS fp s.heap) U H s:=
 I.pins_of fun p J=>(ZV.mp J).elim (fun z=>I.pin p (ZQ _ z)) fun z=>by
  obtain⟨Y,e⟩:=Xj z;obtain⟨O,N,M,_⟩:=L p.1 Y;obtain⟨o,Z,d⟩:=G p.1 Y;rw[e]at Z;cases Z;exact⟨e,O,N,M,d⟩
theorem Inv.unpinned(I:Inv X (pins++ pl) U H s):Inv X pins U H s:=I.pins_of fun p Y=>I.pin p (ZQ _ (List.mem_append_left _ Y))
theorem Vu(A:PassesOwn (model X.prog X.w) X.A X.env X.xe)(l:X.calm=true)(hi:PI X tg iter wi)(hg:PG X tg g)(G:PSs X body tb)(hs:∀x,foldedSetIterable iter X.env x=pure x:=by intro _;rfl):PS X (.For tg iter body [] pos) (UE wi g tb):=by
 intro Y s U H D I h;refine wpAny_For (thn (hi Y s U H _ I h) fun v s1 h1=>thn h1 fun Z8 s2 h2=>?_) hs;obtain⟨it,C,k,J,H2,e,I2,T,j,a,W,⟨m0,w0⟩,turn⟩:=h2;subst e;have Z:∀{O:Hp},(∀b∈C,O b=none)->∀b∈C,UD X Y O b:=fun hn b G=>⟨hn b G,(a b G).2⟩;refine codeAny_forLoop_any (fun n w=>∃i P O,Inv X Y P O w/\k i w.heap/\(∀b∈C,O b=none)/\W i n P O) ?_ m0 ⟨0,U,H2,I2,j,fun b G=>(a b G).1,w0⟩;rintro n c ⟨i,σ3,Q,I3,E,S,w3⟩;rcases turn i n σ3 Q w3 with⟨stop,qn⟩|⟨go,N,hN,step⟩
 .refine wpAny_passesOwn A (thn (T.done X rfl rfl rfl l i Y c σ3 Q X.xe I3 (Z S) E stop) fun r s4 ⟨z,I4⟩=>?_)
  subst z;exact wpAny_execs_nil ⟨σ3,Q,I4,qn⟩
 .refine wpAny_passesOwn A (thn (T.item X rfl rfl rfl l i Y c σ3 Q X.xe I3 (Z S) E go) fun r s4 ⟨u,z,h4⟩=>?_)
  subst z;refine wpAny_passesOwn A (thn h4 fun _ p ⟨x,H5,I5,r5,y5,B,q⟩=>?_);have t:=I5.pinned (Z q) (T.obj _ _ B);refine wpAny_passesOwn A (thn (hg _ p σ3 H5 x u _ t r5 (step x H5 y5)) fun _ s6 ⟨σ6,H6,I6,q6⟩=>?_);refine wpAny_passesOwn A (thn (G _ s6 σ6 H6 _ I6 q6) fun f y R=>?_)
  have again:∀{σ7:St}{M:Hp},Inv X (Y++ VS C p.heap) σ7 M y->N σ7 M->∃m,m<n/\∃i P O,Inv X Y P O y/\k i y.heap/\(∀b∈C,O b=none)/\W i m P O:=fun{σ7 M} L F=>by
   obtain⟨m',hm,w7⟩:=hN σ7 M F;refine⟨m',hm,i+1,σ7,M,L.unpinned,T.keep _ _ _ B fun b G o e=>(L.pin (b,o) (ZQ _ (ZQ _ (Vz G e)))).1,fun b G=>?_,w7⟩;obtain⟨o,e,d⟩:=T.obj _ _ B b G;exact(L.pin (b,o) (ZQ _ (ZQ _ (Vz G e)))).2.1
  cases f with
  |next=>obtain⟨σ7,M,L,F⟩:=R;exact again L F
  |cont=>obtain⟨σ7,M,L,F⟩:=R;exact again L F
  |brk=>obtain⟨σ7,M,L,R⟩:=R;exact⟨σ7,M,L.unpinned,R⟩
  |ret v=>obtain⟨x7,σ7,M,L,r7,R⟩:=R;exact⟨x7,σ7,M,L.unpinned,r7,R⟩
end
theorem LG{K:PySem.W.Frag}{g:TG}{G:TS}{D:Ends}(Y:Nat->St->Hp->Prop)(E:Y 0 U H)(T:∀i U H,i<=xs.length->Y i U H->SqL K H a xs)(R:∀i x U H,xs[i]?=some x->Y i U H->g x U H fun σ2 J=>G {D with nx:=Y (i+1),ct:=Y (i+1),bk:=D.nx} σ2 J)(B:∀U H,Y xs.length U H->D.nx U H):
  ∃W:Nat->Nat->St->Hp->Prop,(∃m,W 0 m U H)/\∀i m U H,W i m U H->
   ((Itl K a).stop i H/\D.nx U H)\/((Itl K a).go i H/\∃N:St->Hp->Prop,(∀Z H',N Z H'->∃L,L<m/\W (i+1) L Z H')/\∀x H',(Itl K a).yld i H x H'->g x U H' fun σ2 J=>G {D with nx:=N,ct:=N,bk:=D.nx} σ2 J):=by
 refine⟨fun i m U H=>m=xs.length-i/\i<=xs.length/\Y i U H,⟨xs.length,by simp,Za _,E⟩,?_⟩;rintro i m U H ⟨rfl,M,p⟩;have q:=T i U H M p
 by_cases hlt:i<xs.length
 .refine .inr ⟨⟨xs,xs[i],q,by simp[hlt]⟩,Y (i+1),fun Z H' O=>⟨xs.length-(i+1),by exact RB hlt,rfl,hlt,O⟩,fun x H' y=>?_⟩
  obtain⟨e,y⟩:=y;subst e;exact R i x U _ (y xs q) p
 .have e:i=xs.length:=by exact Il M hlt
  subst e;exact .inl ⟨⟨xs,q,ZF _⟩,B U H p⟩
theorem Oz{K:PySem.W.Frag}{g:TG}{G:TS}{D:Ends}(Y:Nat->St->Hp->Prop)(E:Y 0 U H)(T:∀i U H,i<=xs.length->Y i U H->SqT K H a xs)(R:∀i x U H,xs[i]?=some x->Y i U H->g x U H fun σ2 J=>G {D with nx:=Y (i+1),ct:=Y (i+1),bk:=D.nx} σ2 J)(B:∀U H,Y xs.length U H->D.nx U H):
  ∃W:Nat->Nat->St->Hp->Prop,(∃m,W 0 m U H)/\∀i m U H,W i m U H->
   ((Itt K a).stop i H/\D.nx U H)\/((Itt K a).go i H/\∃N:St->Hp->Prop,(∀Z H',N Z H'->∃L,L<m/\W (i+1) L Z H')/\∀x H',(Itt K a).yld i H x H'->g x U H' fun σ2 J=>G {D with nx:=N,ct:=N,bk:=D.nx} σ2 J):=by
 refine⟨fun i m U H=>m=xs.length-i/\i<=xs.length/\Y i U H,⟨xs.length,by simp,Za _,E⟩,?_⟩;rintro i m U H ⟨rfl,M,p⟩;have q:=T i U H M p
 by_cases hlt:i<xs.length
 .refine .inr ⟨⟨xs,xs[i],q,by simp[hlt]⟩,Y (i+1),fun Z H' O=>⟨xs.length-(i+1),by exact RB hlt,rfl,hlt,O⟩,fun x H' y=>?_⟩
  obtain⟨e,y⟩:=y;subst e;exact R i x U _ (y xs q) p
 .have e:i=xs.length:=by exact Il M hlt
  subst e;exact .inl ⟨⟨xs,q,ZF _⟩,B U H p⟩
theorem FF{lo:Int}{g:TG}{G:TS}{D:Ends}(Y:Nat->St->Hp->Prop)(B:Y 0 U H)(O:∀i U H,i<n->Y i U H->g (.int (lo+i)) U H fun σ2 J=>G {D with nx:=Y (i+1),ct:=Y (i+1),bk:=D.nx} σ2 J)(T:∀U H,Y n U H->D.nx U H):
  ∃W:Nat->Nat->St->Hp->Prop,(∃m,W 0 m U H)/\∀i m U H,W i m U H->
   ((Itr lo n).stop i H/\D.nx U H)\/((Itr lo n).go i H/\∃N:St->Hp->Prop,(∀Z H',N Z H'->∃L,L<m/\W (i+1) L Z H')/\∀x H',(Itr lo n).yld i H x H'->g x U H' fun σ2 J=>G {D with nx:=N,ct:=N,bk:=D.nx} σ2 J):=by
 refine⟨fun i m U H=>m=n-i/\i<=n/\Y i U H,⟨n,by simp,Za _,B⟩,?_⟩;rintro i m U H ⟨rfl,R,p⟩
 by_cases hlt:i<n
 .refine .inr ⟨hlt,Y (i+1),fun Z H' M=>⟨n-(i+1),by exact RB hlt,rfl,hlt,M⟩,fun x H' y=>?_⟩
  obtain⟨e,y⟩:=y;subst e y;exact O i U _ hlt p
 .have e:i=n:=by exact Il R hlt
  subst e;exact .inl ⟨ZF _,T U H p⟩
abbrev R2:=V->V->Hp->VK->Prop
def OpR(X:Cx)(f:Value->Value->Sem Value)(r:R2):Prop:=
 ∀(pins:List (Addr×Obj))(s:Shared)(U:St)(H:Hp)(x y:V)(v u:Value)(Q:VK),Inv X pins U H s->RelV x v->RelV y u->r x y H Q->
  wpAny (model X.prog X.w) X.A (f v u) (EP X pins U Q) X.xe s
def UnR(X:Cx)(f:Value->Sem Value)(r:V->Hp->VK->Prop):Prop:=
 ∀(pins:List (Addr×Obj))(s:Shared)(U:St)(H:Hp)(x:V)(v:Value)(Q:VK),Inv X pins U H s->RelV x v->r x H Q->
  wpAny (model X.prog X.w) X.A (f v) (EP X pins U Q) X.xe s
def Jb(X:Cx)(f:Value)(r:List V->Hp->VK->Prop):Prop:=
 ∀(pins:List (Addr×Obj))(s:Shared)(U:St)(H:Hp)(xs:List V)(us:List Value)(Q:VK),Inv X pins U H s->Vals xs us->r xs H Q->
  wpAny (model X.prog X.w) X.A (call f us) (EP X pins U Q) X.xe s
def tOp(r:R2)(ta tb:TE):TE:=fun U H Q=>ta U H fun x H1=>tb U H1 fun y H2=>r x y H2 Q
def tUn(r:V->Hp->VK->Prop)(ta:TE):TE:=fun U H Q=>ta U H fun x H1=>r x H1 Q
def rI(C:Int->Int->Prop)(g:Int->Int->V):R2:=fun x y H Q=>J9 x fun i=>J9 y fun j=>C i j/\Q (g i j) H
theorem rI.old(h:rI C g x y H Q):∃i j,x=.int i/\y=.int j/\C i j/\Q (g i j) H:=by
 replace h:=J9.old h;obtain⟨i,e,h⟩:=h;replace h:=J9.old h;obtain⟨j,Y,h⟩:=h;exact⟨i,j,e,Y,h⟩
def rI0(g:Int->Int->V):R2:=fun x y H Q=>J9 x fun i=>J9 y fun j=>Q (g i j) H
theorem rI0.old(h:rI0 g x y H Q):∃i j,x=.int i/\y=.int j/\Q (g i j) H:=by
 replace h:=J9.old h;obtain⟨i,e,h⟩:=h;replace h:=J9.old h;obtain⟨j,Y,h⟩:=h;exact⟨i,j,e,Y,h⟩
def rU(g:Int->V):V->Hp->VK->Prop:=fun x H Q=>∃i,x=.int i/\Q (g i) H
section
theorem Sh(F:PE X a ta)(E:PE X b tb){R:V->V->Hp->Prop}(I:Inv X pins U H s)(h:ta U H fun x L=>tb U L fun y Y=>R x y Y){f:Value->Value->Sem Value}(D:∀v u G x y Y,Inv X pins U Y G->RelV x v->RelV y u->R x y Y->wpAny (model X.prog X.w) X.A (f v u) Q X.xe G):
  wpAny (model X.prog X.w) X.A (eval a X.env) (fun v J=>wpAny (model X.prog X.w) X.A (eval b X.env) (fun u Z=>wpAny (model X.prog X.w) X.A (f v u) Q X.xe Z) X.xe J) X.xe s:=by
 refine thn (F pins s U H _ I h) fun v M ⟨x,L,S,O,B⟩=>?_;refine thn (E pins M U L _ S B) fun u G ⟨y,Y,A,N,T⟩=>?_;exact D v u G x y Y A O N T
theorem Y2(L:OpR X (binaryOp op) r)(N:PE X a ta)(M:PE X b tb):PE X (.BinOp a op b pos) (tOp r ta tb):=by
 intro Y s U H Q I h;exact wpAny_BinOp (Sh N M I h fun v u Z x y R O G J q=>L Y Z U R x y v u Q O G J q)
theorem M3(L:UnR X (unaryOp op) r)(M:PE X a ta):PE X (.UnaryOp op a pos) (tUn r ta):=by
 intro Y s U H Q I h;exact UnaryOp_ (thn (M Y s U H _ I h) fun v Z ⟨x,O,N,J,G⟩=>L Y Z U O x v Q N J G)
theorem opI{g:Int->Int->Int}(rule:∀(i j:Int)(t u:Tok)(s:Shared)(Q:Value->Shared->Prop)(E:Value->Shared->Prop),C i j->Q (.int (g i j) s.toks) {s with toks:=s.toks+1}->wpAny (model X.prog X.w) X.A (f (.int i t) (.int j u)) Q E s):
  OpR X f (rI C fun i j=>.int (g i j)):=by
 intro Y s U H x y v u Q I G J h;replace h:=rI.old h;obtain⟨i,j,rfl,rfl,L,q⟩:=h;obtain⟨t,rfl⟩:=G;obtain⟨Z,rfl⟩:=J;exact rule i j t Z s _ _ L ⟨.int (g i j),H,I.tok _,⟨_,rfl⟩,q⟩
theorem Q7{g:Int->Int->Int}(rule:∀(i j:Int)(t u:Tok)(s:Shared)(Q:Value->Shared->Prop)(E:Value->Shared->Prop),Q (.int (g i j) s.toks) {s with toks:=s.toks+1}->wpAny (model X.prog X.w) X.A (f (.int i t) (.int j u)) Q E s):
  OpR X f (rI0 fun i j=>.int (g i j)):=by
 intro Y s U H x y v u Q I G J h;replace h:=rI0.old h;obtain⟨i,j,rfl,rfl,q⟩:=h;obtain⟨t,rfl⟩:=G;obtain⟨Z,rfl⟩:=J;exact rule i j t Z s _ _ ⟨.int (g i j),H,I.tok _,⟨_,rfl⟩,q⟩
theorem OK{g:Int->Int->Bool}(rule:∀(i j:Int)(t u:Tok)(s:Shared)(Q:Value->Shared->Prop)(E:Value->Shared->Prop),Q (.bool (g i j)) s->wpAny (model X.prog X.w) X.A (f (.int i t) (.int j u)) Q E s):
  OpR X f (rI0 fun i j=>.bl (g i j)):=by
 intro Y s U H x y v u Q I G J h;replace h:=rI0.old h;obtain⟨i,j,rfl,rfl,q⟩:=h;obtain⟨t,rfl⟩:=G;obtain⟨Z,rfl⟩:=J;exact rule i j t Z s _ _ ⟨.bl (g i j),H,I,rfl,q⟩
def yk(i j:Int):Prop:=0<j/\j<1073741824
def za(i j:Int):Prop:=0<=j/\j<=1000000/\i.natAbs<2 ^ 64
def PK(i j:Int):Prop:=(-(2 ^ 64)<i/\i<2 ^ 64)\/(-(2 ^ 64)<j/\j<2 ^ 64)
theorem PK.ok(h:PK i j):IntMulOk i j:=by
 rcases h with⟨Z,Y⟩|⟨Z,Y⟩
 .exact .of_left (intBits_le_64 Z Y)
 .exact .of_right (intBits_le_64 Z Y)
theorem Vo:OpR X (binaryOp .Add) (rI0 fun i j=>.int (i+j)):=Q7 fun _ _ _ _ _ _ _ q=>add_int q
theorem Jv:OpR X (binaryOp .Sub) (rI0 fun i j=>.int (i-j)):=Q7 fun _ _ _ _ _ _ _ q=>sub_int q
theorem Jl:OpR X (binaryOp .Mult) (rI PK fun i j=>.int (i*j)):=opI fun _ _ _ _ _ _ _ Y q=>mul_int q Y.ok
theorem D8:OpR X (binaryOp .FloorDiv) (rI yk fun i j=>.int (i / j)):=opI fun i j _ _ _ _ _ Y q=>by
 have Z:(0:Int)<j:=Y.1;have J:j<1073741824:=Y.2;exact floordiv_int (by exact D5 Z) (by rw[Int.fdiv_eq_ediv_of_nonneg i (by exact P2 Z)];exact q) (.inl (PyProof.noPylong_small (by omega)))
theorem UM:OpR X (binaryOp .Mod) (rI (fun _ j=>0<j) fun i j=>.int (i % j)):=opI fun i j _ _ _ _ _ Y q=>by
 have Z:(0:Int)<j:=Y;exact mod_int' (by exact D5 Y) (by rw[Int.fmod_eq_emod_of_nonneg i (by exact P2 Y)];exact q)
theorem KL:OpR X (binaryOp .Pow) (rI za fun i j=>.int (i ^ j.toNat)):=opI fun _ _ _ _ _ _ _ Y q=>pow_int_small Y.1 Y.2.1 Y.2.2 q
theorem Ot:OpR X (inplaceOp .Add) (rI0 fun i j=>.int (i+j)):=Q7 fun _ _ _ _ _ _ _ q=>iadd_int q
theorem Os:OpR X (inplaceOp .Mult) (rI PK fun i j=>.int (i*j)):=opI fun _ _ _ _ _ _ _ Y q=>imul_int q Y.ok
theorem unI{g:Int->Int}(rule:∀(i:Int)(t:Tok)(s:Shared)(Q:Value->Shared->Prop)(E:Value->Shared->Prop),Q (.int (g i) s.toks) {s with toks:=s.toks+1}->wpAny (model X.prog X.w) X.A (f (.int i t)) Q E s):
  UnR X f (rU fun i=>.int (g i)):=by
 intro Y s U H x v Q I Z h;obtain⟨i,rfl,q⟩:=h;obtain⟨t,rfl⟩:=Z;exact rule i t s _ _ ⟨.int (g i),H,I.tok _,⟨_,rfl⟩,q⟩
theorem Gs:UnR X (unaryOp .USub) (rU fun i=>.int (-i)):=unI fun _ _ _ _ _ q=>neg_int q
end
def S4:V->V->Bool
 |.non,.non=>true|.non,.int _=>true|.int _,.non=>true|.non,.bl _=>true|.bl _,.non=>true|.non,.str _=>true|.str _,.non=>true
 |.int _,.int _=>true|.bl _,.bl _=>true|.str _,.str _=>true|.byt _,.byt _=>true
 |.int _,.str _=>true|.str _,.int _=>true|.bl _,.str _=>true|.str _,.bl _=>true
 |_,_=>false
def rEq:R2:=fun x y H Q=>S4 x y=true/\Q (.bl (decide (x=y))) H
def rNe:R2:=fun x y H Q=>S4 x y=true/\Q (.bl (!decide (x=y))) H
theorem Mf:decide (V.int i=V.int j)=(i==j):=by
 rw[Bool.eq_iff_iff];simp
theorem B3:decide (V.bl i=V.bl j)=(i==j):=by
 rw[Bool.eq_iff_iff];simp
theorem Me:decide (V.str i=V.str j)=(i==j):=by
 rw[Bool.eq_iff_iff];simp
theorem EK:decide (V.byt i=V.byt j)=(i.toList==j.toList):=by
 rw[Bool.eq_iff_iff];cases i;cases j;simp
section
variable{a b c:Expr}{ta tb tc:TE}
theorem VU(I:Inv X pins U H s)(q:Q (.bl k) H)(e:k=k'):EP X pins U Q (.bool k') s:=by
 subst e;exact⟨.bl k,H,I,rfl,q⟩
theorem VB:OpR X (compareOp .Eq) rEq:=by
 intro L s U H x y v u Q I G Y h;obtain⟨J,q⟩:=h
 cases x with
 |non=>
  cases G
  cases y with
  |non=>cases Y;exact PySem.EqNone.eq_none_none (VU I q (by simp))
  |bl j=>cases Y;exact PySem.EqNone.eq_none_bool (VU I q (by simp))
  |int j=>obtain⟨Z,rfl⟩:=Y;exact PySem.EqNone.eq_none_int (VU I q (by simp))
  |str j=>obtain⟨Z,rfl⟩:=Y;exact PySem.EqNone.eq_none_str (VU I q (by simp))
  |_=>exact Zp (show false=true from J) Zg
 |bl i=>
  cases G
  cases y with
  |non=>cases Y;exact PySem.EqNone.eq_bool_none (VU I q (by simp))
  |bl j=>cases Y;exact eq_bool (VU I q B3)
  |str j=>obtain⟨Z,rfl⟩:=Y;exact PySem.EqMixed.eq_bool_str (VU I q (by simp))
  |_=>exact Zp (show false=true from J) Zg
 |int i=>
  obtain⟨t,rfl⟩:=G
  cases y with
  |non=>cases Y;exact PySem.EqNone.eq_int_none (VU I q (by simp))
  |int j=>obtain⟨Z,rfl⟩:=Y;exact eq_int (VU I q Mf)
  |str j=>obtain⟨Z,rfl⟩:=Y;exact PySem.EqMixed.eq_int_str (VU I q (by simp))
  |_=>exact Zp (show false=true from J) Zg
 |str i=>
  obtain⟨t,rfl⟩:=G
  cases y with
  |non=>cases Y;exact PySem.EqNone.eq_str_none (VU I q (by simp))
  |bl j=>cases Y;exact PySem.EqMixed.eq_str_bool (VU I q (by simp))
  |int j=>obtain⟨Z,rfl⟩:=Y;exact PySem.EqMixed.eq_str_int (VU I q (by simp))
  |str j=>obtain⟨Z,rfl⟩:=Y;exact eq_str (VU I q Me)
  |_=>exact Zp (show false=true from J) Zg
 |byt i=>
  obtain⟨t,rfl⟩:=G
  cases y with
  |byt j=>obtain⟨Z,rfl⟩:=Y;exact W.eq_bytes (VU I q EK)
  |_=>exact Zp (show false=true from J) Zg
 |_=>cases y <;> exact Zp (show false=true from J) Zg
theorem Xq:OpR X (compareOp .NotEq) rNe:=by
 intro L s U H x y v u Q I G Y h;obtain⟨J,q⟩:=h
 cases x with
 |non=>
  cases G
  cases y with
  |non=>cases Y;exact PySem.EqNone.ne_none_none (VU I q (by simp))
  |bl j=>cases Y;exact PySem.EqNone.ne_none_bool (VU I q (by simp))
  |int j=>obtain⟨Z,rfl⟩:=Y;exact PySem.EqNone.ne_none_int (VU I q (by simp))
  |str j=>obtain⟨Z,rfl⟩:=Y;exact PySem.EqNone.ne_none_str (VU I q (by simp))
  |_=>exact Zp (show false=true from J) Zg
 |bl i=>
  cases G
  cases y with
  |non=>cases Y;exact PySem.EqNone.ne_bool_none (VU I q (by simp))
  |bl j=>cases Y;exact ne_bool (VU I q (congrArg not B3))
  |str j=>obtain⟨Z,rfl⟩:=Y;exact PySem.EqMixed.ne_bool_str (VU I q (by simp))
  |_=>exact Zp (show false=true from J) Zg
 |int i=>
  obtain⟨t,rfl⟩:=G
  cases y with
  |non=>cases Y;exact PySem.EqNone.ne_int_none (VU I q (by simp))
  |int j=>obtain⟨Z,rfl⟩:=Y;exact ne_int (VU I q (congrArg not Mf))
  |str j=>obtain⟨Z,rfl⟩:=Y;exact PySem.EqMixed.ne_int_str (VU I q (by simp))
  |_=>exact Zp (show false=true from J) Zg
 |str i=>
  obtain⟨t,rfl⟩:=G
  cases y with
  |non=>cases Y;exact PySem.EqNone.ne_str_none (VU I q (by simp))
  |bl j=>cases Y;exact PySem.EqMixed.ne_str_bool (VU I q (by simp))
  |int j=>obtain⟨Z,rfl⟩:=Y;exact PySem.EqMixed.ne_str_int (VU I q (by simp))
  |str j=>obtain⟨Z,rfl⟩:=Y;exact ne_str (VU I q (congrArg not Me))
  |_=>exact Zp (show false=true from J) Zg
 |byt i=>
  obtain⟨t,rfl⟩:=G
  cases y with
  |byt j=>obtain⟨Z,rfl⟩:=Y;exact W.ne_bytes (VU I q (congrArg not EK))
  |_=>exact Zp (show false=true from J) Zg
 |_=>cases y <;> exact Zp (show false=true from J) Zg
theorem M8:OpR X (compareOp .Lt) (rI0 fun i j=>.bl (decide (i<j))):=OK fun _ _ _ _ _ _ _ q=>lt_int q
theorem XD:OpR X (compareOp .LtE) (rI0 fun i j=>.bl (decide (i<=j))):=OK fun _ _ _ _ _ _ _ q=>le_int q
theorem XE:OpR X (compareOp .Gt) (rI0 fun i j=>.bl (decide (j<i))):=OK fun _ _ _ _ _ _ _ q=>gt_int q
theorem QL:OpR X (compareOp .GtE) (rI0 fun i j=>.bl (decide (j<=i))):=OK fun _ _ _ _ _ _ _ q=>ge_int q
theorem Em:OpR X (compareOp .In) (fun x y H Q=>∃i j,x=.str i/\y=.str j/\Q (.bl (!(Builtin.Str.occurrences j i 0 j.length 1).isEmpty)) H):=by
 intro Y s U H x y v u Q I J Z h;obtain⟨i,j,rfl,rfl,q⟩:=h;obtain⟨t,rfl⟩:=J;obtain⟨G,rfl⟩:=Z;exact in_str (VU I q rfl)
theorem Xx:OpR X (compareOp .Is) (fun x y H Q=>y=.non/\Q (.bl (decide (x=.non))) H):=by
 intro Z s U H x y v u Q I Y J h;obtain⟨rfl,q⟩:=h;cases J;refine is_none_gen (VU I q ?_);cases x <;> first
  |(cases Y;rfl)
  |(obtain⟨t,rfl⟩:=Y;rfl)
theorem OpR.or(h:OpR X f r)(h':OpR X f r'):OpR X f (fun x y H Q=>r x y H Q\/r' x y H Q):=by
 intro Y s U H x y v u Q I J Z q;rcases q with q|q
 .exact h Y s U H x y v u Q I J Z q
 .exact h' Y s U H x y v u Q I J Z q
theorem Yq(b:Expr)(h:op≠.In:=by decide)(Y:op≠.NotIn:=by decide):behindInMarks op b=false:=by
 have J:(op==CmpOp.In)=false:=by cases op <;> first|rfl|exact Zp rfl h
 have Z:(op==CmpOp.NotIn)=false:=by cases op <;> first|rfl|exact Zp rfl Y
 cases b <;> simp[behindInMarks,J,Z]
theorem Vs(L:OpR X (compareOp op) r)(O:PE X a ta)(N:PE X b tb)(M:behindInMarks op b=false):PE X (.Compare a [op] [b] pos) (tOp r ta tb):=by
 intro Y s U H Q I h;exact wpAny_Compare1 (Sh O N I h fun v u Z x y T R G J q=>L Y Z U T x y v u Q R G J q) M
def PM(t:TE):TT:=fun U H Q=>t U H fun x H'=>∃k,x=.bl k/\Q k H'
theorem Yi(T:OpR X (compareOp op) r)(E:PE X a ta)(D:PE X b tb)(B:behindInMarks op b=false):PT X (.Compare a [op] [b] pos) (PM (tOp r ta tb)):=by
 intro Y s U H Q I h
 refine wpAny_isTrue_Compare1 (thn (E Y s U H _ I h) fun v J ⟨x,j,S,M,R⟩=>thn (D Y J U j _ S R) fun u Z ⟨y,P,A,L,O⟩=>
  thn (T Y Z U P x y v u _ A M L O) fun c q ⟨z,C,F,G,k,e,N⟩=>?_) B
 subst e;cases G;exact wpAny_truthy_bool ⟨C,F,N⟩
def Fg(r r':R2)(ta tb tc:TE):TE:=fun U H Q=>ta U H fun x H1=>tb U H1 fun y H2=>r x y H2 fun z H3=>∃k,z=.bl k/\
 (if k=true then tc U H3 fun w' H4=>r' y w' H4 Q else Q (.bl false) H3)
theorem IY(j:OpR X (compareOp op) r)(Z:OpR X (compareOp op') r')(g:PE X a ta)(m:PE X b tb)(t:PE X c tc)(q:lastMarks [op,op'] [b,c]=false:=by with_unfolding_all rfl):PE X (.Compare a [op,op'] [b,c] pos) (Fg r r' ta tb tc):=by
 intro Y s U H Q I h
 refine Compare_chain (thn (g Y s U H _ I h) fun v D ⟨x,i,w,A,P⟩=>chain_link (thn (m Y D U i _ w P) fun u B ⟨y,o,f,J,C⟩=>
  thn (j Y B U o x y v u _ f A J C) fun d T ⟨z,M,L,F,k,e,G⟩=>?_)) q
 subst e;cases F;refine wpAny_truthy_bool ?_
 cases k with
 |false=>exact ite_ff ⟨.bl false,M,L,rfl,G⟩
 |true=>exact ite_tt (chain_last (thn (t Y T U M _ L G) fun O R ⟨N,l,p,E,S⟩=>Z Y R U l y N u O Q p J E S))
theorem Mz(m:OpR X (compareOp op) r)(Z:OpR X (compareOp op') r')(w:PE X a ta)(f:PE X b tb)(p:PE X c tc)(g:lastMarks [op,op'] [b,c]=false:=by with_unfolding_all rfl):PT X (.Compare a [op,op'] [b,c] pos) (PM (Fg r r' ta tb tc)):=by
 intro Y s U H Q I h
 refine isTrue_chain (thn (w Y s U H _ I h) fun v D ⟨x,H1,I1,S,q⟩=>test_link (thn (f Y D U H1 _ I1 q) fun u B ⟨y,H2,I2,J,j⟩=>
  thn (m Y B U H2 x y v u _ I2 S J j) fun d T ⟨z,M,L,A,k,e,G⟩=>?_)) g
 subst e;cases A;refine wpAny_truthy_bool ?_
 cases k with
 |false=>
  obtain⟨k',o,t⟩:=G;cases o;exact ite_ff ⟨M,L,t⟩
 |true=>
  refine ite_tt (test_last (thn (p Y T U M _ L G) fun O R ⟨N,H4,n,F,P⟩=>thn (Z Y R U H4 y N u O _ n J F P) fun d' s5 ⟨z2,H5,i,E,k2,l,C⟩=>?_));subst l;cases E;exact wpAny_truthy_bool ⟨H5,i,C⟩
theorem Wg:(sizeLine:Nat)<2 ^ 63:=by rw[sizeLine_eq];decide
theorem Xz:OpR X (binaryOp .Add) (fun x y H Q=>∃i j,x=.str i/\y=.str j/\i.length+j.length<=sizeLine/\Q (.str (i++ j)) H):=by
 intro Y s U H x y v u Q I G J h;obtain⟨i,j,rfl,rfl,L,q⟩:=h;obtain⟨t,rfl⟩:=G;obtain⟨Z,rfl⟩:=J;exact add_str (fun Z M=>⟨.str (i++ j),H,I.tok _,⟨_,rfl⟩,q⟩) L
theorem vals1(r:Vals [x] us):∃u,us=[u]/\RelV x u:=by
 cases r with
 |cons Z Y=>cases Y;exact⟨_,rfl,Z⟩
theorem vals2(r:Vals [x,y] us):∃u Y,us=[u,Y]/\RelV x u/\RelV y Y:=by
 cases r with
 |cons L G=>
  cases G with
  |cons J Z=>cases Z;exact⟨_,_,rfl,L,J⟩
theorem Xo(Z:X.calm=true):Jb X (.builtin "max") (fun xs H Q=>∃i j,xs=[.int i,.int j]/\Q (.int (if j > i then j else i)) H):=by
 intro Y s U H xs G Q I r h;obtain⟨i,j,rfl,q⟩:=h;obtain⟨u,J,rfl,⟨t,rfl⟩,⟨M,rfl⟩⟩:=vals2 r;refine max_two_ints (I.ok.hd Z) fun N L k=>⟨_,H,I.kept k,?_,q⟩
 by_cases hj:j > i
 .rw [Zn hj,Zn hj];exact⟨_,rfl⟩
 .rw [Zo hj,Zo hj];exact⟨_,rfl⟩
theorem FN(Z:X.calm=true):Jb X (.builtin "min") (fun xs H Q=>∃i j,xs=[.int i,.int j]/\Q (.int (if j<i then j else i)) H):=by
 intro Y s U H xs G Q I r h;obtain⟨i,j,rfl,q⟩:=h;obtain⟨u,J,rfl,⟨t,rfl⟩,⟨M,rfl⟩⟩:=vals2 r;refine min_two_ints (I.ok.hd Z) fun N L k=>⟨_,H,I.kept k,?_,q⟩
 by_cases hj:j<i
 .rw [Zn hj,Zn hj];exact⟨_,rfl⟩
 .rw [Zo hj,Zo hj];exact⟨_,rfl⟩
theorem Wo:Jb X (.type "int") (fun xs H Q=>(∃i,xs=[.int i]/\Q (.int i) H) \/ ∃k,xs=[.bl k]/\Q (.int (if k then 1 else 0)) H):=by
 intro Y s U H xs Z Q I r h;rcases h with⟨i,rfl,q⟩|⟨k,rfl,q⟩
 .obtain ⟨u,rfl,t,rfl⟩:=vals1 r
  exact call_int_int ⟨.int i,H,I,⟨_,rfl⟩,q⟩
 .obtain ⟨u,rfl,r1⟩:=vals1 r
  cases r1;exact call_int_bool ⟨.int (if k then 1 else 0),H,I.tok _,⟨_,rfl⟩,q⟩
end
structure B8(h:Heap)(x dx C:Addr)(mA:Str->Option Value):Prop where
 obj:h.get? x=some (W.instObj C dx)
 ns:h.Ns1 dx mA
 ne:dx≠x
set_option tactic.hygienic true in
theorem E4{h:Heap}(n:h.Ns1 dx mA):∃Z,h.get? dx=some Z/\∀name,W.lookIn name Z=some (mA name):=by
 obtain⟨o,J,T,L,O,N,_,M⟩:=n;refine⟨o,L,fun name=>?_⟩;have e:=M name;unfold nsFind findBy at e;rw[<-Array.find?_toList]at e;unfold W.lookIn;rw[O];dsimp only
 split
 .rename_i y q
  rw[q]at e;exact congrArg some e
 .rename_i q
  rw[q]at e
  have a:J.toList.any (·.refKey)=false:=by
   rw[List.any_eq_false];intro y G;obtain⟨z,t,Y⟩:=N y (Array.mem_toList_iff.mp G);simp[DictEntry.refKey,Y]
  have R:¬J.toList.any (·.refKey)=true:=by rw[a];exact Zg
  rw[Zo R];exact congrArg some e
theorem B8.look(I:B8 h x dx C mA):∃Y,W.InstAt h x (W.instObj C dx) C (some Y)/\∀name,W.lookIn name Y=some (mA name):=
 let⟨Y,Z,J⟩:=E4 I.ns
 ⟨Y,⟨I.obj,rfl,rfl,Z⟩,J⟩
section
variable{K:W.Frag}
theorem Ow(X:K.In s.heap)(I:B8 s.heap x dx C mA)(M:W.plainGet K C name=true)(L:W.hasDictIn K C=true)(N:W.findIn K (.ref C) name=some none)(Z:mA name=some v)(Y:W.handedIn v=true)(h:Q v {s with toks:=s.toks+1}):
  wpAny (model prog w) A (getAttr (.ref x) name expr) Q E s:=by
 obtain⟨O,J,G⟩:=I.look;exact W.get_value X J (W.plainGet_of M).1 (W.findObj_own L N rfl (by rw[G,Z])) Y h
theorem LD(X:K.In s.heap)(I:B8 s.heap x dx C mA)(Y:W.plainGet K C name=true)(N:W.findIn K (.ref C) name=some (some (.ref f)))(L:W.isFn K (.ref f)=true)(G:mA name=none)(h:Q (.ref f,[.ref x]) s):
  wpAny (model prog w) A (getMethod (.ref x) name pl) Q E s:=by
 obtain⟨Z,J,M⟩:=I.look;exact W.method_fn X J (W.plainGet_of Y).1 (W.plainGet_of Y).2 N (beq_iff_eq.mp L) (by show(W.lookIn name Z).map (·.isSome)=some false;rw[M,G];rfl) h
theorem Lj(X:K.In s.heap)(I:B8 s.heap x dx C mA)(T:W.findIn K (.ref C) "__setattr__"=some (some (.builtin "object.__setattr__")))(B:W.plainOver K C=true)(R:W.takerIn K C name=some none)(D:W.hasDictIn K C=true)(O:PySem.Within mA ns)(hsz:ns.length<=sizeLine)(h:∀h',B8 h' x dx C (fun y=>if y=name then some v else mA y)->Heap.SameBut dx s.heap h'->Q () {s with heap:=h',toks:=s.toks+2}):
  wpAny (model prog w) A (setAttr (.ref x) name v) Q E s:=by
 obtain⟨P,J,z⟩:=I.look;refine W.set_plain X J T (W.osa_open (s:={s with toks:=s.toks+1}) (r:=none) X J B R fun b=>?_);obtain⟨q,F,L⟩:=W.any_some D;have N:s.heap.get? x=some ⟨.ref C,some dx,.plain,#[]⟩:=I.obj;refine Zj (Zk (Zj (Zj (wpAny_loadPart N (Zj (W.Looks.here (s:={s with toks:=s.toks+1}) (W.looks_clsIn X F) ?_))))));rw[L];refine Zk (a:=some dx) (Zj (Zk (Zj ?_)));refine wpAny_nsSet1 (s:={s with toks:=s.toks+1}) I.ns fun h' Z Y=>?_;obtain⟨j,S,U,G,hdD,M⟩:=Z.count (PySem.Within.cons name v O);refine Zj (wpAny_lookBehind G (by rw[hdD];exact pastItsLine_dict (ZZ M (by rw[Zd];exact P1 hsz))) ?_);exact Zk (h _ ⟨(Y.2 _ (Zq I.ne)).trans I.obj,Z,I.ne⟩ Y)
theorem Kv(X:K.In s.heap)(Y:W.makesIn K C=true)(hi:W.findIn K (.ref C) "__init__"=some (some (.ref f)))(Z:W.typeIn K (.ref f)=some (.type "function"))(h:codeAny (model prog w) (A.under (.builtin "type.__call__" ⟨.ref C::vs,kw⟩)) (.call (.ref f) ⟨.ref (s.heap.objs.size+1)::vs,kw⟩) (W.InitBack (s.heap.objs.size+1) R)
   {s with heap:=(s.heap.push W.emptyDict).push (W.instObj C s.heap.objs.size)}):
  codeAny (model prog w) A (.call (.ref C) ⟨vs,kw⟩) R s:=by
 obtain⟨G,g,d,t,J⟩:=s;exact W.make_core (W.makes_of X Y) (W.looks_findIn X hi) (fun self=>W.bind_fn X self Z) (.inl rfl) h
end
def Vj(f:Str)(v:V):List (Str×V)->List (Str×V)
 |[]=>[(f,v)]
 |(g,x)::r=>if g=f then(g,v)::r else(g,x)::Vj f v r
theorem Wy(f g:Str)(v:V):∀Y:List (Str×V),(Vj f v Y).lookup g=if g=f then some v else Y.lookup g
 |[]=>by
  show List.lookup g [(f,v)]=_
  by_cases h:g=f
  .have hb:(g==f)=true:=beq_iff_eq.mpr h
   simp only[List.lookup,hb,Zn h]
  .have hb:(g==f)=false:=beq_eq_false_iff_ne.mpr h
   simp only[List.lookup,hb,Zo h]
 |(k,x)::r=>by
  have ih:=Wy f g v r;rw[show Vj f v ((k,x)::r)=(if k=f then(k,v)::r else(k,x)::Vj f v r)from rfl]
  by_cases hk:k=f
  .rw [Zn hk]
   by_cases h:g=k
   .have hb:(g==k)=true:=beq_iff_eq.mpr h
    simp only[List.lookup,hb,Zn (h.trans hk)]
   .have hb:(g==k)=false:=beq_eq_false_iff_ne.mpr h
    simp only[List.lookup,hb,Zo (fun e:g=f=>h (e.trans hk.symm))]
  .rw [Zo hk]
   by_cases h:g=k
   .have hb:(g==k)=true:=beq_iff_eq.mpr h
    simp only[List.lookup,hb,Zo (fun e:g=f=>hk (h.symm.trans e))]
   .have hb:(g==k)=false:=beq_eq_false_iff_ne.mpr h
    simp only[List.lookup,hb];exact ih
theorem Wi(f:Str)(v:V):∀Y:List (Str×V),f∈(Vj f v Y).map (·.1)/\∀g,g∈Y.map (·.1)->g∈(Vj f v Y).map (·.1)
 |[]=>⟨by simp[Vj],fun g h=>by simp at h⟩
 |(k,x)::r=>by
  obtain⟨J,Z⟩:=Wi f v r;rw[show Vj f v ((k,x)::r)=(if k=f then(k,v)::r else(k,x)::Vj f v r)from rfl]
  by_cases hk:k=f
  .rw [Zn hk]
   subst hk;exact⟨by simp,fun g h=>by simpa using h⟩
  .rw [Zo hk]
   refine⟨?_,fun g h=>?_⟩
   .rw [ZT]
    exact ZK _ J
   .rw [ZT]at h |-
    rcases Zb.mp h with e|e
    .exact Zb.mpr (.inl e)
    .exact ZK _ (Z g e)
theorem Wz(f:Str)(v:V):∀Y:List (Str×V),(Vj f v Y).length<=Y.length+1
 |[]=>by simp[Vj]
 |(k,x)::r=>by
  have ih:=Wz f v r;rw[show Vj f v ((k,x)::r)=(if k=f then(k,v)::r else(k,x)::Vj f v r)from rfl]
  by_cases hk:k=f
  .rw [Zn hk,Zd,Zd];omega
  .rw [Zo hk,Zd,Zd];omega
theorem U3.some_of(r:U3 (some v) o):∃u,o=some u/\RelV v u:=by
 cases o with
 |none=>exact(show False from r).elim
 |some u=>exact⟨u,rfl,r⟩
theorem U3.none_of(r:U3 none o):o=none:=by
 cases o with
 |none=>rfl
 |some u=>exact(show False from r).elim
theorem E9(r:RelV v u):W.handedIn u=true:=by
 cases v with
 |non=>cases(show u=Value.none from r);rfl
 |bl b=>cases(show u=Value.bool b from r);rfl
 |int i=>obtain⟨t,e⟩:=(show ∃t,u=Value.int i t from r);cases e;rfl
 |str x=>obtain⟨t,e⟩:=(show ∃t,u=Value.str x t from r);cases e;rfl
 |byt b=>obtain⟨t,e⟩:=(show ∃t,u=Value.bytes b t from r);cases e;rfl
 |flt b=>obtain⟨t,e⟩:=(show ∃t,u=Value.float b t from r);cases e;rfl
 |ref a=>cases(show u=Value.ref a from r);rfl
 |ty n=>cases(show u=Value.type n from r);rfl
section
theorem Gh(Z:HOk P w H h)(e:H a=some (.ins C dx fs)):∃Y,B8 h a dx C Y/\(∀f,U3 (fs.lookup f) (Y f))/\PySem.Within Y (fs.map (·.1))/\fs.length<=1000/\H dx=some (.own a):=by
 obtain⟨d,z,G,J,Y,n,r,q⟩:=(show Vf P w H h a (.ins C dx fs)from Z a _ e);exact⟨Y,⟨J,n,G⟩,r,q,z,d⟩
end
structure Cls(K:W.Frag)(C:Addr):Prop where
 pg:W.plainGet K C Str.empty=true
 hd:W.hasDictIn K C=true
 po:W.plainOver K C=true
 sa:W.findIn K (.ref C) "__setattr__"=some (some (.builtin "object.__setattr__"))
theorem Cls.get{K:W.Frag}(c:Cls K C)(f:Str):W.plainGet K C f=true:=c.pg
def JW(K:W.Frag)(C:Addr)(f:Str):Prop:=W.findIn K (.ref C) f=some none
theorem JW.taker{K:W.Frag}(n:JW K C f):W.takerIn K C f=some none:=by
 unfold W.takerIn;rw[show W.findIn K (.ref C) f=some none from n]
 rfl
structure Con(K:W.Frag)(C:Addr)(f:Str)(v:V)(u:Value):Prop where
 at_:W.findIn K (.ref C) f=some (some u)
 rel:RelV v u
 get:W.specialIn K u "__get__"=some none
 cp:W.copiedNames.contains f=false
structure JZ(K:W.Frag)(C:Addr)(m:Str)(f:Addr):Prop where
 at_:W.findIn K (.ref C) m=some (some (.ref f))
 fn:W.isFn K (.ref f)=true
 kp:W.keepIn K (.ref f)=true
section
theorem By(I:Inv X pins U H s)(e:H a=some (.ins C dx fs))(c:Cls X.K C)(n:JW X.K C f)(l:fs.lookup f=some v)(h:∀u Y,Inv X pins U H Y->RelV v u->Q u Y):wpAny (model X.prog X.w) A (getAttr (.ref a) f b) Q E s:=by
 obtain⟨J,O,r,_,_,_⟩:=Gh I.hok e;obtain⟨u,G,Z⟩:=U3.some_of (v:=v) (o:=J f) (by rw[<-l];exact r f);exact Ow I.kIn O (c.get f) c.hd n G (E9 Z) (h u _ (I.tok _) Z)
theorem Tu(I:Inv X pins U H s)(e:H a=some (.ins C dx fs))(c:Cls X.K C)(k:JZ X.K C m g)(l:fs.lookup m=none)(h:Q (.ref g,[.ref a]) s):wpAny (model X.prog X.w) A (getMethod (.ref a) m pl) Q E s:=by
 obtain⟨Y,O,r,_,_,_⟩:=Gh I.hok e;have Z:Y m=none:=U3.none_of (by rw[<-l];exact r m);exact LD I.kIn O (c.get m) k.at_ k.fn Z h
theorem Nw(I:Inv X pins U H s)(e:H a=some (.ins C dx fs))(c:Cls X.K C)(n:JW X.K C f)(P:fs.length<1000)(N:RelV y u)(h:∀J,Inv X pins U (upd H a (.ins C dx (Vj f y fs))) J->Q () J):wpAny (model X.prog X.w) A (setAttr (.ref a) f u) Q E s:=by
 obtain⟨G,O,r,Z,_,L⟩:=Gh I.hok e;have R:(fs.map (·.1)).length<=sizeLine:=by rw[ZA,sizeLine_eq];omega
 refine Lj I.kIn O c.sa c.po n.taker c.hd Z R fun F Y M=>h _ ?_;have B:∃o,F.get? dx=some o:=let⟨o,_,_,S,_⟩:=Y.ns;⟨o,S⟩
 refine I.write (x:=a) (e:=dx) (by rw[e];exact True.intro) (.inr L) (fun b q D z=>(M.2 b D).trans z) B ?_;refine⟨by rw[Ya O.ne];exact L,?_,O.ne,Y.obj,_,Y.ns,fun g=>?_,fun g T=>?_⟩
 .have:=Wz f y fs;omega
 .show U3 ((Vj f y fs).lookup g) (if g=f then some u else G g)
  rw[Wy]
  by_cases q:g=f
  .rw [Zn q,Zn q];exact N
  .rw [Zo q,Zo q];exact r g
 .by_cases q:g=f
  .rw [q];exact(Wi f y fs).1
  .refine (Wi f y fs).2 g (Z g fun z=>T ?_)
   show(if g=f then some u else G g)=none;rw[Zo q];exact z
theorem Inv.made(I:Inv X pins U H s):Inv X pins U (upd (upd H s.heap.objs.size (.own (s.heap.objs.size+1))) (s.heap.objs.size+1) (.ins C s.heap.objs.size []))
  {s with heap:=(s.heap.push W.emptyDict).push (W.instObj C s.heap.objs.size)}:=by
 have Z:(s.heap.push W.emptyDict).get? s.heap.objs.size=some W.emptyDict:=ZW s.heap rfl
 have M:((s.heap.push W.emptyDict).push (W.instObj C s.heap.objs.size)).get? (s.heap.objs.size+1)=some (W.instObj C s.heap.objs.size):=by
  have:=ZW (s.heap.push W.emptyDict) (o:=W.instObj C s.heap.objs.size) rfl
  rwa [Heap.size_push]at this
 have L:(s.heap.push W.emptyDict).Ns s.heap.objs.size (fun _=>none):=⟨W.emptyDict,#[],_,Z,rfl,(fun e G=>Zp G (by simp)),fun _=>rfl⟩;have N:=I.laid (a:=s.heap.objs.size) (o:=.own (s.heap.objs.size+1)) (h':=s.heap.push W.emptyDict) (t':=s.toks) (fun b u q=>ZD _ q) (ZF _) ⟨_,Z⟩;refine N.laid (a:=s.heap.objs.size+1) (o:=.ins C s.heap.objs.size []) (t':=s.toks) (fun b u q=>ZD _ q) (Nat.le_of_eq (Heap.size_push _ _)) ?_;have Y:s.heap.objs.size≠s.heap.objs.size+1:=Zc (Nat.lt_succ_self _);refine⟨by rw[Ya Y,YY],Za _,Y,M,fun _=>none,(Heap.Ns1.of_empty L).at fun o q=>ZD _ q,fun _=>True.intro,fun y J=>Zp rfl J⟩
theorem PH(Z:attributeBase e f env (eval e env)=eval e env)(h:wpAny (model prog w) A (eval e env) (fun o Y=>wpAny (model prog w) A (getAttr o f true) Q E Y) E s):wpAny (model prog w) A (eval (.Attribute e f pos) env) Q E s:=
 Attribute_any_ h (by rw[arm_eval_Attribute,Z])
end
def Sy(K:W.Frag)(ta:TE)(f:Str):TE:=fun U H Q=>ta U H fun x H1=>Jr x fun a=>∃C dx fs v,H1 a=some (.ins C dx fs)/\Cls K C/\JW K C f/\fs.lookup f=some v/\Q v H1
def zn(K:W.Frag)(ta tv:TE)(f:Str):TS:=fun D U H=>tv U H fun y H1=>ta U H1 fun x H2=>∃a C dx fs,x=.ref a/\H2 a=some (.ins C dx fs)/\Cls K C/\JW K C f/\fs.length<1000/\
 D.nx U (upd H2 a (.ins C dx (Vj f y fs)))
section
theorem VI(he:PE X e ta)(G:attributeBase e f X.env (eval e X.env)=eval e X.env):PE X (.Attribute e f pos) (Sy X.K ta f):=by
 intro Y s U H Q I h;refine PH G (thn (he Y s U H _ I h) fun u D ⟨x,R,O,Z,q⟩=>?_);replace q:=Jr.old q;obtain⟨a,L,C,F,E,v,M,c,n,l,q⟩:=q;subst L;obtain rfl:u=Value.ref a:=Z;exact By O M c n l fun T B N J=>⟨v,R,N,J,q⟩
theorem UU(R:PE X o ta)(N:PE X value tv)(O:swapsWith value (some (.Attribute o f pos')) pos.line X.env=pure false):PS X (.Assign [.Attribute o f pos'] value pos) (zn X.K ta tv f):=by
 intro Y s U H D I h;refine plainObj_wpAny_Assign_Attribute (thn (N Y s U H _ I h) fun u Z ⟨y,S,A,J,q⟩=>thn (R Y Z U S _ A q) fun M Q ⟨x,t,F,G,a,C,z,j,T,B,c,n,l,L⟩=>?_) O;subst T;obtain rfl:M=Value.ref a:=G;exact Nw F B c n l J fun P E=>⟨U,_,E,L⟩
end
section
variable{H:Hp}
inductive X4(K:W.Frag)(H:Hp):V->Value->Prop where
 |non:X4 K H .non (.type "NoneType")
 |bl (x:Bool):X4 K H (.bl x) (.type "bool")
 |int (i:Int):X4 K H (.int i) (.type "int")
 |str (x:Str):X4 K H (.str x) (.type "str")
 |flt (x:UInt64):X4 K H (.flt x) (.type "float")
 |lst {a:Addr}{xs:List V}(e:H a=some (.lst xs)):X4 K H (.ref a) (.type "list")
 |frz {a:Addr}{o:Obj}{xs:List V}(e:H a=some (.frz o (.lst xs))):X4 K H (.ref a) (.type "list")
 |tup {a:Addr}{xs:List V}(e:H a=some (.tup xs)):X4 K H (.ref a) (.type "tuple")
 |dK {a:Addr}{kvs:List (Key×V)}(e:H a=some (.dK kvs)):X4 K H (.ref a) (.type "dict")
 |dT {a:Addr}{kvs:List (List Key×V)}(e:H a=some (.dT kvs)):X4 K H (.ref a) (.type "dict")
 |ins {a C dx:Addr}{fs:List (Str×V)}(e:H a=some (.ins C dx fs)) (cl:Cls K C) (ha:W.findIn K (.ref C) "__class__"=some (some (.builtin "object.__class__")))
   (hn:W.specialIn K (.builtin "object.__class__") "__get__"=some (some (.builtin "getset_descriptor.__get__"))) (htk:W.takesIn K (.builtin "object.__class__")=some true)
   (hm:W.mroIn K C (.type "object")=some true):X4 K H (.ref a) (.ref C)
theorem E6(I:Inv X pins U H s)(Y:RelV x u)(ty:X4 X.K H x t)(e:W.kitOne X.K t c=some b)(h:∀tk,Q (.bool b) {s with toks:=tk}):
  wpAny (model X.prog X.w) A (call (.builtin "isinstance") [u,c]) Q E s:=by
 cases ty with
 |non=>cases(show u=Value.none from Y);exact W.kia_one W.kitx_none I.kIn True.intro e (fun z=>nomatch z) h
 |bl y=>cases(show u=Value.bool y from Y);exact W.kia_one W.kitx_bool I.kIn True.intro e (fun z=>nomatch z) h
 |int i=>obtain⟨t,q⟩:=(show ∃t,u=Value.int i t from Y);cases q;exact W.kia_one W.kitx_int I.kIn True.intro e (fun z=>nomatch z) h
 |str y=>obtain⟨t,q⟩:=(show ∃t,u=Value.str y t from Y);cases q;exact W.kia_one W.kitx_str I.kIn True.intro e (fun z=>nomatch z) h
 |flt y=>obtain⟨t,q⟩:=(show ∃t,u=Value.float y t from Y);cases q;exact W.kia_one W.kitx_float I.kIn True.intro e (fun z=>nomatch z) h
 | @lst a M Z=>
  cases(show u=Value.ref a from Y);obtain⟨_,_,n,_,G⟩:=(show Vf X.prog X.w H s.heap a (.lst M)from I.hok a _ Z);exact W.kia_one W.kitx_list I.kIn ⟨_,G,rfl⟩ e (fun z=>nomatch z) h
 | @frz a B M Z=>
  cases(show u=Value.ref a from Y);obtain⟨_,_,_,n,_,G⟩:=(show Vf X.prog X.w H s.heap a (.frz B (.lst M))from I.hok a _ Z);exact W.kia_one W.kitx_list I.kIn ⟨_,G,rfl⟩ e (fun z=>nomatch z) h
 | @tup a M Z=>
  cases(show u=Value.ref a from Y);obtain⟨_,_,_,p⟩:=(show Vf X.prog X.w H s.heap a (.tup M)from I.hok a _ Z);obtain⟨o,G,_,N,_⟩:=p;exact W.kia_one W.kitx_tuple I.kIn ⟨o,G,N⟩ e (fun z=>nomatch z) h
 | @dK a L Z=>
  cases(show u=Value.ref a from Y);obtain⟨_,_,m,_,p⟩:=(show Vf X.prog X.w H s.heap a (.dK L)from I.hok a _ Z);obtain⟨o,P,j,G,N,_⟩:=p;exact W.kia_one W.kitx_dict I.kIn ⟨o,G,N.1⟩ e (fun z=>nomatch z) h
 | @dT a L Z=>
  cases(show u=Value.ref a from Y);obtain⟨_,_,M,_,o,P,j,G,N,_⟩:=(show Vf X.prog X.w H s.heap a (.dT L)from I.hok a _ Z);exact W.kia_one W.kitx_dict I.kIn ⟨o,G,N.1⟩ e (fun z=>nomatch z) h
 | @ins a C f d Z T S D R F=>
  cases(show u=Value.ref a from Y);obtain⟨k,O,_⟩:=Gh I.hok Z;obtain⟨g,J,_⟩:=O.look;exact W.kia_one (W.kitx_own (T.get _) T.hd S D R F) I.kIn J e (fun z=>nomatch z) h
end
structure V7(k:Nat)(A:Around):Prop where
 hd:A.handled=none
 dp:A.depth+3*k+5<recursionLimit
 un:A.units+16*k+200<cLine
theorem V7.mono(r:V7 k A)(h:j<=k):V7 j A:=⟨r.hd,by have:=r.dp;omega,by have:=r.un;omega⟩
theorem V7.deeper(r:V7 (k+1) A)(env:Env):V7 k (A.deeper env):=
 ⟨r.hd,by have:=r.dp;show A.depth+1+3*k+5<_;exact P0 this,by have:=r.un;show A.units+3+16*k+200<_;omega⟩
theorem V7.in1(r:V7 (k+1) A):V7 k A.in1:=
 ⟨r.hd,by have:=r.dp;show A.depth+3*k+5<_;omega,by have:=r.un;show A.units+1+16*k+200<_;exact Pz this⟩
theorem Bt{A:Around}:(A.under (.builtin "type.__call__" ⟨.ref C::us,kw⟩)).depth=A.depth+1:=by
 first|rfl|simp[Around.under,Code.weight,Code.isCreation,Code.isGuard,Code.isCaller,Code.frames,Code.isFrame,guardIds]
theorem Bs{A:Around}:(A.under (.builtin "type.__call__" ⟨.ref C::us,kw⟩)).units=A.units+1:=by
 first|rfl|simp[Around.under,Code.cUnits,Code.frames,Code.isFrame]
theorem V7.make(r:V7 (k+1) A)(C:Addr)(us:List Value)(Y:List (Str×Value)):V7 k (A.under (.builtin "type.__call__" ⟨.ref C::us,Y⟩)):=
 ⟨r.hd,by have:=r.dp;rw[Bt];exact P0 this,by have:=r.un;rw[Bs];exact Pz this⟩
theorem V7.depth(r:V7 k A):A.depth<recursionLimit:=by have:=r.dp;omega
theorem V7.units(r:V7 k A):A.units+64<cLine:=by have:=r.un;omega
theorem V7.units0(r:V7 k A):A.units<cLine:=by have:=r.un;omega
def Gv:TA:=fun _ H Q=>Q [] H
def JI(ta:TE)(tr:TA):TA:=fun U H Q=>ta U H fun x H1=>tr U H1 fun xs H2=>Q (x::xs) H2
section
variable{t:TA}
theorem VT:PA X [] Gv:=fun _ _ _ _ H Q I h=>Calls.spliced_nil ⟨[],H,I,.nil,h⟩
theorem Vk(B:PE X e te)(T:PA X es t)(R:starEach (e::es) X.env=(false,eval e X.env)::starEach es X.env:=by rfl):PA X (e::es) (JI te t):=by
 intro Z Y s U H Q I h;rw[R];show wpAny _ _ (spliced ((false,eval e X.env)::backTo Z (starEach es X.env))) _ _ s;refine Calls.spliced_cons (thn (B Y s U H _ I h) fun u G ⟨x,A,E,M,O⟩=>?_);exact thn (T Z Y G U A _ E O) fun S C ⟨J,F,D,L,N⟩=>⟨x::J,F,D,.cons M L,N⟩
theorem pa1(Z:PE X e0 t0)(Y:starEach [e0] X.env=(false,eval e0 X.env)::starEach [] X.env:=by rfl):PA X [e0] (JI t0 (Gv)):=Vk Z (VT) Y
theorem pa2(G:PE X e0 t0)(J:PE X e1 t1)(Z:starEach [e0,e1] X.env=(false,eval e0 X.env)::starEach [e1] X.env:=by rfl)(Y:starEach [e1] X.env=(false,eval e1 X.env)::starEach [] X.env:=by rfl):PA X [e0,e1] (JI t0 (JI t1 (Gv))):=Vk G (Vk J (VT) Y) Z
theorem pa3(M:PE X e0 t0)(L:PE X e1 t1)(G:PE X e2 t2)(J:starEach [e0,e1,e2] X.env=(false,eval e0 X.env)::starEach [e1,e2] X.env:=by rfl)(Z:starEach [e1,e2] X.env=(false,eval e1 X.env)::starEach [e2] X.env:=by rfl)(Y:starEach [e2] X.env=(false,eval e2 X.env)::starEach [] X.env:=by rfl):PA X [e0,e1,e2] (JI t0 (JI t1 (JI t2 (Gv)))):=Vk M (Vk L (Vk G (VT) Y) Z) J
theorem pa4(O:PE X e0 t0)(N:PE X e1 t1)(M:PE X e2 t2)(L:PE X e3 t3)(G:starEach [e0,e1,e2,e3] X.env=(false,eval e0 X.env)::starEach [e1,e2,e3] X.env:=by rfl)(J:starEach [e1,e2,e3] X.env=(false,eval e1 X.env)::starEach [e2,e3] X.env:=by rfl)(Z:starEach [e2,e3] X.env=(false,eval e2 X.env)::starEach [e3] X.env:=by rfl)(Y:starEach [e3] X.env=(false,eval e3 X.env)::starEach [] X.env:=by rfl):PA X [e0,e1,e2,e3] (JI t0 (JI t1 (JI t2 (JI t3 (Gv))))):=Vk O (Vk N (Vk M (Vk L (VT) Y) Z) J) G
theorem pa5(T:PE X e0 t0)(R:PE X e1 t1)(O:PE X e2 t2)(N:PE X e3 t3)(M:PE X e4 t4)(L:starEach [e0,e1,e2,e3,e4] X.env=(false,eval e0 X.env)::starEach [e1,e2,e3,e4] X.env:=by rfl)(G:starEach [e1,e2,e3,e4] X.env=(false,eval e1 X.env)::starEach [e2,e3,e4] X.env:=by rfl)(J:starEach [e2,e3,e4] X.env=(false,eval e2 X.env)::starEach [e3,e4] X.env:=by rfl)(Z:starEach [e3,e4] X.env=(false,eval e3 X.env)::starEach [e4] X.env:=by rfl)(Y:starEach [e4] X.env=(false,eval e4 X.env)::starEach [] X.env:=by rfl):PA X [e0,e1,e2,e3,e4] (JI t0 (JI t1 (JI t2 (JI t3 (JI t4 (Gv)))))):=Vk T (Vk R (Vk O (Vk N (Vk M (VT) Y) Z) J) G) L
theorem pa6(D:PE X e0 t0)(B:PE X e1 t1)(T:PE X e2 t2)(R:PE X e3 t3)(O:PE X e4 t4)(N:PE X e5 t5)(M:starEach [e0,e1,e2,e3,e4,e5] X.env=(false,eval e0 X.env)::starEach [e1,e2,e3,e4,e5] X.env:=by rfl)(L:starEach [e1,e2,e3,e4,e5] X.env=(false,eval e1 X.env)::starEach [e2,e3,e4,e5] X.env:=by rfl)(G:starEach [e2,e3,e4,e5] X.env=(false,eval e2 X.env)::starEach [e3,e4,e5] X.env:=by rfl)(J:starEach [e3,e4,e5] X.env=(false,eval e3 X.env)::starEach [e4,e5] X.env:=by rfl)(Z:starEach [e4,e5] X.env=(false,eval e4 X.env)::starEach [e5] X.env:=by rfl)(Y:starEach [e5] X.env=(false,eval e5 X.env)::starEach [] X.env:=by rfl):PA X [e0,e1,e2,e3,e4,e5] (JI t0 (JI t1 (JI t2 (JI t3 (JI t4 (JI t5 (Gv))))))):=Vk D (Vk B (Vk T (Vk R (Vk O (Vk N (VT) Y) Z) J) G) L) M
def zb(t:TA):TE:=fun U H Q=>t U H fun xs H1=>xs.length<=sizeLine/\∀p,H1 p=none->Q (.ref p) (upd H1 p (.tup xs))
def zg(t:TA):TE:=fun U H Q=>t U H fun xs H1=>xs.length<=sizeLine/\∀p,H1 p=none->Q (.ref p) (upd H1 p (.lst xs))
theorem Yw(h:PA X es t):PE X (.Tuple es x1 pos) (zb t):=by
 intro Y s U H Q I N;refine wpAny_Tuple_spliced (thn (h pos Y s U H _ I N) fun M Z ⟨L,G,J,r,z,q⟩=>⟨by rw[<-r.length];exact z,?_⟩);have O:G Z.heap.objs.size=none:=J.hok.fresh (ZF _);refine⟨.ref Z.heap.objs.size,upd G Z.heap.objs.size (.tup L),J.laid (t':=Z.toks) (fun b u e=>ZD _ e) (ZF _) ?_,rfl,q _ O⟩;exact⟨z,M,r,⟨_,ZW _ rfl,rfl,rfl,_,rfl⟩⟩
theorem VD(h:PA X es t):PE X (.List es pos) (zg t):=by
 intro Y s U H Q I N;refine wpAny_List_spliced (thn (h pos Y s U H _ I N) fun M Z ⟨L,G,J,r,z,q⟩=>⟨by rw[<-r.length];exact z,?_⟩);have O:G Z.heap.objs.size=none:=J.hok.fresh (ZF _);refine⟨.ref Z.heap.objs.size,upd G Z.heap.objs.size (.lst L),J.laid (t':=Z.toks) (fun b u e=>ZD _ e) (ZF _) ?_,rfl,q _ O⟩;exact⟨z,M,0,r,ZW _ rfl⟩
end
abbrev Sp:=List V->Hp->VK->XK->Prop
abbrev CXT:=List Env->Hp->Shared->XK->Value->Shared->Prop
structure B9(P:Program)(w:World)(K:W.Frag)(mg:Str->Option Value)(base:Heap)(A:Around)(outer:List Env)(s:Shared)(H:Hp):Prop where
 frames:A.frames=some outer
 mod:Mod K mg base
 bs:∀b o,base.get? b=some o->s.heap.get? b=some o/\H b=none
 bsz:base.objs.size<=s.heap.objs.size
 funs:s.heap.FunFrames base outer
 frf:∀b∈frs outer,H b=none
 hok:HOk P w H s.heap
 bare:AllBare s.gens
def CE(outer:List Env)(P:Program)(w:World)(H:Hp)(s:Shared)(Q:VK)(u:Value)(s':Shared):Prop:=
 ∃v H',s'.os=s.os/\AllBare s'.gens/\Un (frs outer) [] H H' s.heap s'.heap/\HOk P w H' s'.heap/\RelV v u/\Q v H'
def CR(CX:CXT)(outer:List Env)(P:Program)(w:World)(H:Hp)(s:Shared)(Q:VK)(E:XK)(r:Result)(s':Shared):Prop:=
 match r with
 |.ok (.ret u)=>CE outer P w H s Q u s'
 |.ok _=>False
 |.error e=>CX outer H s E e s'
structure Yo(P:Program)(w:World)(K:W.Frag)(mg:Str->Option Value)(base:Heap)(CX:CXT)(k:Nat)(f:Addr)(fd:FuncData)(ps:List Str)(sp:Sp):Prop where
 len:∀vs H Q E,sp vs H Q E->vs.length=ps.length
 run:∀(A:Around)(outer:List Env)(s:Shared)(H:Hp)(args:Args)(us:List Value)(vs:List V)(Q:VK)(E:XK),V7 k A->B9 P w K mg base A outer s H->BindsTo s fd args (ps.zip us)->Vals vs us->sp vs H Q E->
  codeAny (model P w) A (.call (.ref f) args) (CR CX outer P w H s Q E) s
theorem Yo.mono{K:W.Frag}(F:Yo P w K mg base CX j f fd ps sp)(h:j<=k):
  Yo P w K mg base CX k f fd ps sp:=⟨F.len,fun A Y s H args J Z Q E G=>F.run A Y s H args J Z Q E (G.mono h)⟩
theorem B9.make{K:W.Frag}(e:B9 P w K mg base A outer s H)(C:Addr)(us:List Value)(Y:List (Str×Value)):
  B9 P w K mg base (A.under (.builtin "type.__call__" ⟨.ref C::us,Y⟩)) outer s H:=⟨by first|exact e.frames|(simpa[Around.under,Code.envs,Code.isFrame,pushEnvs]using e.frames),e.mod,e.bs,e.bsz,e.funs,e.frf,e.hok,e.bare⟩
section
theorem Inv.env0(I:Inv X pins U H s):B9 X.prog X.w X.K X.mg X.base X.A X.stack s H:=
 ⟨I.ok.frames,I.ok.mod,I.bs,ZZ I.ok.bsz I.sz,I.stack,I.stkFree,I.hok,I.bare⟩
theorem Inv.after(I:Inv X pins U H s)(h:CE X.stack X.prog X.w H s Q u s'):EP X pins U Q u s':=by
 obtain⟨v,M,G,bare,J,Z,r,q⟩:=h;obtain⟨L,g,d,t,Y⟩:=s';obtain rfl:Y=s.os:=G;exact⟨v,M,I.call (h':=L) (g':=g) (d':=d) (t':=t) (ch:=[]) J Z bare (fun b z=>Zp z (by simp)),r,q⟩
end
def Fh(sp:Sp)(dvs:List V)(E:XK)(t:TA):TE:=fun U H Q=>t U H fun vs H1=>sp (vs++ dvs) H1 Q E
def Fd(C:Addr)(m:Str)(sp:Sp)(dvs:List V)(E:XK)(ta:TE)(t:TA):TE:=fun U H Q=>ta U H fun x H1=>Jr x fun a=>∃dx fs,H1 a=some (.ins C dx fs)/\fs.lookup m=none/\
 t U H1 fun vs H2=>sp (x::(vs++ dvs)) H2 Q E
def Sv(C:Addr)(sp:Sp)(dvs:List V)(E:XK)(t:TA):TE:=fun U H Q=>t U H fun vs H1=>∀x dx,H1 x=none->H1 dx=none->dx≠x->
 sp (.ref x::(vs++ dvs)) (upd (upd H1 dx (.own x)) x (.ins C dx [])) (fun v H2=>v=.non/\Q (.ref x) H2) E
def Binds(K:W.Frag)(fd:FuncData)(ps:List Str)(ds:List Value):Prop:=
 ∀(s:Shared)(us:List Value),K.In s.heap->(us++ ds).length=ps.length->BindsTo s fd ⟨us,[]⟩ (ps.zip (us++ ds))
theorem Binds.all{K:W.Frag}(h:∀us:List Value,us.length=ps.length->bindArgs fd ⟨us,[]⟩=pure (ps.zip us)):Binds K fd ps []:=fun s us _ Y=>by
 rw[List.append_nil]at Y |-;exact .of_eq (h us Y)
def XS(CX:CXT)(X:Cx)(E:XK):Prop:=∀(pins:List (Addr×Obj))(U:St)(H:Hp)(s:Shared)(e:Value)(s':Shared),Inv X pins U H s->CX X.stack H s E e s'->X.xe e s'
section
variable{f C:Addr}
theorem MU(F:Yo X.prog X.w X.K X.mg X.base CX k f fd ps sp)(G:V7 k X.A)(N:Binds X.K fd ps ds)(M:Vals dvs ds)(hx:XS CX X E)(I:Inv X pins U H s)(r:Vals vs us)(h:sp (vs++ dvs) H Q E):wpAny (model X.prog X.w) X.A (call (.ref f) us) (EP X pins U Q) X.xe s:=by
 have Z:Vals (vs++ dvs) (us++ ds):=r.append M;have L:(us++ ds).length=ps.length:=by rw[<-Z.length];exact F.len _ _ _ _ h
 refine wpAny_call (codeAny_mono (F.run X.A X.stack s H ⟨us,[]⟩ (us++ ds) (vs++ dvs) Q E G I.env0 (N s us I.kIn L) Z h) fun r J Y=>?_)
 cases r with
 |error e=>exact hx pins U H s e J I Y
 |ok O=>
  cases O with
  |ret u=>exact I.after Y
  |next=>exact False.elim Y
  |brk=>exact False.elim Y
  |cont=>exact False.elim Y
theorem Va(F:Yo X.prog X.w X.K X.mg X.base CX k f fd ps sp)(L:V7 k X.A)(O:Gl X x)(M:X.mg x=some (.ref f))(N:W.keepIn X.K (.ref f)=true)(T:Binds X.K fd ps ds)(R:Vals dvs ds)(hx:XS CX X E)(B:PA X (e::es) t)(J:(x==("__debug__":Str))=false:=by decide)(he:starEach (e::es) X.env=(false,eval e X.env)::starEach es X.env:=by rfl)(Z:(backTo pos (starEach es X.env)).any (·.1)=false:=by rfl):
  PE X (.Call (.Name x p) (e::es) [] pos) (Fh sp dvs E t):=by
 intro Y s U H Q I h;refine wpAny_Call_Name_kw (Gd I O M ?_ J);refine W.callWith_K (h₀:=X.base) I.ok.mod.kin N (thn (B pos Y s U H _ I h) fun A S ⟨D,C,G,r,q⟩=>⟨G.kIn,?_⟩) he Z;exact MU F L T R hx G r q
theorem JM(he:PE X o ta)(c:Cls X.K C)(G:JZ X.K C m f)(F:Yo X.prog X.w X.K X.mg X.base CX k f fd ps sp)(B:V7 k X.A)(A:Binds X.K fd ps ds)(D:Vals dvs ds)(hx:XS CX X E)(S:PA X (e::es) t)(Z:starEach (e::es) X.env=(false,eval e X.env)::starEach es X.env:=by rfl)(J:(backTo pos (starEach es X.env)).any (·.1)=false:=by rfl)(T:eval (.Call (.Attribute o m apos) (e::es) [] pos) X.env=(do
   let ov <-eval o X.env
   standAt apos.atName
   let(f,first) <-holding [ov] (getMethod ov m pl)
   callWith pos f first (backTo pos (starEach (e::es) X.env)) (backToKw pos (keywordEach [] X.env))):=by rfl):
  PE X (.Call (.Attribute o m apos) (e::es) [] pos) (Fd C m sp dvs E ta t):=by
 intro Y s U H Q I h;refine W.methodCall_KW (pl:=pl) (thn (he Y s U H _ I h) fun u N ⟨x,y,M,O,q⟩=>?_) T;replace q:=Jr.old q;obtain⟨a,P,p,g,j,l,q⟩:=q;subst P;obtain rfl:u=Value.ref a:=O;refine Tu M j c G l ?_;refine W.callWith_K (first:=[.ref a]) (h₀:=X.base) I.ok.mod.kin G.kp (thn (S pos Y N U y _ M q) fun us z ⟨vs,d,L,r,R⟩=>⟨L.kIn,?_⟩) Z J;exact MU (us:=.ref a::us) (vs:=.ref a::vs) F B A D hx L (.cons rfl r) R
theorem JR(he:PE X o ta)(c:Cls X.K C)(J:JZ X.K C m f)(F:Yo X.prog X.w X.K X.mg X.base CX k f fd ps sp)(M:V7 k X.A)(O:Binds X.K fd ps ds)(N:Vals dvs ds)(hx:XS CX X E)(L:eval (.Call (.Attribute o m apos) [] [] pos) X.env=(do
   let ov <-eval o X.env
   standAt apos.atName
   let(f,first) <-holding [ov] (getMethod ov m pl)
   callWith pos f first (backTo pos (starEach [] X.env)) (backToKw pos (keywordEach [] X.env))):=by rfl):
  PE X (.Call (.Attribute o m apos) [] [] pos) (Fd C m sp dvs E ta Gv):=by
 intro Y s U H Q I h;refine W.methodCall_KW (pl:=pl) (thn (he Y s U H _ I h) fun u B ⟨x,S,Z,G,q⟩=>?_) L;replace q:=Jr.old q;obtain⟨a,R,A,D,T,l,q⟩:=q;subst R;obtain rfl:u=Value.ref a:=G;refine Tu Z T c J l ?_;exact W.callWith_K0 (first:=[.ref a]) Z.kIn J.kp (MU (us:=[.ref a]) (vs:=[.ref a]) F M O N hx Z (.cons rfl .nil) q)
structure Mk(K:W.Frag)(C f:Addr):Prop where
 makes:W.makesIn K C=true
 init:W.findIn K (.ref C) "__init__"=some (some (.ref f))
 fn:W.isFn K (.ref f)=true
 kp:W.keepIn K (.ref C)=true
theorem IP(M:Mk X.K C f)(F:Yo X.prog X.w X.K X.mg X.base CX k f fd ps sp)(T:V7 (k+1) X.A)(A:Binds X.K fd ps ds)(D:Vals dvs ds)(hx:XS CX X E)(I:Inv X pins U H s)(r:Vals vs us)(h:∀x Z,H x=none->H Z=none->Z≠x->sp (.ref x::(vs++ dvs)) (upd (upd H Z (.own x)) x (.ins C Z [])) (fun v y=>v=.non/\Q (.ref x) y) E):
  wpAny (model X.prog X.w) X.A (call (.ref C) us) (EP X pins U Q) X.xe s:=by
 have L:=h (s.heap.objs.size+1) s.heap.objs.size (I.hok.fresh (Nat.le_succ _)) (I.hok.fresh (ZF _)) (Zc (Nat.lt_succ_self _));have J:=Inv.made (C:=C) I;have G:Vals (V.ref (s.heap.objs.size+1)::(vs++ dvs)) (Value.ref (s.heap.objs.size+1)::(us++ ds)):=.cons rfl (r.append D)
 have B:(Value.ref (s.heap.objs.size+1)::us++ ds).length=ps.length:=by
  have e:=G.length;rw[F.len _ _ _ _ L]at e;exact e.symm
 refine wpAny_call (Kv (f:=f) I.kIn M.makes M.init (beq_iff_eq.mp M.fn) (codeAny_mono (F.run _ X.stack _ _ ⟨Value.ref (s.heap.objs.size+1)::us,[]⟩ (Value.ref (s.heap.objs.size+1)::(us++ ds)) _ _ E (T.make C us [])
  (J.env0.make C us []) (A _ (Value.ref (s.heap.objs.size+1)::us) J.kIn B) G L) fun r N Y=>?_))
 cases r with
 |error e=>exact hx pins U _ _ e N J Y
 |ok S=>
  cases S with
  |ret u=>
   obtain⟨v,z,j,O,P,R⟩:=J.after Y;subst P;exact⟨O,⟨V.ref (s.heap.objs.size+1),z,j,rfl,R⟩⟩
  |next=>exact False.elim Y
  |brk=>exact False.elim Y
  |cont=>exact False.elim Y
theorem Dx(M:Mk X.K C f)(F:Yo X.prog X.w X.K X.mg X.base CX k f fd ps sp)(L:V7 (k+1) X.A)(O:Gl X x)(N:X.mg x=some (.ref C))(T:Binds X.K fd ps ds)(R:Vals dvs ds)(hx:XS CX X E)(B:PA X (e::es) t)(J:(x==("__debug__":Str))=false:=by decide)(he:starEach (e::es) X.env=(false,eval e X.env)::starEach es X.env:=by rfl)(Z:(backTo pos (starEach es X.env)).any (·.1)=false:=by rfl):
  PE X (.Call (.Name x p) (e::es) [] pos) (Sv C sp dvs E t):=by
 intro Y s U H Q I h;refine wpAny_Call_Name_kw (Gd I O N ?_ J);refine W.callWith_K (h₀:=X.base) I.ok.mod.kin M.kp (thn (B pos Y s U H _ I h) fun A S ⟨D,P,G,r,q⟩=>⟨G.kIn,?_⟩) he Z;exact IP M F L T R hx G r q
end
section
variable{fd:FuncData}{ps ks:List Str}{sp:Sp}{E:XK}{t tk:TA}
structure yi(K:W.Frag)(fd:FuncData)(ps ks:List Str)(g:List Value->List Value->List Value)(gV:List V->List V->List V):Prop where
 to:∀(s:Shared)(us ws:List Value),K.In s.heap->(g us ws).length=ps.length->BindsTo s fd ⟨us,ks.zip ws⟩ (ps.zip (g us ws))
 rel:∀{vs:List V}{us:List Value}{zs:List V}{ws:List Value},Vals vs us->Vals zs ws->Vals (gV vs zs) (g us ws)
end
structure Yr(N P:List Str)(sc:Scope):Prop where
 kind:sc.kind=.function
 co:sc.isCoroutine=false
 gen:sc.isGenerator=false
 nd:N.Nodup
 pre:N.take P.length=P
 par:∀x∈P,sc.names.lookup x=some .local\/sc.names.lookup x=some .cell
 nofree:∀y∈sc.names,y.2≠.free
theorem Rg{kindOf:Str->Option NameKind}:∀{binds:List (Str×Value)}{m:Str->Option Value},(∀v,(x,v)∉binds)->bindL kindOf binds m x=m x
 |[],_,_=>rfl
 |(n,v)::r,m,h=>by
  unfold bindL;rw[Rg fun w Y=>h w (ZK _ Y)]
  split
  .have:x≠n:=by rintro rfl;exact h v ZY
   simp[this]
  .rfl
theorem Ri{kindOf:Str->Option NameKind}:∀{binds:List (Str×Value)}{m:Str->Option Value},(∀v,(x,v)∉binds)->bindC kindOf binds m x=m x
 |[],_,_=>rfl
 |(n,v)::r,m,h=>by
  unfold bindC;rw[Ri fun w Y=>h w (ZK _ Y)]
  split
  .rfl
  .have:x≠n:=by rintro rfl;exact h v ZY
   simp[this]
theorem Rh{kindOf:Str->Option NameKind}:∀{P:List Str}{vs:List Value}{i:Nat}{m:Str->Option Value},P.Nodup->P[i]?=some x->vs[i]?=some v->kindOf x=some .local->
  bindL kindOf (P.zip vs) m x=some v
 |[],_,_,_,_,h,_,_=>by simp at h
 |_::_,[],_,_,_,_,h,_=>by simp at h
 |p::P,w::vs,0,m,nd,h1,h2,hk=>by
  simp at h1 h2;subst h1;subst h2;show bindL kindOf ((p,w)::P.zip vs) m p=_;unfold bindL;rw[Rg fun v Y=>(List.nodup_cons.mp nd).1 (List.of_mem_zip Y).1,Zn hk];simp
 |p::P,w::vs,i+1,m,nd,h1,h2,hk=>by
  show bindL kindOf ((p,w)::P.zip vs) m x=_;unfold bindL;exact Rh (i:=i) (List.nodup_cons.mp nd).2 (by simpa using h1) (by simpa using h2) hk
theorem Rj{kindOf:Str->Option NameKind}:∀{P:List Str}{vs:List Value}{i:Nat}{m:Str->Option Value},P.Nodup->P[i]?=some x->vs[i]?=some v->kindOf x≠some .local->
  bindC kindOf (P.zip vs) m x=some v
 |[],_,_,_,_,h,_,_=>by simp at h
 |_::_,[],_,_,_,_,h,_=>by simp at h
 |p::P,w::vs,0,m,nd,h1,h2,hk=>by
  simp at h1 h2;subst h1;subst h2;show bindC kindOf ((p,w)::P.zip vs) m p=_;unfold bindC;rw[Ri fun v Y=>(List.nodup_cons.mp nd).1 (List.of_mem_zip Y).1,Zo hk];simp
 |p::P,w::vs,i+1,m,nd,h1,h2,hk=>by
  show bindC kindOf ((p,w)::P.zip vs) m x=_;unfold bindC;exact Rj (i:=i) (List.nodup_cons.mp nd).2 (by simpa using h1) (by simpa using h2) hk
def start(N:List Str)(vs:List V):St:=vs.map some++ List.replicate (N.length-vs.length) none
def JV(CX:CXT)(P:Program)(w:World)(K:W.Frag)(mg:Str->Option Value)(base:Heap)(N:List Str)(qual:Str)(scope:Scope)(f:Addr)(cd:Value)(A:Around)(outer:List Env)(s:Shared)(H:Hp)(E:XK):Cx where
 prog:=P
 w:=w
 K:=K
 mg:=mg
 base:=base
 A:=A.deeper (envOfC qual scope s.heap.objs.size f cd)
 N:=N
 s₀:=s
 H₀:=H
 env:=envOfC qual scope s.heap.objs.size f cd
 outer:=outer
 stack:=envOfC qual scope s.heap.objs.size f cd::outer
 ex:=[]
 calm:=true
 fn:=fun _=>true
 pn:=[]
 xe:=fun e s'=>wpAny (model P w) (A.deeper (envOfC qual scope s.heap.objs.size f cd)) (leaving (envOfC qual scope s.heap.objs.size f cd) e) (fun _ s''=>CX outer H s E e s'') (fun e' s''=>CX outer H s E e' s'') s'
theorem Na{Y:Scope}(h:Y.names.lookup x=some .cell):∃c,(cellsFrom n Y.names []).lookup x=some c:=by
 have q:=W.cellsFrom_some Y.names n [] (.inl h);exact Option.isSome_iff_exists.mp q
theorem E7{CX:CXT}{P:Program}{w:World}{K:W.Frag}(S:Yr N ps scope)(I:A.handled=none)(Z:B9 P w K mg base A outer s H)(B:vs.length=ps.length)(r:Vals vs us)(x:InCallC s s.heap.objs.size (bindL (envOfC qual scope s.heap.objs.size f cd).kindOf (ps.zip us) fun _=>none) (cellsFrom (s.heap.objs.size+1) scope.names []) (bindC (envOfC qual scope s.heap.objs.size f cd).kindOf (ps.zip us) fun _=>none) s1):
  Inv (JV CX P w K mg base N qual scope f cd A outer s H E) [] (start N vs) H s1:=by
 have R:ps.length<=N.length:=by have:=congrArg List.length S.pre;rw[ZL]at this;omega
 obtain⟨O,C,rfl,D⟩:=x.done;have J:∀b:Addr,b∉(JV CX P w K mg base N qual scope f cd A outer s H E).ex:=fun b z=>Zp (show b∈([]:List Addr)from z) (by simp);refine⟨⟨Z.mod,S.kind,rfl,rfl,ZF _,fun y z c O Y=>?_,fun y G=>?_,fun y c _ h=>?_,fun _=>I,Around.frames_deeper Z.frames,.inr ⟨rfl,rfl⟩,fun b z=>Zp z (J b),Z.bs,Z.bsz,fun b _ _=>J b,fun b z=>Zp z (J b),Z.funs,Z.frf⟩,
  rfl,Z.bare,Un.kept D,⟨_,x.toInCall.ns,fun i y v O Y X=>?_⟩,fun y c h=>⟨_,x.cell y c h⟩,Z.hok.fresh (ZF _),fun y c h=>?_,fun p M=>Zp (show p∈([]:List (Addr×Obj))from M) (by simp),Z.hok.kept D,?_⟩
 .exact name_of_addr x.apart (PySem.mem_of_lookup O) (PySem.mem_of_lookup Y)
 .have G:scope.names.lookup y=some .cell\/scope.names.lookup y=some .free:=G
  rcases G with G|G
  .exact Na G
  .exact Zp rfl (S.nofree _ (PySem.mem_of_lookup G))
 .exact Zf (x.above y c (PySem.mem_of_lookup h))
 .have hi:i<vs.length:=by
   unfold start at Y
   by_cases hi:i<vs.length
   .exact hi
   .rw [List.getElem?_append_right (by simpa using hi)]at Y
    rw[List.getElem?_replicate]at Y
    split at Y <;> cases Y
  have U:vs[i]?=some v:=by
   unfold start at Y;rw[List.getElem?_append_left (by simpa using hi),ZG]at Y
   cases e:vs[i]? with
   |none=>rw[e]at Y;cases Y
   |some a=>rw[e]at Y;cases Y;rfl
  obtain⟨u,T,F⟩:=r.get U
  have M:ps[i]?=some y:=by
   rw[<-S.pre,List.getElem?_take_of_lt (by exact El hi B)];exact O
  have L:ps.Nodup:=by rw[<-S.pre];exact S.nd.sublist (List.take_sublist _ _)
  refine⟨u,F,?_⟩;rcases S.par y (ZH M)with k|k
  .exact .inl ⟨k,Rh L M T k⟩
  .obtain ⟨c,e⟩:=Na (n:=s.heap.objs.size+1) k
   refine .inr ⟨.inl k,c,e,?_⟩;have q:=x.cell y c e;rw[Rj L M T (by show scope.names.lookup y≠_;rw[k];decide)]at q;exact q
 .exact Z.hok.fresh (Zf (x.above y c (PySem.mem_of_lookup h)))
 .unfold start
  show _=N.length;rw[ZJ,ZA,List.length_replicate];exact CI B R
theorem zT{CX:CXT}{P:Program}{K:W.Frag}{g kV B m Y ct d:Value}(l:K.lookup f=some ⟨d,od,.func (W.fnOf name qual params body scope g kV B m an Y ct),osl⟩)(j:W.codeIn K Y qual=true)(S:Yr N ps scope)(M:∀vs H Q E,sp vs H Q E->vs.length=ps.length)(G:∀(A:Around)(outer:List Env)(s:Shared)(H:Hp)(vs:List V)(Q:VK)(E:XK),V7 k (A.deeper (envOfC qual scope s.heap.objs.size f Y))->sp vs H Q E->
   ∃t,PSs (JV CX P w K mg base N qual scope f Y A outer s H E) body t/\t {nx:=fun _ H'=>Q .non H',rt:=Q} (start N vs) H):
  Yo P w K mg base CX (k+1) f (W.fnOf name qual params body scope g kV B m an Y ct) ps sp:=by
 refine⟨M,fun A outer s H args c vs Q E X T hb r O=>?_⟩;have hl:=M _ _ _ _ O;have p:K.In s.heap:=T.mod.kin.keeps fun b o e=>(T.bs b o e).1;have C:s.heap.NoLimit:=T.mod.nolimit.keeps fun b o e=>(T.bs b o e).1
 have Z:∀y∈ps.zip c,scope.names.lookup y.1=some .local\/(scope.names.lookup y.1=some .cell/\((cellsFrom (s.heap.objs.size+1) scope.names []).lookup y.1).isSome=true):=fun⟨n,v⟩ i=>by
  rcases S.par n (List.of_mem_zip i).1 with q|q
  .exact .inl q
  .exact .inr ⟨q,W.cellsFrom_some _ _ _ (.inl q)⟩
 refine codeAny_call_function X.depth (p _ _ l) rfl S.co S.gen rfl (W.codeRec_of p j) (hb _ _ _ _ ?_);refine wpAny_newFunctionEnv_cells S.kind Z fun Z8 he z x=>?_;subst he;refine⟨C.keeps x.toInCall.keep,codeAny_func ?_⟩;obtain⟨t,h,a⟩:=G A outer s H vs Q E (X.deeper _) O;have I:Inv (JV CX P w K mg base N qual scope f Y A outer s H E) [] (start N vs) H z:=E7 S X.hd T hl r x;refine Zl (h [] z (start N vs) H _ I a) (fun fl F L=>?_) fun e F L=>L
 have R:∀{D:St}{H':Hp}{v:V}{u:Value},Inv (JV CX P w K mg base N qual scope f Y A outer s H E) [] D H' F->RelV v u->Q v H'->CE outer P w H s Q u F:=
  fun{D H' v u} J U q=>⟨v,H',J.os,J.bare,J.base,J.hok,U,q⟩
 cases fl with
 |ret u=>
  obtain⟨v,D,H',J,U,q⟩:=L;exact R J U q
 |next=>
  obtain⟨D,H',J,q⟩:=L;exact R (v:=V.non) (u:=Value.none) J rfl q
 |brk=>
  obtain⟨_,_,_,q⟩:=L;exact False.elim q
 |cont=>
  obtain⟨_,_,_,q⟩:=L;exact False.elim q
end L2
namespace L2
open PySem PySem.Spec PyProof.Rows
section
variable{t:TA}{id T:String}{r:List V->Hp->VK->Prop}
def tCB(r:List V->Hp->VK->Prop)(t:TA):TE:=fun U H Q=>t U H fun vs H1=>r vs H1 Q
theorem Y0(E:Jb X (.builtin id) r)(D:Gl X x)(B:X.mg x=none)(R:bootBuiltins x=some (.builtin id))(F:PA X (e::es) t)(T:x≠"__name__":=by decide)(J:(x==("__debug__":Str))=false:=by decide)(he:starEach (e::es) X.env=(false,eval e X.env)::starEach es X.env:=by rfl)(Z:(backTo pos (starEach es X.env)).any (·.1)=false:=by rfl):PE X (.Call (.Name x p) (e::es) [] pos) (tCB r t):=by
 intro Y s U H Q I h;refine wpAny_Call_Name_kw (Wh I D B R ?_ T J);exact PyProof.Rows.callWith_builtin1 (thn (F pos Y s U H _ I h) fun L M ⟨G,S,A,N,O⟩=>E Y M U S G L Q A N O) he Z
theorem Y4(F:Jb X (.type T) r)(E:Gl X x)(D:X.mg x=none)(R:bootBuiltins x=some (.type T))(A:PA X (e::es) t)(B:x≠"__name__":=by decide)(J:(x==("__debug__":Str))=false:=by decide)(he:starEach (e::es) X.env=(false,eval e X.env)::starEach es X.env:=by rfl)(Z:(backTo pos (starEach es X.env)).any (·.1)=false:=by rfl):PE X (.Call (.Name x p) (e::es) [] pos) (tCB r t):=by
 intro Y s U H Q I h;refine wpAny_Call_Name_kw (Wh I E D R ?_ B J);exact PyProof.Rows.callWith_type1 (thn (A pos Y s U H _ I h) fun L M ⟨G,C,S,N,O⟩=>F Y M U C G L Q S N O) he Z
end
end L2
namespace HT
open PySem PyProof.Rows
section
open PySem.SeqAt
open PySem.AutoSeq1 (wpAny_loadPart')
open PySem.MeetsSeq PySem.MeetsSeq2 PySem.MeetsSeq3
end
section
theorem cat_tup(F:IsTup s.heap t vs.toArray)(I:IsTup s.heap b ws.toArray)(O:vs≠[])(U:ws=[]->Q (.ref t) s)(S:ws≠[]->Q (.ref s.heap.objs.size) {s with heap:=s.heap.push {cls:=.type "tuple",data:=.seq (vs++ ws).toArray}})(hsz:vs.length+ws.length<=sizeLine):wpAny (model prog w) A (binaryOp .Add (.ref t) (.ref b)) Q E s:=by
 obtain⟨⟨cls,B,data,sl⟩,M,T,n,R⟩:=id F;obtain⟨⟨D,L,data2,Z⟩,Y,G,N,J⟩:=id I;simp only at T R G J;subst T R G J;have e:vs.toArray++ ws.toArray=(vs++ ws).toArray:=by simp
 by_cases hw:ws=[]
 .exact concat_meets ⟨_,M,rfl⟩ ⟨_,Y,rfl⟩ noFill_tuple_add seq_tuple_add PySem.F.slot_tuple_add PySem.F.entry_tuple_add (PySem.F.args_tuple_add_2 _ _)
   (tuple_addW1 t b vs.toArray ws.toArray n N B L sl Z (by simpa using O) (by simp[hw])) ⟨M,Y,U hw⟩
 .refine concat_meets ⟨_,M,rfl⟩ ⟨_,Y,rfl⟩ noFill_tuple_add seq_tuple_add PySem.F.slot_tuple_add PySem.F.entry_tuple_add (PySem.F.args_tuple_add_2 _ _)
   (tuple_addW2 t b vs.toArray ws.toArray n N B L sl Z (by simpa using O) (by simpa using hw) (by rw[ZM,ZM];exact hsz)) ⟨M,Y,?_⟩
  rw[e];exact S hw
def sIx(n d:Nat):Option Int->Nat
 |none=>d
 |some v=>if v<0 then(v+(n:Int)).toNat else min v.toNat n
theorem sIx_none(n d:Nat):sIx n d none=d:=rfl
theorem sIx_nat(n d k:Nat):sIx n d (some (k:Int))=min k n:=by
 show(if(k:Int)<0 then((k:Int)+(n:Int)).toNat else min (k:Int).toNat n)=min k n;rw[Zo (by omega),Int.toNat_natCast]
theorem Qs(n d:Nat)(Y:d<=n)(o:Option Int):sIx n d o<=n:=by
 cases o with
 |none=>exact Y
 |some v=>
  show(if v<0 then(v+(n:Int)).toNat else min v.toNat n)<=n
  by_cases hv:v<0
  .rw [Zn hv];omega
  .rw [Zo hv];exact Nat.min_le_right _ _
theorem EN(v:Int)(n d:Nat):(if v<0 then max (v+(n:Int)) 0 else min v (n:Int))=((sIx n d (some v):Nat):Int):=by
 show(if v<0 then max (v+(n:Int)) 0 else min v (n:Int))=(((if v<0 then(v+(n:Int)).toNat else min v.toNat n):Nat):Int)
 by_cases hv:v<0
 .simp only[Zn hv];omega
 .simp only[Zo hv];omega
theorem B7(lo hi:Option Int)(n:Nat):Builtin.Slice.sliceAdjust lo hi 1 (n:Int)=(((sIx n 0 lo:Nat):Int),((sIx n n hi:Nat):Int)):=by
 have Y:¬((1:Int)<0):=by decide
 unfold Builtin.Slice.sliceAdjust;simp only[Y,if_false];refine Prod.ext ?_ ?_
 .cases lo with
  |none=>rfl
  |some v=>exact EN v n 0
 .cases hi with
  |none=>rfl
  |some v=>exact EN v n n
theorem Bi(i j:Nat):Builtin.Slice.slicePlaces (i:Int) (j:Int) 1=j-i:=by
 unfold Builtin.Slice.slicePlaces;have Y:(1:Int) > 0:=by decide
 simp only[Y,if_true,Int.ediv_one]
 split <;> omega
theorem G7(p:IsPart v o)(h:Q o s):wpAny (model prog w) A (Builtin.Slice.slicePartIndex v) Q E s:=by
 cases p with
 |none=>exact slicePart_none h
 |int i t=>exact slicePart_int h
theorem sliceApplied_gen{lo hi:Option Int}{n:Nat}(G:s.heap.IsSliceOf sl vl vu .none)(pl:IsPart vl lo)(J:IsPart vu hi)(h:Q (((sIx n 0 lo:Nat):Int),1,sIx n n hi-sIx n 0 lo) s):wpAny (model prog w) A (Builtin.Slice.sliceApplied (.ref sl) (pure (n:Int))) Q E s:=by
 obtain⟨M,Y,L,Z⟩:=id G;unfold Builtin.Slice.sliceApplied Builtin.Slice.sliceFields;refine Zj (Zj (Zm Y Z (x:=vl) rfl (Zj (Zm Y Z (x:=vu) rfl (Zj (Zm Y Z (x:=.none) rfl (Zk ?_)))))));refine Zj (slicePart_none ?_);show wpAny _ _ (if((1:Int)==0)=true then _ else _) _ _ s;rw[Zo (by decide)];refine Zj (G7 pl (Zj (G7 J (Zj (Zk ?_)))));show wpAny _ _ (match Builtin.Slice.sliceAdjust lo hi 1 (n:Int)with|(lo,hi)=>pure (lo,(1:Int),Builtin.Slice.slicePlaces lo hi 1)) _ _ s;rw[B7 lo hi n];show wpAny _ _ (pure (((sIx n 0 lo:Nat):Int),(1:Int),Builtin.Slice.slicePlaces ((sIx n 0 lo:Nat):Int) ((sIx n n hi:Nat):Int) 1)) _ _ s;rw[Bi];exact Zk h
theorem IV(xs:Array Value)(i k:Nat):((List.range k).filterMap fun(m:Nat)=>xs[((i:Int)+(m:Int)*1).toNat]?).toArray=((xs.toList.drop i).take k).toArray:=by
 have e:(fun(m:Nat)=>xs[((i:Int)+(m:Int)*1).toNat]?)=fun m=>xs[i+m]?:=by
  funext m
  have:((i:Int)+(m:Int)*1).toNat=i+m:=by omega
  rw[this]
 rw[e];have:=pick_run xs i k;rw[List.filterMap_map]at this;have Y:((fun x=>xs[x]?) ∘ fun x=>i+x)=fun m=>xs[i+m]?:=rfl;rw[Y]at this;rw[this]
theorem getItem_tuple_cut{lo hi:Option Int}(Z:IsTup s.heap t items)(N:s.heap.IsSliceOf sl vl vu .none)(pl:IsPart vl lo)(O:IsPart vu hi)(T:¬(sIx items.size 0 lo=0/\sIx items.size items.size hi=items.size))(h:Q (.ref s.heap.objs.size) {s with heap:=s.heap.push {cls:=.type "tuple",data:=.seq ((items.toList.drop (sIx items.size 0 lo)).take (sIx items.size items.size hi-sIx items.size 0 lo)).toArray}})(hsz:items.size<=sizeLine):wpAny (model prog w) A (getItem (.ref t) (.ref sl)) Q E s:=by
 have Y:sizeOk (.seq ((items.toList.drop (sIx items.size 0 lo)).take (sIx items.size items.size hi-sIx items.size 0 lo)).toArray):=by
  show((items.toList.drop (sIx items.size 0 lo)).take (sIx items.size items.size hi-sIx items.size 0 lo)).toArray.size<=sizeLine;rw[ZM,ZL,List.length_drop,Array.length_toList];omega
 have I:sIx items.size items.size hi<=items.size:=Qs _ _ (ZF _) hi;obtain⟨R,J,L,B⟩:=id N;have M:s.TypeIs (.ref sl) "slice":=⟨R,J,L⟩;unfold getItem
 try with_reducible refine wpAny_holding ?_
 first|refine Zj (Zk ?_)|skip
 refine Zj (wpAny_sequenceKey Z.typeIs (by decide) ?_);refine Zj (wpAny_callSpecial?_slot (name:=Str.ofString "__getitem__") Z.typeIs PyProof.Rows.slot_tuple_getitem
  (wpAny_call_entry PyProof.Rows.slot_tuple_getitem Z.typeIs entry_tuple_getitem ?_ (args_tuple_getitem _ _)))
 show wpAny _ _ (Builtin.Tuple.tupleItemsOf (.ref t) >>=_) _ _ s;refine Zj (tupleItemsOf_ Z ?_);refine Zj (wpAny_typeOf M ?_);rw[Zn (by decide)];refine Zj (sliceApplied_gen N pl O ?_)
 have G:¬((((sIx items.size 0 lo:Nat):Int)==0 && (1:Int)==1 && (sIx items.size items.size hi-sIx items.size 0 lo)==items.size)=true):=by
  intro q;rw[ZX,ZX]at q;have F:((sIx items.size 0 lo:Nat):Int)=0:=eq_of_beq q.1.1;have D:sIx items.size items.size hi-sIx items.size 0 lo=items.size:=eq_of_beq q.2;exact T ⟨by omega,by omega⟩
 show wpAny _ _ (if(((sIx items.size 0 lo:Nat):Int)==0 && (1:Int)==1 && (sIx items.size items.size hi-sIx items.size 0 lo)==items.size)=true then _ else _) _ _ s;rw[Zo G,IV]
 first
  |exact Zj (m:=Builtin.Tuple.tupleExact _) (wpAny_newObj_type (Zk ⟨_,rfl,Zk h⟩) Y)
  |exact Zj (m:=Builtin.Tuple.tupleExact _) (wpAny_newObj_type (Zj (Zk (Zk ⟨_,rfl,Zk h⟩))) Y)
  |exact Zj (Zj (m:=Builtin.Tuple.tupleExact _) (wpAny_newObj_type (Zk (Zk ⟨_,rfl,Zk h⟩)) Y))
  |exact Zj (Zj (m:=Builtin.Tuple.tupleExact _) (wpAny_newObj_type (Zk ⟨_,rfl,Zk h⟩) Y))
end
end HT
namespace L2
open PySem PySem.Spec PyProof.Rows
abbrev TO:=St->Hp->(Option Int->Hp->Prop)->Prop
def PO(X:Cx)(e:Option Expr)(t:TO):Prop:=
 ∀(pins:List (Addr×Obj))(s:Shared)(U:St)(H:Hp)(Q:Option Int->Hp->Prop),Inv X pins U H s->t U H Q->
  wpAny (model X.prog X.w) X.A (evalPart e X.env) (fun u s'=>∃o H',Inv X pins U H' s'/\IsPart u o/\Q o H') X.xe s
def Rp:TO:=fun _ H Q=>Q none H
def Sr(t:TE):TO:=fun U H Q=>t U H fun x H1=>∃i,x=.int i/\Q (some i) H1
section
variable{X:Cx}{te:TE}{lo hi:Option Expr}{tl th:TO}
theorem Vr:PO X none Rp:=by
 intro Y s U H Q I h;rw[evalPart_none];exact Zk ⟨none,H,I,.none,h⟩
theorem VY(h:PE X e te):PO X (some e) (Sr te):=by
 intro Y s U H Q I G;rw[evalPart_some];refine thn (h Y s U H _ I G) fun u N ⟨x,M,L,Z,J⟩=>?_;obtain⟨i,rfl,q⟩:=J;obtain⟨t,rfl⟩:=Z;exact⟨some i,M,L,.int i t,q⟩
def SlR(X:Cx)(r:V->Option Int->Option Int->Hp->VK->Prop):Prop:=
 ∀(pins:List (Addr×Obj))(s:Shared)(U:St)(H:Hp)(x:V)(v vl vu:Value)(lo hi:Option Int)(sl:Addr)(Q:VK),Inv X pins U H s->RelV x v->s.heap.IsSliceOf sl vl vu .none->IsPart vl lo->IsPart vu hi->r x lo hi H Q->
  ∃T id,typeLookup (.type T) "__getitem__"=pure (some (.builtin id))/\s.TypeIs v T/\wpAny (model X.prog X.w) X.A (getItem v (.ref sl)) (EP X pins U Q) X.xe s
def tSl(r:V->Option Int->Option Int->Hp->VK->Prop)(te:TE)(tl th:TO):TE:=fun U H Q=>te U H fun x H1=>tl U H1 fun l H2=>th U H2 fun u H3=>r x l u H3 Q
theorem VM(C:SlR X r)(he:PE X e te)(P:PO X lo tl)(A:PO X hi th):PE X (.Subscript e (.Slice lo hi none p2) pos) (tSl r te tl th):=by
 intro Y s U H Q I h;refine Subscript_ (thn (he Y s U H _ I h) fun v N ⟨x,p,g,O,D⟩=>?_);refine wpAny_Slice (thn (P Y N U p _ g D) fun G M ⟨l,k,m,F,B⟩=>thn (A Y M U k _ m B) fun J Z ⟨u,L,t,E,R⟩=>?_);rw[evalPart_none];refine Zk ?_;have z:Inv X Y U L {Z with heap:=Z.heap.push {cls:=.type "slice",data:=.fields #[G,J,.none]}}:=t.kept (t':=Z.toks) fun b c q=>ZD _ q;obtain⟨T,d,y,S,j⟩:=C Y {Z with heap:=Z.heap.push {cls:=.type "slice",data:=.fields #[G,J,.none]}} U L x v G J l u Z.heap.objs.size Q z O (Heap.IsSliceOf.new ..) F E R;show wpAny (model X.prog X.w) X.A (subscriptTail e (.Slice lo hi none p2) v (.ref Z.heap.objs.size)) (EP X Y U Q) X.xe {Z with heap:=Z.heap.push {cls:=.type "slice",data:=.fields #[G,J,.none]}};exact tail_any (ops:=[.ref Z.heap.objs.size,v]) S y j (by with_unfolding_all rfl)
def Jp(xs:List V)(lo hi:Option Int):List V:=(xs.drop (HT.sIx xs.length 0 lo)).take (HT.sIx xs.length xs.length hi-HT.sIx xs.length 0 lo)
theorem W0(xs:List V)(lo hi:Option Int):(Jp xs lo hi).length<=xs.length:=by
 unfold Jp;rw[ZL,List.length_drop];exact Py
def zo(K:W.Frag):V->Option Int->Option Int->Hp->VK->Prop:=fun x lo hi H Q=>∃a xs,x=.ref a/\SqT K H a xs/\
 ¬(HT.sIx xs.length 0 lo=0/\HT.sIx xs.length xs.length hi=xs.length)/\∀p,H p=none->Q (.ref p) (upd H p (.tup (Jp xs lo hi)))
theorem WX:SlR X (zo X.K):=by
 intro M s U H x v S A J L sl Q I R F B T h;obtain⟨a,Z,rfl,D,E,q⟩:=h;cases R;obtain⟨G,r,O,N⟩:=I.tuple D;have Y:G.toArray.size=Z.length:=by rw[ZM];exact r.length.symm
 refine⟨"tuple",_,PyProof.Rows.slot_tuple_getitem.lookup,O.typeIs,?_⟩;refine HT.getItem_tuple_cut O F B T (by rw[Y];exact E) ?_ (by rw[Y];exact N);rw[Y];refine⟨.ref s.heap.objs.size,_,I.laid (t':=s.toks) (o:=.tup (Jp Z J L)) (fun b C q=>ZD _ q) (ZF _) ?_,rfl,q _ (I.hok.fresh (ZF _))⟩;exact⟨ZZ (W0 Z J L) N,_,(r.drop (HT.sIx Z.length 0 J)).take (HT.sIx Z.length Z.length L-HT.sIx Z.length 0 J),Wt.new _ _⟩
def Wv(K:W.Frag):R2:=fun x y H Q=>∃a b xs ys,x=.ref a/\y=.ref b/\SqT K H a xs/\SqT K H b ys/\xs≠[]/\xs.length+ys.length<=sizeLine/\
 (ys=[]->Q (.ref a) H)/\(ys≠[]->∀p,H p=none->Q (.ref p) (upd H p (.tup (xs++ ys))))
theorem Vals.nil_iff(r:Vals xs us):us=[]↔xs=[]:=by
 cases r with
 |nil=>simp
 |cons _ _=>simp
theorem Xh:OpR X (binaryOp .Add) (Wv X.K):=by
 intro J s U H x y v u Q I R O h;obtain⟨a,b,N,M,rfl,rfl,C,S,A,L,B,T⟩:=h;cases R;cases O;obtain⟨F,Z,E,_⟩:=I.tuple C;obtain⟨G,Y,D,_⟩:=I.tuple S;refine HT.cat_tup E D (fun z=>A (Z.nil_iff.mp z)) (fun z=>⟨.ref a,H,I,rfl,B (Y.nil_iff.mp z)⟩) (fun z=>?_) (by rw[<-Z.length,<-Y.length];exact L);refine⟨.ref s.heap.objs.size,_,I.laid (t':=s.toks) (o:=.tup (N++ M)) (fun b P q=>ZD _ q) (ZF _) ?_,rfl,T (fun w=>z (Y.nil_iff.mpr w)) _ (I.hok.fresh (ZF _))⟩;exact⟨by rw[ZJ];exact L,_,Z.append Y,Wt.new _ _⟩
end
def ixN(n:Nat)(i:Int):Option Nat:=if 0<=i then(if i<n then some i.toNat else none)else if -(n:Int)<=i then some (i+n).toNat else none
def atI{α:Type}(xs:List α)(i:Int):Option α:=(ixN xs.length i).bind fun j=>xs[j]?
theorem EB(h:ixN n i=some j):seqIndex? i n=some j/\j<n/\ -(n:Int)<=i/\i<n:=by
 unfold ixN at h
 by_cases h0:0<=i
 .rw [Zn h0]at h
  by_cases h1:i<n
  .rw [Zn h1]at h
   have e:i.toNat=j:=ZP h;exact⟨by rw[seqIndex_of h0 h1,e],by omega,by omega,h1⟩
  .rw [Zo h1]at h;cases h
 .rw [Zo h0]at h
  by_cases h1: -(n:Int)<=i
  .rw [Zn h1]at h
   have e:(i+n).toNat=j:=ZP h;exact⟨by rw[seqIndex_neg (by exact M5 h0) h1,e],by omega,h1,by omega⟩
  .rw [Zo h1]at h;cases h
theorem Ml(h:atI xs i=some v):∃j,seqIndex? i xs.length=some j/\xs[j]?=some v/\j<xs.length/\ -(xs.length:Int)<=i/\i<xs.length:=by
 unfold atI at h
 cases e:ixN xs.length i with
 |none=>rw[e]at h;cases h
 |some j=>
  rw[e]at h;obtain⟨G,J,Z,Y⟩:=EB e;exact⟨j,G,h,J,Z,Y⟩
theorem Y3{xs:List α}{j:Nat}{v:α}(h:xs[j]?=some v):atI xs (j:Int)=some v:=by
 have Y:j<xs.length:=(ZE.mp h).1
 have e:ixN xs.length (j:Int)=some j:=by
  unfold ixN;rw[Zn (by omega),Zn (by omega)];simp
 unfold atI;rw[e];exact h
def PJ(b:Expr):Prop:=∀o i,subscripted b false o i=operate [o,i] (getItem o i)
def IxR(X:Cx)(r:R2):Prop:=
 ∀(value slice:Expr)(pins:List (Addr×Obj))(s:Shared)(U:St)(H:Hp)(x y:V)(v u:Value)(Q:VK),Inv X pins U H s->RelV x v->RelV y u->r x y H Q->
  subscripted slice false v u=operate [v,u] (getItem v u)->wpAny (model X.prog X.w) X.A (subscriptTail value slice v u) (EP X pins U Q) X.xe s
def MtR(X:Cx)(id:String)(r:V->List V->Hp->VK->Prop):Prop:=
 ∀(pins:List (Addr×Obj))(s:Shared)(U:St)(H:Hp)(x:V)(xs:List V)(v:Value)(us:List Value)(Q:VK),Inv X pins U H s->RelV x v->Vals xs us->r x xs H Q->
  wpAny (model X.prog X.w) X.A (call (.builtin id) (v::us)) (EP X pins U Q) X.xe s
section
variable{a b:Expr}{ta tb:TE}
theorem Yd(M:IxR X r)(O:PE X a ta)(N:PE X b tb)(L:PJ b:=by exact fun _ _=>rfl):PE X (.Subscript a b pos) (tOp r ta tb):=by
 intro Y s U H Q I h;exact Subscript_ (Sh O N I h fun v u Z x y T R G J q=>M a b Y Z U T x y v u Q R G J q (L _ _))
def IS(K:W.Frag):R2:=fun x y H Q=>Jr x fun p=>J9 y fun i=>∃xs v,SqL K H p xs/\atI xs i=some v/\Q v H
theorem IS.old{K:W.Frag}(h:IS K x y H Q):∃p xs i v,x=.ref p/\y=.int i/\SqL K H p xs/\atI xs i=some v/\Q v H:=by
 replace h:=Jr.old h;obtain⟨p,e,h⟩:=h;replace h:=J9.old h;obtain⟨i,Y,xs,v,h⟩:=h;exact⟨p,xs,i,v,e,Y,h⟩
def Ta(K:W.Frag):R2:=fun x y H Q=>Jr x fun p=>J9 y fun i=>∃xs v,SqT K H p xs/\atI xs i=some v/\Q v H
theorem Ta.old{K:W.Frag}(h:Ta K x y H Q):∃p xs i v,x=.ref p/\y=.int i/\SqT K H p xs/\atI xs i=some v/\Q v H:=by
 replace h:=Jr.old h;obtain⟨p,e,h⟩:=h;replace h:=J9.old h;obtain⟨i,Y,xs,v,h⟩:=h;exact⟨p,xs,i,v,e,Y,h⟩
def S8:R2:=fun x y H Q=>∃z i c,x=.str z/\y=.int i/\z.length<=sizeLine/\atI z.cps.toList i=some c/\Q (.str ⟨#[c]⟩) H
theorem Yv:IxR X (IS X.K):=by
 intro value slice Y s U H x y v u Q I A F h O;replace h:=IS.old h;obtain⟨p,g,i,z,rfl,rfl,S,P,q⟩:=h;cases A;obtain⟨t,rfl⟩:=F;obtain⟨M,r,L,N⟩:=I.list S;obtain⟨j,J,m,k,B,T⟩:=Ml P;obtain⟨w,D,G⟩:=r.get m;have C:=r.length;have R:=Wg;have Z:EP X Y U Q w s:=⟨z,H,I,G,q⟩
 by_cases h0:0<=i
 .have hj:i.toNat=j:=by
   rw[seqIndex_of h0 T]at J;exact ZP J
  exact item_listR L.isList h0 (by exact Iw T R N) (by rw[hj];simpa using D) Z O
 .have hj:(i+(M.toArray.size:Int)).toNat=j:=by
   rw[seqIndex_neg (by exact M5 h0) B]at J;rw[ZM,<-C];exact ZP J
  exact subscriptTail_builtinR (x:=w) L.isList.typeIs slot_list_getitem.lookup
   (wpAny_getItem_list_neg (Q:=fun r E=>r=w/\EP X Y U Q r E) L.isList (by exact M5 h0) (by rw[ZM] <;> omega) (by exact Iv R N B) (by rw[hj];simpa using D) ⟨rfl,Z⟩) O
theorem Yg:IxR X (Ta X.K):=by
 intro value slice Y s U H x y v u Q I R O h B;replace h:=Ta.old h;obtain⟨p,g,i,z,rfl,rfl,D,F,q⟩:=h;cases R;obtain⟨t,rfl⟩:=O;obtain⟨T,r,G,L⟩:=I.tuple D;obtain⟨j,P,C,k,S,A⟩:=Ml F;obtain⟨w,m,Z⟩:=r.get C;have E:=r.length;have M:=Wg;have J:EP X Y U Q w s:=⟨z,H,I,Z,q⟩;exact subscriptTail_builtinR (x:=w) G.typeIs slot_tuple_getitem.lookup
  (getItem_tuple (j:=j) (Q:=fun r N=>r=w/\EP X Y U Q r N) G (by exact Iv M L S) (by exact Iw A M L) (by rw[ZM,<-E];exact P) (by simpa using m) ⟨rfl,J⟩) B
theorem Bv:IxR X S8:=by
 intro value slice Y s U H x y v u Q I G J h L;obtain⟨z,i,c,rfl,rfl,F,N,q⟩:=h;obtain⟨t,rfl⟩:=G;obtain⟨E,rfl⟩:=J;obtain⟨j,Z,T,S,R,O⟩:=Ml N;have M:z.cps.toList.length=z.length:=by simp[Str.length]
 rw[M]at Z R O;have A:=Wg
 exact tail_any (typeIs_str s z t) slot_str_getitem.lookup (getItem_str (c:=c) (by
  have D:decide (i < -(2 ^ 63:Int))=false:=Zw (by omega);have B:decide (i ≥ 2 ^ 63)=false:=Zw (by omega);rw[D,B,Bool.or_false]) (by rw[Z];simpa using T) ⟨.str ⟨#[c]⟩,H,I.tok _,⟨_,rfl⟩,q⟩) L
theorem Br(Y:List Value)(n j:Nat)(u:Value):Obj.mapSeq (·.setIfInBounds j u) {cls:=.type "list",data:=.seq Y.toArray n}={cls:=.type "list",data:=.seq (Y.set j u).toArray n}:=by
 simp[Obj.mapSeq]
theorem Inv.lst(I:Inv X pins U H s)(h:H p=some (.lst xs)):
  ∃(Y:List Value)(n:Nat),Vals xs Y/\s.heap.get? p=some {cls:=.type "list",data:=.seq Y.toArray n}/\xs.length<=sizeLine:=by
 obtain⟨z,Y,n,r,e⟩:=I.hok p _ h;exact⟨Y,n,r,e,z⟩
theorem Inv.lstUpd{Y its':List Value}(I:Inv X pins U H s)(h:H p=some (.lst xs))(G:s.heap.get? p=some {cls:=.type "list",data:=.seq Y.toArray n})(Z:f {cls:=.type "list",data:=.seq Y.toArray n}={cls:=.type "list",data:=.seq its'.toArray n'})(r:Vals ys its')(J:ys.length<=sizeLine)(t:Nat):
  Inv X pins U (upd H p (.lst ys)) {s with heap:=s.heap.update p f,toks:=t}:=by
 have e:(s.heap.update p f).get? p=some {cls:=.type "list",data:=.seq its'.toArray n'}:=by
  rw[Heap.get?_update_self f G (by rw[Z] <;> rfl),Z]
 refine I.write (x:=p) (e:=p) (by rw[h];trivial) (.inl rfl) (fun b u L q=>(Heap.get?_update_other _ _ (Zq L)).trans q) ⟨_,e⟩ ?_;exact⟨J,its',n',r,e⟩
def S7:V->V->V->Hp->(Hp->Prop)->Prop:=fun o i v H Q=>∃p xs k j,o=.ref p/\i=.int k/\H p=some (.lst xs)/\ixN xs.length k=some j/\Q (upd H p (.lst (xs.set j v)))
theorem set_list:zZ X S7:=by
 intro Y s U H o i v C P u Q I F A E h;obtain⟨p,D,k,j,rfl,rfl,R,S,q⟩:=h;cases F;obtain⟨t,rfl⟩:=A;obtain⟨Z,n,r,L,G⟩:=I.lst R;obtain⟨J,y,O,N⟩:=EB S;have M:=r.length;have T:=Wg
 have B:Inv X Y U (upd H p (.lst (D.set j v))) {s with heap:=s.heap.update p (Obj.mapSeq (·.setIfInBounds j u))}:=
  I.lstUpd R L (Br Z n j u) (r.set E j) (by rw[List.length_set];exact G) s.toks
 by_cases h0:0<=k
 .have hk:k.toNat=j:=by
   rw[seqIndex_of h0 N]at J;exact ZP J
  exact W.ki_setAt L h0 (by exact Iw N T G) (by rw[ZM,<-M];exact N) (by rw[hk];exact⟨_,B,q⟩)
 .have hk:(k+(Z.toArray.size:Int)).toNat=j:=by
   rw[seqIndex_neg (by exact M5 h0) O]at J;rw[ZM,<-M];exact ZP J
  exact W.ki_setBack L (by exact M5 h0) (by rw[ZM,<-M];exact O) (by exact Iv T G O) (by rw[hk];exact⟨_,B,q⟩)
theorem MC(lo hi:Option Int)(n:Nat):(sliceBounds lo hi none n).1=((HT.sIx n 0 lo:Nat):Int)/\(sliceBounds lo hi none n).2.1=((HT.sIx n n hi:Nat):Int)/\(sliceBounds lo hi none n).2.2=1:=by
 refine⟨?_,?_,rfl⟩
 .cases lo with
  |none=>simp[sliceBounds,HT.sIx]
  |some i=>
   simp only[sliceBounds,HT.sIx,Option.getD_none,show(1:Int) > 0 by decide,if_true]
   by_cases h:i<0
   .simp only[h,if_true] <;> omega
   .simp only[h,if_false] <;> omega
 .cases hi with
  |none=>simp[sliceBounds,HT.sIx]
  |some i=>
   simp only[sliceBounds,HT.sIx,Option.getD_none,show(1:Int) > 0 by decide,if_true]
   by_cases h:i<0
   .simp only[h,if_true] <;> omega
   .simp only[h,if_false] <;> omega
theorem T8(Y:List Value)(lo hi:Option Int):slicePick Y.toArray lo hi none=((Y.drop (HT.sIx Y.length 0 lo)).take (HT.sIx Y.length Y.length hi-HT.sIx Y.length 0 lo)).toArray:=by
 obtain⟨G,J,Z⟩:=MC lo hi Y.toArray.size;unfold slicePick;rw[G,J,Z];simp only[sliceRange_one,pick_run,ZM] <;> rfl
def zq(K:W.Frag):V->Option Int->Option Int->Hp->VK->Prop:=fun x lo hi H Q=>∃a xs,x=.ref a/\SqL K H a xs/\∀p,H p=none->Q (.ref p) (upd H p (.lst (Jp xs lo hi)))
theorem Xd:SlR X (zq X.K):=by
 intro L s U H x v A F J G sl Q I N E R O h;obtain⟨a,Y,rfl,D,q⟩:=h;cases N;obtain⟨T,r,M,B⟩:=I.list D;have Z:=r.length;refine⟨"list",_,slot_list_getitem.lookup,M.isList.typeIs,?_⟩;refine wpAny_getItem_list_slice M.isList E R O .none (by simp) ?_ (by rw[ZM] <;> omega);rw[T8,<-Z];refine⟨.ref s.heap.objs.size,_,I.laid (t':=s.toks) (o:=.lst (Jp Y J G)) (fun b S q=>ZD _ q) (ZF _) ?_,rfl,q _ (I.hok.fresh (ZF _))⟩;exact⟨ZZ (W0 Y J G) B,_,0,(r.drop (HT.sIx Y.length 0 J)).take (HT.sIx Y.length Y.length G-HT.sIx Y.length 0 J),ZW _ rfl⟩
def WM:V->Bool
 |.non=>true
 |.bl _=>true
 |.int _=>true
 |.str _=>true
 |_=>false
def eqV:V->V->Bool
 |.non,.non=>true
 |.bl a,.bl b=>a==b
 |.bl a,.int b=>(if a then 1 else 0)==b
 |.int a,.bl b=>a==(if b then 1 else 0)
 |.int a,.int b=>a==b
 |.str a,.str b=>a==b
 |_,_=>false
theorem Sd(J:RelV y u)(Y:RelV x v)(L:WM y=true)(G:WM x=true):SeqAt.EqAt A s u v (eqV y x):=by
 cases y with
 |non=>
  cases J
  cases x with
  |non=>cases Y;exact SeqAt.EqAt.same _
  |bl b=>cases Y;exact SeqAt.EqAt.none_bool b
  |int b=>obtain⟨t,rfl⟩:=Y;exact SeqAt.EqAt.none_int b t
  |str b=>obtain⟨t,rfl⟩:=Y;exact SeqAt.EqAt.none_str b t
  |_=>exact Zp (show false=true from G) Zg
 |bl a=>
  cases J
  cases x with
  |non=>cases Y;exact SeqAt.EqAt.bool_none a
  |bl b=>cases Y;exact SeqAt.EqAt.bool_bool a b
  |int b=>obtain⟨t,rfl⟩:=Y;exact SeqAt.EqAt.bool_int a b t
  |str b=>obtain⟨t,rfl⟩:=Y;exact SeqAt.EqAt.bool_str a b t
  |_=>exact Zp (show false=true from G) Zg
 |int a=>
  obtain⟨Z,rfl⟩:=J
  cases x with
  |non=>cases Y;exact SeqAt.EqAt.int_none a Z
  |bl b=>cases Y;exact SeqAt.EqAt.int_bool a Z b
  |int b=>obtain⟨t,rfl⟩:=Y;exact SeqAt.EqAt.int_int a Z b t
  |str b=>obtain⟨t,rfl⟩:=Y;exact SeqAt.EqAt.int_str a Z b t
  |_=>exact Zp (show false=true from G) Zg
 |str a=>
  obtain⟨Z,rfl⟩:=J
  cases x with
  |non=>cases Y;exact SeqAt.EqAt.str_none a Z
  |bl b=>cases Y;exact SeqAt.EqAt.str_bool a Z b
  |int b=>obtain⟨t,rfl⟩:=Y;exact SeqAt.EqAt.str_int a Z b t
  |str b=>obtain⟨t,rfl⟩:=Y;exact SeqAt.EqAt.str_str a Z b t
  |_=>exact Zp (show false=true from G) Zg
 |_=>exact Zp (show false=true from L) Zg
def eqU(x:V)(u:Value):Bool:=match u with
 |.none=>eqV .non x
 |.bool b=>eqV (.bl b) x
 |.int i _=>eqV (.int i) x
 |.str z _=>eqV (.str z) x
 |_=>false
theorem LJ(r:RelV y u)(f:WM y=true):eqU x u=eqV y x:=by
 cases y with
 |non=>cases r;rfl
 |bl b=>cases r;rfl
 |int i=>obtain⟨t,rfl⟩:=r;rfl
 |str z=>obtain⟨t,rfl⟩:=r;rfl
 |_=>exact Zp (show false=true from f) Zg
theorem WS:∀{xs:List V}{us:List Value},Vals xs us->xs.all WM=true->us.any (eqU x)=xs.any fun y=>eqV y x
 |_,_,.nil,_=>rfl
 |y::xs,u::us,.cons r t,f=>by
  rw[List.all_cons,ZX]at f;rw[List.any_cons,List.any_cons,LJ r f.1,WS t f.2]
theorem XG(Z:RelV x v)(J:WM x=true):∀{xs:List V}{us:List Value},Vals xs us->xs.all WM=true->∀u∈us,SeqAt.EqAt A s u v (eqU x u)
 |_,_,.nil,_=>fun u Y=>by cases Y
 |y::xs,u::us,.cons r t,f=>fun G Y=>by
  rw[List.all_cons,ZX]at f;rcases Zb.mp Y with rfl|Y
  .rw [LJ r f.1];exact Sd r Z f.1 J
  .exact XG Z J t f.2 G Y
def inV(x:V)(xs:List V):Bool:=xs.any fun y=>eqV y x
def rIn(K:W.Frag)(neg:Bool):R2:=fun x y H Q=>∃p xs,y=.ref p/\(SqL K H p xs\/SqT K H p xs)/\WM x=true/\xs.all WM=true/\Q (.bl (if neg then !inV x xs else inV x xs)) H
theorem Wf:OpR X (compareOp .In) (rIn X.K false):=by
 intro L s U H x y v u Q I G N h;obtain⟨p,O,rfl,Y,M,Z,q⟩:=h;cases N;rcases Y with Y|Y
 .obtain ⟨its,r,pl,hz⟩:=I.list Y
  refine SeqAt.in_listAt (eqU x) pl.isList (fun w J=>XG G M r Z w (by simpa using J)) ⟨.bl _,H,I,rfl,?_⟩;rw[show its.toArray.any (eqU x)=its.any (eqU x) by simp,WS r Z];exact q
 .obtain ⟨its,r,pl,hz⟩:=I.tuple Y
  refine SeqAt.in_tupleAt (eqU x) pl (fun w J=>XG G M r Z w (by simpa using J)) ⟨.bl _,H,I,rfl,?_⟩;rw[show its.toArray.any (eqU x)=its.any (eqU x) by simp,WS r Z];exact q
theorem Uq:OpR X (compareOp .NotIn) (rIn X.K true):=by
 intro L s U H x y v u Q I G N h;obtain⟨p,O,rfl,Y,M,Z,q⟩:=h;cases N;rcases Y with Y|Y
 .obtain ⟨its,r,pl,hz⟩:=I.list Y
  refine SeqAt.notIn_listAt (eqU x) pl.isList (fun w J=>XG G M r Z w (by simpa using J)) ⟨.bl _,H,I,rfl,?_⟩;rw[show its.toArray.any (eqU x)=its.any (eqU x) by simp,WS r Z];exact q
 .obtain ⟨its,r,pl,hz⟩:=I.tuple Y
  refine SeqAt.notIn_tupleAt (eqU x) pl (fun w J=>XG G M r Z w (by simpa using J)) ⟨.bl _,H,I,rfl,?_⟩;rw[show its.toArray.any (eqU x)=its.any (eqU x) by simp,WS r Z];exact q
theorem Yu:Jb X (.builtin "len") (fun xs H Q=>∃p ys,xs=[.ref p]/\(SqL X.K H p ys\/SqT X.K H p ys)/\Q (.int ys.length) H):=by
 intro J s U H xs L Q I r h;obtain⟨p,ys,rfl,Z,q⟩:=h;obtain⟨u,rfl,G⟩:=vals1 r;cases G;have M:=Wg;rcases Z with Z|Z
 .obtain ⟨its,r',pl,hz⟩:=I.list Z
  have Y:=r'.length;exact Calls.call_len_list pl.isList (by simp only[ZM] <;> omega) ⟨.int ys.length,H,I.tok _,⟨s.toks+1,by rw[ZM,Y]⟩,q⟩
 .obtain ⟨its,r',pl,hz⟩:=I.tuple Z
  have Y:=r'.length;exact len_tuple pl (by simp only[ZM] <;> omega) ⟨.int ys.length,H,I.tok _,⟨s.toks+1,by rw[ZM,Y]⟩,q⟩
theorem Mj:Jb X (.builtin "len") (fun xs H Q=>∃z,xs=[.str z]/\z.length<=sizeLine/\Q (.int z.length) H):=by
 intro Y s U H xs Z Q I r h;obtain⟨z,rfl,J,q⟩:=h;obtain⟨u,rfl,t,rfl⟩:=vals1 r;have G:=Wg;exact len_str (by omega) ⟨.int z.length,H,I.tok _,⟨_,rfl⟩,q⟩
theorem JN:Jb X (.type "list") (fun xs H Q=>∃p ys,xs=[.ref p]/\(SqL X.K H p ys\/SqT X.K H p ys)/\∀l,H l=none->Q (.ref l) (upd H l (.lst ys))):=by
 intro L s U H xs S Q I r h;obtain⟨p,ys,rfl,O,q⟩:=h;obtain⟨u,rfl,A⟩:=vals1 r;cases A;have T:∀(Y:List Value),Vals ys Y->ys.length<=sizeLine->∀(Z:Heap)(G:Nat),(∀b F,s.heap.get? b=some F->Z.get? b=some F)->
   Z.get? s.heap.objs.size=some {cls:=.type "list",dict:=none,data:=.seq Y.toArray G,slots:= #[]}->EP X L U Q (.ref s.heap.objs.size) {s with heap:=Z}:=fun Y J N Z G M e=>
  ⟨.ref s.heap.objs.size,_,I.laid (t':=s.toks) M (ZF _) (show Vf X.prog X.w _ Z _ (.lst ys)from⟨N,Y,G,J,e⟩),rfl,q _ (I.hok.fresh (ZF _))⟩
 rcases O with O|O
 .obtain ⟨Y,J,pl,N⟩:=I.list O
  have R:=J.length;obtain⟨o,B,E,n,D⟩:=pl.isList;exact call_list_seq p (.inl rfl) B E D (fun Z G M e=>T Y J N Z G M e) (by simp only[ZM] <;> omega)
 .obtain ⟨Y,J,pl,N⟩:=I.tuple O
  have R:=J.length;obtain⟨o,B,E,n,D⟩:=pl;exact call_list_seq p (.inr rfl) B E D (fun Z G M e=>T Y J N Z G M e) (by simp only[ZM] <;> omega)
theorem Vm:Jb X (.type "tuple") (fun xs H Q=>∃p ys,xs=[.ref p]/\((SqL X.K H p ys/\∀l,H l=none->Q (.ref l) (upd H l (.tup ys)))\/(SqT X.K H p ys/\Q (.ref p) H))):=by
 intro Y s U H xs R Q I r h;obtain⟨p,ys,rfl,h⟩:=h;obtain⟨u,rfl,M⟩:=vals1 r;cases M;rcases h with⟨J,q⟩|⟨J,q⟩
 .obtain ⟨its,r',pl,hz⟩:=I.list J
  have G:=r'.length;refine call_tuple_list pl.isList (fun Z N=>?_) (by simp only[ZM] <;> omega);have L:Inv X Y U H {s with heap:=Z}:=I.kept (t':=s.toks) N
  have O:Inv X Y U (upd H Z.objs.size (.tup ys)) {s with heap:=Z.push {cls:=.type "tuple",data:=.seq its.toArray}}:=
   L.laid (t':=s.toks) (fun b o e=>ZD _ e) (ZF _) (show Vf X.prog X.w _ _ _ (.tup ys)from⟨hz,its,r',Wt.new _ _⟩)
  exact⟨.ref Z.objs.size,_,O,rfl,q _ (L.hok.fresh (ZF _))⟩
 .obtain ⟨its,r',pl,hz⟩:=I.tuple J
  exact call_tuple_same pl ⟨.ref p,H,I,rfl,q⟩
def tyV(K:W.Frag)(T:String)(x:V)(H:Hp):Prop:=match x with
 |.str _=>T="str"
 |.int _=>T="int"
 |.ref p=>(T="list" /\∃xs,SqL K H p xs)\/(T="tuple" /\∃o,K.lookup p=some o/\o.cls=.type "tuple" /\o.dict=none) \/
   (T="dict" /\((∃kvs,H p=some (.dK kvs)) \/ ∃kvs,H p=some (.dT kvs)))\/(T="set" /\∃S n,H p=some (.set S n))
 |_=>False
theorem QW(I:Inv X pins U H s)(r:RelV x v)(ty:tyV X.K T x H):
  s.TypeIs v T/\∀a,v=.ref a->∃M,s.heap.get? a=some M/\M.dict=none:=by
 cases x with
 |str z=>
  obtain⟨t,rfl⟩:=r;cases(show T="str" from ty);exact⟨typeIs_str s z t,fun _ e=>nomatch e⟩
 |int i=>
  obtain⟨t,rfl⟩:=r;cases(show T="int" from ty);exact⟨typeIs_int s i t,fun _ e=>nomatch e⟩
 |ref p=>
  cases r;rcases ty with⟨rfl,R,N⟩|⟨rfl,o,Y,O,G⟩|⟨rfl,Y⟩|⟨rfl,S,n,Y⟩
  .obtain ⟨its,_,pl,_⟩:=I.list N
   refine⟨pl.isList.typeIs,fun a e=>?_⟩;cases e;obtain⟨o,n,e,c,G,_⟩:=pl;exact⟨o,e,G⟩
  .refine ⟨⟨o,I.kIn p o Y,O⟩,fun a e=>?_⟩
   cases e;exact⟨o,I.kIn _ o Y,G⟩
  .have z:∃o,s.heap.get? p=some o/\o.ExactDict:=by
    rcases Y with⟨J,Y⟩|⟨J,Y⟩
    .obtain ⟨_,_,_,_,o,_,_,e,Z,_⟩:=I.hok p _ Y
     exact⟨o,e,Z⟩
    .obtain ⟨_,_,_,_,o,_,_,e,Z,_⟩:=I.hok p _ Y
     exact⟨o,e,Z⟩
   obtain⟨o,e,Z⟩:=z;refine⟨⟨o,e,Z.1⟩,fun a L=>?_⟩;cases L;exact⟨o,e,Z.2.1⟩
  .obtain ⟨o,_,_,_,e,Z,_⟩:=I.hok p _ Y
   refine⟨⟨o,e,Z.1⟩,fun a L=>?_⟩;cases L;exact⟨o,e,Z.2.1⟩
 |_=>exact False.elim ty
def tBM(K:W.Frag)(T:String)(r:V->List V->Hp->VK->Prop)(to:TE)(t:TA):TE:=fun U H Q=>to U H fun x H1=>tyV K T x H1/\t U H1 fun xs H2=>r x xs H2 Q
variable{T id:String}
theorem UR(P:PlainAttrs T)(slot:Slot T name id)(M:typeOf (.builtin id)=pure (.type "method_descriptor"))(z:MtR X id r)(y:PE X o to)(q:PA X (e::es) t)(G:attributeBase o name X.env (eval o X.env)=eval o X.env:=by rfl)(L:((backTo cpos (starEach (e::es) X.env)).all (fun x=>!x.1) && (backToKw cpos (keywordEach [] X.env)).all (fun x=>x.1.isSome)
   && decide ((e::es).length+([]:List Keyword).length+(if([]:List Keyword).isEmpty then 0 else 1)<30))=true:=by rfl)(J:(apos.endLine==cpos.line)=true:=by rfl)(j:starEach (e::es) X.env=(false,eval e X.env)::starEach es X.env:=by rfl)(Z:(backTo cpos (starEach es X.env)).any (·.1)=false:=by rfl):
  PE X (.Call (.Attribute o name apos) (e::es) [] cpos) (tBM X.K T r to t):=by
 intro Y s U H Q I h;refine wpAny_Call_method_late G L J rfl (thn (y Y s U H _ I h) fun v F ⟨x,c,R,N,ty,C⟩=>?_);obtain⟨g,m⟩:=QW R N ty;refine⟨T,id,P,slot,M,g,m,?_⟩;have O:=q cpos Y F U c _ R C;rw[j]at O |-;refine Calls.callWith_builtin (by show(false || (backTo cpos (starEach es X.env)).any (·.1))=false;rw[Z] <;> rfl) (Calls.evalArgs_plain ?_);exact thn O fun D E ⟨B,p,k,A,S⟩=>z Y E U p x B v D Q k N A S
end
def MtM(X:Cx)(id:String)(r:V->List V->Hp->VK->Prop):Prop:=
 ∀(pins:List (Addr×Obj))(s:Shared)(U:St)(H:Hp)(x:V)(xs:List V)(v:Value)(us:List Value)(Q:VK),Inv X pins U H s->RelV x v->Vals xs us->r x xs H Q->
  wpAny (model X.prog X.w) X.A (call (.builtin id) (v::us)) (EP X pins U Q) X.xe s
theorem Vals.one:∀{x:V}{us:List Value},Vals [x] us->∃u,us=[u]/\RelV x u
 |_,_,.cons r .nil=>⟨_,rfl,r⟩
section
theorem Inv.lset{Y its':List Value}(I:Inv X pins U H s)(N:H l=some (.lst xs))(e:s.heap.get? l=some {cls:=.type "list",data:=.seq Y.toArray n})(L:f Y.toArray=its'.toArray)(J:Vals ys its')(Z:ys.length<=sizeLine):
  Inv X pins U (upd H l (.lst ys)) {s with heap:=s.heap.update l (Obj.mapSeq f),toks:=t'}:=by
 have q:=PySem.IsL.update e f;rw[L]at q;refine I.write (x:=l) (e:=l) (by rw[N];exact trivial) (.inl rfl) (fun O u M G=>(Heap.get?_update_other s.heap (Obj.mapSeq f) (Zq M)).trans G) ⟨_,q⟩ ?_;exact⟨Z,its',_,J,q⟩
theorem Inv.lnew(I:Inv X pins U H s)(Z:Vals ys its)(Y:ys.length<=sizeLine):
  Inv X pins U (upd H s.heap.objs.size (.lst ys)) {s with heap:=s.heap.push {cls:=.type "list",data:=.seq its.toArray},toks:=t'}:=
 I.laid (fun _ _ q=>ZD _ q) (ZF _) ⟨Y,its,0,Z,ZW _ rfl⟩
theorem Inv.fresh(I:Inv X pins U H s):H s.heap.objs.size=none:=I.hok.fresh (ZF _)
theorem Inv.lstM(I:Inv X pins U H s)(Z:H l=some (.lst xs)):xs.length<=sizeLine/\∃(Y:List Value)(n:Nat),Vals xs Y/\xs.length=Y.length/\s.heap.get? l=some {cls:=.type "list",data:=.seq Y.toArray n}:=by
 obtain⟨z,Y,n,r,e⟩:=I.hok l _ Z;exact⟨z,Y,n,r,r.length,e⟩
end
section
def L1:V->List V->Hp->VK->Prop:=fun x vs H Q=>∃l xs y,x=.ref l/\vs=[y]/\H l=some (.lst xs)/\xs.length<sizeLine/\Q .non (upd H l (.lst (xs++[y])))
theorem JK:MtM X "list.append" L1:=by
 intro Z s U H x R v T Q I G L h;obtain⟨l,O,y,rfl,rfl,J,N,q⟩:=h;cases G;obtain⟨u,rfl,M⟩:=L.one;obtain⟨z,Y,n,r,B,e⟩:=I.lstM J;refine call_meets F.slot_list_append ⟨_,e,rfl⟩ F.entry_list_append (F.args_list_append_2 _ _) (PySem.list_append l Y.toArray n u (by rw[ZM];omega)) ⟨e,?_⟩;refine⟨.non,_,I.lset (its':=Y++[u]) J e (by simp) (r.append (.cons M .nil)) ?_,rfl,q⟩;rw[ZJ,List.length_singleton];exact CH N
def zx:R2:=fun x y H Q=>∃l b xs zs,x=.ref l/\y=.ref b/\H l=some (.lst xs)/\H b=some (.lst zs)/\xs.length+zs.length<=sizeLine/\∀p,H p=none->Q (.ref p) (upd H p (.lst (xs++ zs)))
theorem Ur:OpR X (binaryOp .Add) zx:=by
 intro J s U H x y v u Q I L G h;obtain⟨l,b,F,D,rfl,rfl,O,R,S,q⟩:=h;cases L;cases G;obtain⟨z,Z,n,r,C,e⟩:=I.lstM O;obtain⟨E,Y,A,M,N,B⟩:=I.lstM R;refine PySem.P.add_list e B ?_ (by rw[ZM,ZM];omega);have T:Z.toArray++ Y.toArray=(Z++ Y).toArray:=by simp
 rw[T];exact⟨.ref _,_,I.lnew (t':=s.toks) (r.append M) (by rw[ZJ];omega),rfl,q _ I.fresh⟩
end
section
set_option maxRecDepth 100000 in
end
section
variable{κ:Type}[DecidableEq κ]
def Y8(kvs:List (κ×V))(k:κ):Option V:=(kvs.find? fun kv=>decide (kv.1=k)).map (·.2)
def putK(kvs:List (κ×V))(k:κ)(v:V):List (κ×V):=
 if(kvs.any fun kv=>decide (kv.1=k))=true then kvs.map (fun kv=>if kv.1=k then(kv.1,v)else kv)else kvs++[(k,v)]
theorem JP{p:κ×V}(e:p.1=k):Y8 (p::r) k=some p.2:=by simp[Y8,List.find?_cons,e]
theorem JQ{p:κ×V}(e:¬p.1=k):Y8 (p::r) k=Y8 r k:=by simp[Y8,List.find?_cons,e]
theorem U5(k:κ):∀kvs:List (κ×V),(kvs.any fun Y=>decide (Y.1=k))=(Y8 kvs k).isSome
 |[]=>rfl
 |p::r=>by
  rw[List.any_cons]
  by_cases e:p.1=k
  .simp only[JP e,decide_eq_true e,Bool.true_or,Option.isSome_some]
  .rw [JQ e,Zw e,Bool.false_or];exact U5 k r
theorem Mq(k j:κ)(y:V):∀kvs:List (κ×V),Y8 (kvs.map fun Y=>if Y.1=k then(Y.1,y)else Y) j=(Y8 kvs j).map fun x=>if j=k then y else x
 |[]=>rfl
 |p::r=>by
  have ih:=Mq k j y r;rw[ZT]
  by_cases h:p.1=k
  .rw [Zn h]
   by_cases e:p.1=j
   .rw [JP (p:=(p.1,y)) e,JP e,Option.map_some,Zn (e.symm.trans h)]
   .rw [JQ (p:=(p.1,y)) e,JQ e,ih]
  .rw [Zo h]
   by_cases e:p.1=j
   .rw [JP (p:=p) e,JP e,Option.map_some,Zo (fun z=>h (e.trans z))]
   .rw [JQ (p:=p) e,JQ e,ih]
theorem RH(k j:κ)(y:V):∀kvs:List (κ×V),Y8 kvs k=none->Y8 (kvs++[(k,y)]) j=if j=k then some y else Y8 kvs j
 |[],_=>by
  by_cases e:k=j
  .rw [Zn e.symm];exact JP (p:=(k,y)) e
  .rw [Zo (fun z=>e z.symm)];exact JQ (p:=(k,y)) e
 |p::r,hn=>by
  rw[List.cons_append];have Y:¬p.1=k:=fun z=>by rw[JP z]at hn;cases hn
  rw[JQ Y]at hn;have ih:=RH k j y r hn
  by_cases e:p.1=j
  .rw [JP e,JP e,Zo (fun z=>Y (e.trans z))]
  .rw [JQ e,JQ e,ih]
theorem Jg(kvs:List (κ×V))(k j:κ)(y:V):Y8 (putK kvs k y) j=if j=k then some y else Y8 kvs j:=by
 unfold putK
 by_cases a:(kvs.any fun Y=>decide (Y.1=k))=true
 .rw [Zn a,Mq]
  rw[U5]at a
  by_cases e:j=k
  .obtain ⟨x,hx⟩:=Option.isSome_iff_exists.mp a
   rw[Zn e,e,hx,Option.map_some,Zn rfl]
  .rw [Zo e]
   cases Y8 kvs j with
   |none=>rfl
   |some x=>rw[Option.map_some,Zo e]
 .rw [Zo a]
  refine RH k j y kvs ?_;rw[U5]at a
  cases q:Y8 kvs k with
  |none=>rfl
  |some x=>rw[q]at a;exact(a rfl).elim
theorem Vp(kvs:List (κ×V))(k:κ)(v:V):(putK kvs k v).length<=kvs.length+1:=by
 unfold putK
 split
 .rw [ZA];exact KH
 .rw [ZJ,Zd,List.length_nil];omega
theorem Ua{kvs:List (κ×V)}(v:V)(h:Y8 kvs k=none):putK kvs k v=kvs++[(k,v)]:=by
 unfold putK;rw[U5,h];exact Zo (by decide)
theorem U3.isSome_eq(r:U3 o u):o.isSome=u.isSome:=by
 cases o with
 |none=>cases u with
  |none=>rfl
  |some _=>exact(show False from r).elim
 |some _=>cases u with
  |none=>exact(show False from r).elim
  |some _=>rfl
theorem U3.getD(r:U3 o u)(Y:RelV d d'):RelV (o.getD d) (u.getD d'):=by
 cases o with
 |none=>cases u with
  |none=>exact Y
  |some _=>exact(show False from r).elim
 |some _=>cases u with
  |none=>exact(show False from r).elim
  |some _=>exact r
theorem KV.val(r:KV kvs vs)(k:κ):U3 (Y8 kvs k) (valueAt vs k):=by
 unfold KV at r
 induction r with
 |nil=>exact True.intro
 | @cons p q G Y h t ih=>
  obtain⟨Z,J⟩:=h
  by_cases e:p.1=k
  .have e':q.1=k:=Z.symm.trans e
   have b:valueAt (q::Y) k=some q.2:=by simp[valueAt,List.find?_cons,e']
   rw[JP e,b];exact J
  .have e':¬q.1=k:=fun z=>e (Z.trans z)
   have b:valueAt (q::Y) k=valueAt Y k:=by simp[valueAt,List.find?_cons,e']
   rw[JQ e,b];exact ih
theorem KV.any(r:KV kvs vs)(k:κ):(kvs.any fun Y=>decide (Y.1=k))=vs.any fun Y=>decide (Y.1=k):=by
 unfold KV at r
 induction r with
 |nil=>rfl
 |cons h t ih=>rw[List.any_cons,List.any_cons,ih,h.1]
theorem KV.repl(r:KV kvs vs)(k:κ)(J:RelV y u):
  KV (kvs.map fun Y=>if Y.1=k then(Y.1,y)else Y) (vs.map fun Y=>if Y.1=k then(Y.1,u)else Y):=by
 unfold KV at r |-
 induction r with
 |nil=>exact .nil
 | @cons p q M L h t ih=>
  rw[ZT,ZT];refine .cons ?_ ih;obtain⟨Z,G⟩:=h
  by_cases e:p.1=k
  .rw [Zn e,Zn (Z.symm.trans e)];exact⟨Z,J⟩
  .rw [Zo e,Zo (fun z=>e (Z.trans z))];exact⟨Z,G⟩
theorem KV.put(r:KV kvs vs)(k:κ)(Y:RelV y u):KV (putK kvs k y) (stored vs k u):=by
 unfold putK stored;rw[r.any k]
 by_cases e:(vs.any fun Z=>decide (Z.1=k))=true
 .rw [Zn e,Zn e];exact r.repl k Y
 .rw [Zo e,Zo e];exact Paired.snoc r ⟨rfl,Y⟩
theorem KV.keys{kvs:List (κ×V)}(r:KV kvs vs):kvs.map (·.1)=vs.map (·.1):=by
 unfold KV at r
 induction r with
 |nil=>rfl
 |cons h t ih=>rw[ZT,ZT,ih,h.1]
theorem KV.length(r:KV kvs vs):kvs.length=vs.length:=Paired.length r
end
theorem Xs(r:RelV (kV k) u):(VC P w).is k u=true:=by
 cases k with
 |inl i=>obtain⟨t,e⟩:=(show ∃t,u=Value.int i t from r);subst e;exact NE P w i t
 |inr x=>obtain⟨t,e⟩:=(show ∃t,u=Value.str x t from r);subst e;exact ND P w x t
theorem RY:∀{ks:List Key}{us:List Value},Vals (ks.map kV) us->ItemsAre (VC P w) ks us
 |[],_,r=>by rw[List.map_nil]at r;cases r;exact .nil
 |k::ks,_,r=>by
  rw[ZT]at r
  cases r with
  |cons h t=>exact .cons (Xs h) (RY t)
abbrev KT(H:Hp):List (List Key×V)->List (List Key×Addr×Value)->Prop:=Paired fun p q=>p.1=q.1/\H q.2.1=some (.tup (p.1.map kV))/\RelV p.2 q.2.2
theorem KT.val(r:KT H kvs xs)(k:List Key):U3 (Y8 kvs k) ((atKey xs k).map (·.2)):=by
 induction r with
 |nil=>exact True.intro
 | @cons p q G Y h t ih=>
  obtain⟨Z,_,J⟩:=h
  by_cases e:p.1=k
  .have e':q.1=k:=Z.symm.trans e
   have b:atKey (q::Y) k=some q.2:=by simp[atKey,List.find?_cons,e']
   rw[JP e,b];exact J
  .have e':¬q.1=k:=fun z=>e (Z.trans z)
   have b:atKey (q::Y) k=atKey Y k:=by simp[atKey,List.find?_cons,e']
   rw[JQ e,b];exact ih
theorem KT.repl(r:KT H kvs xs)(k:List Key)(G:RelV y u):
  KT H (kvs.map fun Z=>if Z.1=k then(Z.1,y)else Z) (xs.map (putAt k u)):=by
 induction r with
 |nil=>exact .nil
 | @cons p q N M h t ih=>
  rw[ZT,ZT];refine .cons ?_ ih;obtain⟨Y,J,L⟩:=h;unfold putAt
  by_cases e:p.1=k
  .rw [Zn e,Zn (Y.symm.trans e)];exact⟨Y,J,G⟩
  .rw [Zo e,Zo (fun z=>e (Y.trans z))];exact⟨Y,J,L⟩
theorem KT.put(r:KT H kvs xs)(k:List Key)(J:H b=some (.tup (k.map kV)))(Y:RelV y u):
  KT H (putK kvs k y) (storedH xs k b u):=by
 have e:(kvs.any fun Z=>decide (Z.1=k))=(atKey xs k).isSome:=by
  rw[U5,(r.val k).isSome_eq,Option.isSome_map]
 unfold putK storedH;rw[e]
 by_cases q:(atKey xs k).isSome=true
 .rw [Zn q,Zn q];exact r.repl k Y
 .rw [Zo q,Zo q];exact Paired.snoc r ⟨rfl,J,Y⟩
theorem KT.keeps(r:KT H kvs xs)(Y:∀b ys,H b=some (.tup ys)->H' b=some (.tup ys)):KT H' kvs xs:=
 Paired.mapP r fun _ _ z=>⟨z.1,Y _ _ z.2.1,z.2.2⟩
section
theorem PR(Y:HOk P w H h)(e:Rd H a u):Vf P w H h a u:=e.ok Y
theorem U2(Y:HOk P w H h)(e:Rd H a (.dK kvs)):kvs.length<=sizeLine/\(a==sysModules)=false/\∃vs,KV kvs vs/\h.DictOf (VC P w) a vs:=
 show Vf P w H h a (.dK kvs)from PR Y e
theorem LO(Y:HOk P w H h)(e:H a=some (.dK kvs)):kvs.length<=sizeLine/\(a==sysModules)=false/\∃vs,KV kvs vs/\h.DictOf (VC P w) a vs:=U2 Y (.inl e)
theorem Wj(Z:HOk P w H h)(e:H a=some (.tup (ks.map kV))):(tupleKind (VC P w)).is h ks a:=by
 obtain⟨_,Y,r,o,L,_,G,n,J⟩:=(show Vf P w H h a (.tup (ks.map kV))from Z a _ e);exact⟨o,Y.toArray,n,L,G,J,by simpa using RY r⟩
theorem Tw(J:HOk P w H h)(e:Rd H a (.dT kvs)):kvs.length<=sizeLine/\(a==sysModules)=false/\
  ∃xs,KT H kvs xs/\h.DictOfH (tupleKind (VC P w)) a xs:=by
 obtain⟨z,y,xs,r,o,T,B,R,O,N,M,L⟩:=(show Vf P w H h a (.dT kvs)from PR J e);refine⟨z,y,xs,r,o,T,B,R,O,N,M,fun x Y=>?_,L⟩
 have Z:∀{l:List (List Key×V)}{m:List (List Key×Addr×Value)},KT H l m->∀x∈m,(tupleKind (VC P w)).is h x.1 x.2.1:=by
  intro l m q
  induction q with
  |nil=>intro x Y;exact nomatch Y
  | @cons p q E D G t ih=>
   intro x Y;rcases Zb.mp Y with e|Y
   .subst e
    exact Wj J (by rw[<-G.1];exact G.2.1)
   .exact ih x Y
 exact Z r x Y
theorem zV(Y:HOk P w H h)(e:H a=some (.dT kvs)):kvs.length<=sizeLine/\(a==sysModules)=false/\
  ∃xs,KT H kvs xs/\h.DictOfH (tupleKind (VC P w)) a xs:=Tw Y (.inl e)
end
def VP(H:Hp)(a:Addr)(y:V)(r:Option V):Prop:=
 (∃kvs k,Rd H a (.dK kvs)/\y=kV k/\r=Y8 kvs k) \/ ∃kvs k b,Rd H a (.dT kvs)/\y=.ref b/\H b=some (.tup (k.map kV))/\r=Y8 kvs k
def Ja(H:Hp)(a:Addr)(y v:V)(H':Hp):Prop:=
 (∃kvs k,H a=some (.dK kvs)/\y=kV k/\kvs.length<sizeLine/\H'=upd H a (.dK (putK kvs k v))) \/
 ∃kvs k b,H a=some (.dT kvs)/\y=.ref b/\H b=some (.tup (k.map kV))/\kvs.length<sizeLine/\H'=upd H a (.dT (putK kvs k v))
theorem VP.k{k:Key}(e:H a=some (.dK kvs)):VP H a (kV k) (Y8 kvs k):=.inl ⟨kvs,k,.inl e,rfl,rfl⟩
theorem VP.t{k:List Key}(e:H a=some (.dT kvs))(Y:H b=some (.tup (k.map kV))):VP H a (.ref b) (Y8 kvs k):=.inr ⟨kvs,k,b,.inl e,rfl,Y,rfl⟩
theorem Ja.k{k:Key}(e:H a=some (.dK kvs))(Y:kvs.length<sizeLine):Ja H a (kV k) v (upd H a (.dK (putK kvs k v))):=.inl ⟨kvs,k,e,rfl,Y,rfl⟩
theorem Ja.t{k:List Key}(e:H a=some (.dT kvs))(Z:H b=some (.tup (k.map kV)))(Y:kvs.length<sizeLine):
  Ja H a (.ref b) v (upd H a (.dT (putK kvs k v))):=.inr ⟨kvs,k,b,e,rfl,Z,Y,rfl⟩
section
theorem Inv.big(I:Inv X pins U H s):sysModules<s.heap.objs.size:=by
 have h:mainGlobals<s.heap.objs.size:=(I.mod.glob.keeps I.bk).lt;exact Nat.lt_trans (by decide) h
theorem FM(F:A.units+1<cLine)(I:Inv X pins U H s)(g:VP H a y (some v))(T:RelV y u)(h:∀J R,Inv X pins U H R->RelV v J->Q J R):
  wpAny (model X.prog X.w) A (getItem (.ref a) u) Q E s:=by
 rcases g with⟨G,k,e,N,l⟩|⟨G,k,b,e,N,P,l⟩
 .subst N
  obtain⟨z,C,D,Z,O⟩:=U2 I.hok e;obtain⟨J,L,Y⟩:=U3.some_of (v:=v) (o:=valueAt D k) (by rw[l];exact Z.val k);exact wpAny_getItem_of (Xs T) O.mapOf L (h J _ (I.tok _) Y)
 .subst N
  cases(show u=Value.ref b from T);obtain⟨z,C,B,Z,O⟩:=Tw I.hok e;obtain⟨J,L,Y⟩:=U3.some_of (v:=v) (o:=(atKey B k).map (·.2)) (by rw[l];exact Z.val k);obtain⟨p,S,M⟩:=Zh.mp L;refine wpAny_getItem_heap (tupleKind_room_in1 F) (Wj I.hok P) O S ?_;rw[M];exact h J _ (I.tok _) Y
theorem ye(O:A.units+1<cLine)(I:Inv X pins U H s)(g:VP H a y o)(N:RelV y u)(h:∀M,Inv X pins U H M->Q (.bool o.isSome) M):
  wpAny (model X.prog X.w) A (compareOp .In u (.ref a)) Q E s:=by
 rcases g with⟨Z,k,e,G,l⟩|⟨Z,k,b,e,G,R,l⟩
 .subst G
  obtain⟨z,J,B,Y,L⟩:=U2 I.hok e;refine wpAny_in_of (Xs N) J L.mapOf ?_;rw[<-(Y.val k).isSome_eq,<-l];exact h _ (I.tok _)
 .subst G
  cases(show u=Value.ref b from N);obtain⟨z,J,T,Y,L⟩:=Tw I.hok e;refine wpAny_in_heap (tupleKind_room_in1 O) (Wj I.hok R) J L ?_;have q:=(Y.val k).isSome_eq;rw[Option.isSome_map]at q;rw[<-q,<-l];exact h _ (I.tok _)
theorem O6(O:A.units+1<cLine)(I:Inv X pins U H s)(g:VP H a y o)(N:RelV y u)(h:∀M,Inv X pins U H M->Q (.bool (!o.isSome)) M):
  wpAny (model X.prog X.w) A (compareOp .NotIn u (.ref a)) Q E s:=by
 rcases g with⟨Z,k,e,G,l⟩|⟨Z,k,b,e,G,R,l⟩
 .subst G
  obtain⟨z,J,B,Y,L⟩:=U2 I.hok e;refine wpAny_notIn_of (Xs N) J L.mapOf ?_;rw[<-(Y.val k).isSome_eq,<-l];exact h _ (I.tok _)
 .subst G
  cases(show u=Value.ref b from N);obtain⟨z,J,T,Y,L⟩:=Tw I.hok e;refine wpAny_notIn_heap (tupleKind_room_in1 O) (Wj I.hok R) J L ?_;have q:=(Y.val k).isSome_eq;rw[Option.isSome_map]at q;rw[<-q,<-l];exact h _ (I.tok _)
theorem Mg(I:Inv X pins U H s)(Z:Mut (H a))(J:Heap.SameBut a s.heap h')(he:∃q,h'.get? a=some q)(Y:Vf X.prog X.w (upd H a ob) h' a ob):
  Inv X pins U (upd H a ob) {s with heap:=h',toks:=t'}:=
 I.write (x:=a) (e:=a) Z (.inl rfl) (fun b q G z=>(J.2 b G).trans z) he Y
theorem Tx(z:kvs.length<=sizeLine)(Z:(a==sysModules)=false)(Y:KV kvs vs)(J:h'.DictOf (VC P w) a vs):
  Vf P w H' h' a (.dK kvs):=⟨z,Z,vs,Y,J⟩
theorem FK(p:A.units+1<cLine)(I:Inv X pins U H s)(g:Ja H a y v H')(F:RelV y u)(S:RelV v r)(h:∀D,Inv X pins U H' D->Q () D):
  wpAny (model X.prog X.w) A (setItem (.ref a) u r) Q E s:=by
 rcases g with⟨Z,k,e,R,l,T⟩|⟨Z,k,b,e,R,j,l,T⟩
 .subst R T
  obtain⟨z,O,m,Y,B⟩:=LO I.hok e;have L:m.length<=sizeLine:=by rw[<-Y.length];exact z
  have N:(putK Z k v).length<=sizeLine:=by have:=Vp Z k v;exact Px l this
  refine wpAny_setItem_pairs (hsz:=L) (Xs F) B fun C J M=>h _ ?_;have d:∃q,C.get? a=some q:=let⟨q,_,_,G,_⟩:=J;⟨q,G⟩
  exact Mg I (by rw[e];exact True.intro) M d (Tx N O (Y.put k S) J)
 .subst R T
  cases(show u=Value.ref b from F);obtain⟨z,O,t,Y,B⟩:=zV I.hok e;have L:t.length<=sizeLine:=by rw[<-Paired.length Y];exact z
  have N:(putK Z k v).length<=sizeLine:=by have:=Vp Z k v;exact Px l this
  refine wpAny_setItem_heap (hsz:=L) (tupleKind_room_in1 p) (Wj I.hok j) B fun C J M=>h _ ?_;obtain⟨q,n,x,G,i,o,w,_,f⟩:=J;refine Mg I (by rw[e];exact True.intro) M ⟨q,G⟩ ⟨N,O,_,(Y.put k j S).keeps fun c ys P=>?_,q,n,x,G,i,o,w,f⟩;rw[Ya (Vv P e (fun z=>nomatch z))];exact P
end
section
theorem zW(I:Inv X pins U H s)(e:Rd H a (.dK kvs))(h:∀t Z,Inv X pins U H Z->Q (.int kvs.length t) Z):wpAny (model X.prog X.w) A (call (.builtin "len") [.ref a]) Q E s:=by
 obtain⟨z,J,L,Y,G⟩:=U2 I.hok e;refine call_len_dict J G (by rw[<-Y.length];rw[sizeLine_eq]at z;omega) ?_;rw[<-Y.length];exact h _ _ (I.tok _)
end
def Sj(i:Expr):Prop:=∀ov iv,subscripted i false ov iv=operate [ov,iv] (getItem ov iv)
theorem DY{T R:String}(D:typeLookup (.type T) "__getitem__"=pure (some (.builtin R)))(B:Sj slice)(h:wpAny (model prog w) A (eval value env) (fun o G=>wpAny (model prog w) A (eval slice env) (fun i Y=>Y.TypeIs o T/\wpAny (model prog w) A (getItem o i) Q E Y) E G) E s):
  wpAny (model prog w) A (eval (.Subscript value slice pos) env) Q E s:=by
 refine Subscript_ (Zl h (fun o G N=>Zl N (fun i Y Z=>?_) fun _ _ x=>x) fun _ _ x=>x);obtain⟨O,Z⟩:=Z;unfold subscriptTail;refine Zj ?_;rw[getitemInPython_of_ne O.not_modules];refine Zj (wpAny_specialOf O D ?_)
 have L:wpAny (model prog w) A (subscripted slice false o i) (fun r J=>wpAny (model prog w) A (letTemporaryGo value o r >>=fun _=>pure r) Q E J) E Y:=by
  rw[B o i];exact wpAny_operating (Zl Z (fun r J M=>Zj (wpAny_letTemporaryGo (Zk M))) fun _ _ x=>x)
 first
  |exact Zk (Zj L)
  |exact Zj (Zk (Zj L))
  |exact Zj L
theorem NV(I:Inv X pins U H s)(g:VP H a y o):s.TypeIs (.ref a) "dict":=by
 rcases g with⟨Y,k,e,_,_⟩|⟨Y,k,b,e,_,_,_⟩
 .obtain ⟨_,_,vs,_,dd⟩:=U2 I.hok e
  exact dd.typeIs
 .obtain ⟨_,_,xs,_,dd⟩:=Tw I.hok e
  exact dd.typeIs
def PN(td ty:TE):TE:=fun U H Q=>td U H fun x H1=>ty U H1 fun y H2=>Jr x fun a=>∃v,VP H2 a y (some v)/\Q v H2
def zi(ty td:TE):TE:=fun U H Q=>ty U H fun y H1=>td U H1 fun x H2=>Jr x fun a=>∃o,VP H2 a y o/\Q (.bl o.isSome) H2
def Lg(ty td:TE):TE:=fun U H Q=>ty U H fun y H1=>td U H1 fun x H2=>Jr x fun a=>∃o,VP H2 a y o/\Q (.bl (!o.isSome)) H2
def S5(td ty tv:TE):TS:=fun D U H=>tv U H fun v H1=>td U H1 fun x H2=>ty U H2 fun y H3=>Jr x fun a=>∃H4,Ja H3 a y v H4/\D.nx U H4
section
theorem Yz(R:X.A.units+1<cLine)(B:PE X o td)(hi:PE X i ty)(T:Sj i):PE X (.Subscript o i pos) (PN td ty):=by
 intro Y s U H Q I h;refine DY PySem.F.slot_dict_getitem.lookup T (thn (B Y s U H _ I h) fun u L ⟨x,S,F,N,O⟩=>thn (hi Y L U S _ F O) fun z j ⟨y,A,G,M,Z⟩=>?_);replace Z:=Jr.old Z;obtain⟨a,D,v,g,Z⟩:=Z;subst D;obtain rfl:u=Value.ref a:=N;exact⟨NV G g,FM R G g M fun C P E J=>⟨v,A,E,J,Z⟩⟩
theorem XC(O:X.A.units+1<cLine)(hi:PE X i ty)(R:PE X o td):PC X .In i o (zi ty td):=by
 intro Y s U H Q I h;refine thn (hi Y s U H _ I h) fun P J ⟨y,A,E,G,M⟩=>thn (R Y J U A _ E M) fun u C ⟨x,F,D,L,Z⟩=>?_;replace Z:=Jr.old Z;obtain⟨a,T,N,g,Z⟩:=Z;subst T;obtain rfl:u=Value.ref a:=L;exact ye O D g G fun S B=>⟨.bl N.isSome,F,B,rfl,Z⟩
theorem Uc(O:X.A.units+1<cLine)(hi:PE X i ty)(R:PE X o td):PC X .NotIn i o (Lg ty td):=by
 intro Y s U H Q I h;refine thn (hi Y s U H _ I h) fun P J ⟨y,A,E,G,M⟩=>thn (R Y J U A _ E M) fun u C ⟨x,F,D,L,Z⟩=>?_;replace Z:=Jr.old Z;obtain⟨a,T,N,g,Z⟩:=Z;subst T;obtain rfl:u=Value.ref a:=L;exact O6 O D g G fun S B=>⟨.bl (!N.isSome),F,B,rfl,Z⟩
theorem VW(B:X.A.units+1<cLine)(F:PE X o td)(hi:PE X i ty)(T:PE X value tv)(E:swapsWith value (some (.Subscript o i pos')) pos.line X.env=pure false):
  PS X (.Assign [.Subscript o i pos'] value pos) (S5 td ty tv):=by
 intro Y s U H D I h;refine wpAny_Assign_Subscript (thn (T Y s U H _ I h) fun r G ⟨v,q,Q,N,R⟩=>thn (F Y G U q _ Q R) fun u J ⟨x,z,P,M,O⟩=>thn (hi Y J U z _ P O) fun k m ⟨y,p,C,L,Z⟩=>?_) E;replace Z:=Jr.old Z;obtain⟨a,A,j,g,Z⟩:=Z;subst A;obtain rfl:u=Value.ref a:=M;exact FK B C g L N fun t S=>⟨U,j,S,Z⟩
end
theorem NU(h:Heap)(Y:sysModules<h.objs.size):Vf P w H (h.push {cls:=.type "dict",data:=.dict #[]}) h.objs.size (.dK []):=
 ⟨Za _,beq_eq_false_iff_ne.mpr (Zq (Zc Y)),[],.nil,Heap.DictOf.new h⟩
theorem LK(h:Heap)(Y:sysModules<h.objs.size):Vf P w H (h.push {cls:=.type "dict",data:=.dict #[]}) h.objs.size (.dT []):=
 ⟨Za _,beq_eq_false_iff_ne.mpr (Zq (Zc Y)),[],.nil,_,#[],0,ZW _ rfl,⟨rfl,rfl,rfl⟩,rfl,rfl,List.nodup_nil⟩
def Qa:TE:=fun _ H Q=>∀p,H p=none->Q (.ref p) (upd H p (.dK []))
def QZ:TE:=fun _ H Q=>∀p,H p=none->Q (.ref p) (upd H p (.dT []))
section
theorem JC:PE X (.Dict [] [] pos) Qa:=fun Y s U H Q I h=>
 wpAny_Dict_empty ⟨.ref s.heap.objs.size,_,I.laid (a:=s.heap.objs.size) (o:=.dK []) (t':=s.toks) (fun _ _ q=>ZD _ q) (ZF _) (NU s.heap I.big),rfl,h _ (I.hok.fresh (ZF _))⟩
theorem IX:PE X (.Dict [] [] pos) QZ:=fun Y s U H Q I h=>
 wpAny_Dict_empty ⟨.ref s.heap.objs.size,_,I.laid (a:=s.heap.objs.size) (o:=.dT []) (t':=s.toks) (fun _ _ q=>ZD _ q) (ZF _) (LK s.heap I.big),rfl,h _ (I.hok.fresh (ZF _))⟩
end
def Nl:List (TE×TE)->St->Hp->(List (V×V)->Hp->Prop)->Prop
 |[],_,H,Q=>Q [] H
 |(tk,tv)::r,U,H,Q=>tk U H fun x H1=>tv U H1 fun y H2=>Nl r U H2 fun ps H3=>Q ((x,y)::ps) H3
abbrev VV:List (V×V)->List (Value×Value)->Prop:=Paired fun p q=>RelV p.1 q.1/\RelV p.2 q.2
def PPs(X:Cx)(pos:Pos)(keys:List (Option Expr))(values:List Expr)(trs:List (TE×TE)):Prop:=
 ∀(pins:List (Addr×Obj))(s:Shared)(U:St)(H:Hp)(Q:List (V×V)->Hp->Prop),Inv X pins U H s->Nl trs U H Q->
  wpAny (model X.prog X.w) X.A (evalPairs (pairTrees keys values X.env pos)) (fun vs s'=>∃ps H',Inv X pins U H' s'/\VV ps vs/\Q ps H') X.xe s
theorem Du:PPs X pos [] [] []:=fun Y s U H Q I h=>pairTrees_nil_walk ⟨[],H,I,.nil,h⟩
theorem J6(E:PE X k tk)(B:PE X v tv)(D:PPs X pos ks vs trs):
  PPs X pos (some k::ks) (v::vs) ((tk,tv)::trs):=fun Y s U H Q I h=>
 pairTrees_cons_walk (thn (E Y s U H _ I h) fun u G ⟨x,j,S,M,R⟩=>thn (B Y G U j _ S R) fun q J ⟨y,P,A,L,O⟩=>
  thn (D Y J U P _ A O) fun z t ⟨T,C,F,Z,N⟩=>⟨(x,y)::T,C,F,.cons ⟨M,L⟩ Z,N⟩)
def Tn(kvs more:List (Key×V)):List (Key×V):=more.foldl (fun acc kv=>putK acc kv.1 kv.2) kvs
theorem KV.merge:∀{more:List (Key×V)}{Y:List (Key×Value)}{kvs:List (Key×V)}{vs:List (Key×Value)},KV more Y->KV kvs vs->KV (Tn kvs more) (merged vs Y):=by
 intro more Y kvs vs r;unfold KV at r
 induction r generalizing kvs vs with
 |nil=>intro q;exact q
 | @cons p q G J h t ih=>
  intro Z
  have e:KV (putK kvs p.1 p.2) (stored vs q.1 q.2):=by
   have:=Z.put p.1 h.2;rw[<-h.1];exact this
  exact ih e
theorem Xr:∀(more kvs:List (Key×V)),(Tn kvs more).length<=kvs.length+more.length
 |[],kvs=>by show kvs.length<=kvs.length+0;omega
 |p::r,kvs=>by
  have Z:=Xr r (putK kvs p.1 p.2);have Y:=Vp kvs p.1 p.2;show(Tn (putK kvs p.1 p.2) r).length<=_;rw[Zd];omega
theorem T1:∀{kvs:List (Key×V)}{ws:List (Value×Value)},VV (kvs.map fun Z=>(kV Z.1,Z.2)) ws->∃Y,Carries (VC P w) ws Y/\KV kvs Y
 |[],_,r=>by rw[List.map_nil]at r;cases r;exact⟨[],True.intro,.nil⟩
 |p::kvs,_,r=>by
  rw[ZT]at r
  cases r with
  | @cons a b M G h t=>
   obtain⟨Y,c,q⟩:=T1 (P:=P) (w:=w) t;obtain⟨L,J⟩:=b;exact⟨(p.1,J)::Y,⟨Xs h.1,rfl,c⟩,.cons ⟨rfl,h.2⟩ q⟩
def S0(trs:List (TE×TE)):TE:=fun U H Q=>∀p,H p=none->Nl trs U (upd H p (.dK [])) fun ps H2=>H2 p=some (.dK [])/\∃kvs:List (Key×V),ps=kvs.map (fun kv=>(kV kv.1,kv.2))/\kvs.length<=15/\Q (.ref p) (upd H2 p (.dK (Tn [] kvs)))
theorem Dy(h:PPs X pos keys values trs)(J:keys.all (·.isSome)=true)(y:keys.length=values.length)(g:keys≠[])(M:keys.length<=15):PE X (.Dict keys values pos) (S0 trs):=by
 intro Y s U H Q I q;have j:=I.hok.fresh (ZF s.heap.objs.size);have d:=I.laid (a:=s.heap.objs.size) (o:=.dK []) (h':=s.heap.push {cls:=.type "dict",data:=.dict #[]}) (t':=s.toks) (fun _ _ q=>ZD _ q) (ZF _) (NU s.heap I.big);refine wpAny_Dict_walk (knd:=VC X.prog X.w) J y g M (thn (h Y _ U _ _ d (q _ j)) fun f u ⟨v,r,O,L,e,Z,k,F,E⟩=>?_);subst k;obtain⟨T,c,B⟩:=T1 (P:=X.prog) (w:=X.w) L;obtain⟨z,m,R,D,p⟩:=LO O.hok e;cases D;refine⟨T,c,p,fun h' G S=>⟨.ref s.heap.objs.size,_,?_,rfl,E⟩⟩
 have A:(Tn [] Z).length<=sizeLine:=by
  have N:=Xr Z [];rw[List.length_nil]at N;rw[sizeLine_eq];exact CG N F
 have t:∃q,h'.get? s.heap.objs.size=some q:=let⟨q,_,_,C,_⟩:=G;⟨q,C⟩
 exact Mg O (by rw[e];exact True.intro) S t (Tx A m (B.merge .nil) G)
structure M1(X:Cx)(o:Expr)(m:Str)(apos:Pos)(e:Expr)(cpos:Pos):Prop where
 base:attributeBase o m X.env (eval o X.env)=eval o X.env
 few:((backTo cpos (starEach [e] X.env)).all (fun x=>!x.1) && (backToKw cpos (keywordEach [] X.env)).all (fun x=>x.1.isSome)
  && decide (([e]:List Expr).length+([]:List Keyword).length+(if([]:List Keyword).isEmpty then 0 else 1)<30))=true
 line:(apos.endLine==cpos.line)=true
 trees:backTo cpos (starEach [e] X.env)=[(false,eval e X.env)]
structure M2(X:Cx)(o:Expr)(m:Str)(apos:Pos)(e f:Expr)(cpos:Pos):Prop where
 base:attributeBase o m X.env (eval o X.env)=eval o X.env
 few:((backTo cpos (starEach [e,f] X.env)).all (fun x=>!x.1) && (backToKw cpos (keywordEach [] X.env)).all (fun x=>x.1.isSome)
  && decide (([e,f]:List Expr).length+([]:List Keyword).length+(if([]:List Keyword).isEmpty then 0 else 1)<30))=true
 line:(apos.endLine==cpos.line)=true
 trees:backTo cpos (starEach [e,f] X.env)=[(false,eval e X.env),(false,eval f X.env)]
def IsD(H:Hp)(a:Addr):Prop:=(∃kvs,Rd H a (.dK kvs)) \/ ∃kvs,Rd H a (.dT kvs)
theorem SS(I:Inv X pins U H s)(d:IsD H a):
  s.TypeIs (.ref a) "dict" /\(∀b,Value.ref a=.ref b->∃Y,s.heap.get? b=some Y/\Y.dict=none)/\(a==sysModules)=false:=by
 rcases d with⟨Z,e⟩|⟨Z,e⟩
 .obtain ⟨_,hd,vs,_,dd⟩:=U2 I.hok e
  refine⟨dd.typeIs,fun b q=>?_,hd⟩;cases q;obtain⟨Y,_,_,G,J,_⟩:=dd;exact⟨Y,G,J.2.1⟩
 .obtain ⟨_,hd,xs,_,dd⟩:=Tw I.hok e
  refine⟨dd.typeIs,fun b q=>?_,hd⟩;cases q;obtain⟨Y,_,_,G,J,_⟩:=dd;exact⟨Y,G,J.2.1⟩
section
theorem Sf(T:A.units+1<cLine)(I:Inv X pins U H s)(g:VP H a y o)(O:RelV y u)(h:∀M N,Inv X pins U H N->RelV (o.getD .non) M->Q M N):
  wpAny (model X.prog X.w) A (call (.builtin "dict.get") [.ref a,u]) Q E s:=by
 rcases g with⟨J,k,e,L,l⟩|⟨J,k,b,e,L,B,l⟩
 .subst L
  obtain⟨z,G,D,Y,Z⟩:=U2 I.hok e;refine call_meetsIn PySem.F.slot_dict_get Z.typeIs PySem.F.entry_dict_get (PySem.F.args_dict_get_2 _ _) (meets_dict_get (VC X.prog X.w) a (Xs O) G) ⟨_,Z.mapOf,h _ _ (I.tok _) ?_⟩;rw[l];exact(Y.val k).getD rfl
 .subst L
  cases(show u=Value.ref b from O);obtain⟨z,G,R,Y,Z⟩:=Tw I.hok e;refine call_meetsIn PySem.F.slot_dict_get Z.typeIs PySem.F.entry_dict_get (PySem.F.args_dict_get_2 _ _) (meetsH_dict_get (tupleKind (VC X.prog X.w)) a b G) ⟨tupleKind_room_in1 T,k,R,Wj I.hok B,Z,h _ _ (I.tok _) ?_⟩;rw[l];exact(Y.val k).getD rfl
end
def Qb(td ty:TE):TE:=fun U H Q=>td U H fun x H1=>Jr x fun a=>IsD H1 a/\ty U H1 fun y H2=>∃o,VP H2 a y o/\Q (o.getD .non) H2
section
theorem WE(B:X.A.units+1<cLine)(D:PE X o td)(he:PE X e ty)(m:M1 X o "get" apos e cpos):PE X (.Call (.Attribute o "get" apos) [e] [] cpos) (Qb td ty):=by
 intro Y s U H Q I h;refine wpAny_Call_method m.base m.few m.line PySem.F.plainAttrs_dict PySem.F.slot_dict_get PySem.F.type_dict_get (thn (D Y s U H _ I h) fun u N ⟨x,C,G,R,Z⟩=>?_);replace Z:=Jr.old Z;obtain⟨a,E,d,Z⟩:=Z;subst E;obtain rfl:u=Value.ref a:=R;obtain⟨M,L,_⟩:=SS G d;refine⟨M,L,?_⟩;rw[m.trees];refine Calls.callWith_builtin rfl (Calls.evalArgs_plain (Calls.spliced_cons (thn (he Y N U C _ G Z) fun t z ⟨y,S,A,O,q,g,T⟩=>Calls.spliced_nil ?_)));exact Sf B A g O fun P j F J=>⟨_,S,F,J,T⟩
end
end L2
namespace Att
open PySem PySem.W PySem.Calls PyProof.Rows
theorem W4:∀(ns:List Int)(vs:List Value),WellAll P h vs (ns.map WData.int)->IntsAre vs ns:=by
 intro ns
 induction ns with
 |nil=>
  intro vs w;rw[List.map_nil]at w;cases w;exact .nil
 |cons n ns ih=>
  intro vs w;rw[ZT]at w
  cases w with
  |cons a b=>
   cases a;exact .cons _ _ (ih _ b)
theorem Ed{l:OpenLaw}(E:l.most=some n)(Y:l.row.toRowW.claim.pre args=true)(M:WellAll P h vals args):
  ∃a vs ns,vals=[Value.ref a]/\args=[WData.list (ns.map WData.int)]/\h.get? a=some {cls:=.type "list",data:=.seq vs.toArray}/\IntsAre vs ns/\ns.length<=n:=by
 have N:WShape.hasAll [] args [.list .int]=true:=(pre_splitW Y).1;have O:l.pre.holds [] {args:=args}=true:=(pre_splitW Y).2;obtain⟨d,r,rfl,I,A⟩:=hasAllW_cons N;obtain rfl:=hasAllW_nil A;obtain⟨S,rfl,F⟩:=hasW_list I;obtain⟨ns,rfl⟩:=items_int F
 have Z:ns.length<=n:=by
  unfold OpenLaw.pre at O
  have L:(WTm.not (.lt (.lit (.int (n:Int))) (.len (.arg 0)))).holds [] {args:=[.list (ns.map .int)]}=true:=by
   have L:=(holds_andW O).1;rw[E]at L;exact L
  have G:=condW_of L (w_not (w_lt w_lit (w_len_list (w_arg rfl))));rw[ZA]at G;refine Nat.le_of_not_lt fun q=>?_;have B:(n:Int)<((ns.length:Nat):Int):=by omega
  first
   |(rw[decide_eq_true B]at G;exact Zp G (by decide))
   |(simp at G;omega)
 cases M with
 |cons T R=>
  cases R
  cases T with
  |list D J=>exact⟨_,_,ns,rfl,rfl,D,W4 ns _ J,Z⟩
theorem Ei(l:OpenLaw)(args:List WData):l.row.toRowW.claim.post args (.bool true) args=true:=
 postW_of (r:=l.row.toRowW) (X:=(true==true))
  (show WShape.has [] (.bool true) .bool=true by first|rfl|decide|simp[WShape.has,WShape.arms,WShape.armsAll])
  (show(WTm.eq .res (.lit (.bool true))).value [] {args:=args,res:=some (.bool true),after:=args}=some (.bool (true==true))from w_eq_bool (w_res rfl) w_lit) rfl
theorem attach_call{l:OpenLaw}(z:l.most=some n)(S:d.params.defaults=[])(call:∀(w:World)(s₀ Z:Shared)(B F:Str->Option Value)(R:Addr)(o:Obj)(E D L:Value)(a:Addr)(vs:List Value)(ns:List Int),
   Ground q loose [] XP w s₀ B F Z.heap->YP w Z.heap->
   Z.heap.get? R=some o->o.data=.func (docDef d.name d.params d.body d.scope E D L)->Z.heap.CodeRec D d.name->B d.name=some (.ref R)->
   Z.heap.get? a=some {cls:=.type "list",data:=.seq vs.toArray}->IntsAre vs ns->ns.length<=n->Z.gens= #[]->
   codeAny (model l.prog w) callerA (.call (.ref R) ⟨[.ref a],[]⟩) (fun r T=>r=.ok (.ret (.bool true))/\OldK Z.heap T.heap/\T.os=Z.os/\AllBare T.gens) Z):
  WalkO q loose XP YP l.row.toRowW d [] (fun f vs=>PySem.call f vs):=by
 intro w s₀ Z B F G Y R o E D L v kV y k U P I g args C b M X Q A m;obtain rfl:v=.none:=Dflts.none P S;obtain rfl:kV=.none:=Dflts.noKw P;obtain⟨a,vs,ns,rfl,rfl,N,J,O⟩:=Ed z M A;refine enter_call (codeAny_mono (call w s₀ Z B F R o E D L a vs ns G Y y (fd_plain k) U I N J O g) fun r T j=>?_);obtain⟨rfl,u,c,p⟩:=j;exact⟨.inl ⟨.bool true,.bool true,[],rfl,fun _=>rfl,.bool true,Ei l _,fun _=>⟨List.Pairwise.nil,fun _ t=>(nomatch t)⟩⟩,u,c,p⟩
end Att
namespace L2
open PySem PySem.Spec PyProof.Rows
theorem RG:∀{vs:List Value}{ns:List Int},IntsAre vs ns->Vals (ns.map V.int) vs
 |_,_,.nil=>.nil
 |_,_,.cons n t h=>.cons ⟨t,rfl⟩ (RG h)
def Si(H:Hp):Prop:=∀b,H b=none \/ ∃o xs,H b=some (.frz o (.lst xs))
theorem Kw{K:W.Frag}(f:K.In s₁.heap)(T:s₁.heap.Ns mainGlobals mg)(Z:s₁.heap.Ns builtinsNs mb)(C:∀x:Str,x≠"__name__" ->mb x=bootBuiltins x)(B:s₁.heap.NoLimit)(hg:s₁.gens= #[])(I:s₁.heap.get? a=some {cls:=.type "list",data:=.seq vs.toArray})(hi:IntsAre vs ns)(t:ns.length<=sizeLine)(hr:V7 k callerA)(F:∀base:Heap,K.In base->base.Ns mainGlobals mg->Yo P w K mg base CX k fa fd [x] sp)(L:∀(s:Shared)(u:Value),BindsTo s fd ⟨[u],[]⟩ [(x,u)])(U:∀H:Hp,Si H->SqL K H a (ns.map V.int)->sp [.ref a] H (fun v _=>v=.bl true) fun _ _ _=>False)(X:∀H e J,CX [] H s₁ (fun _ _ _=>False) e J->False):
  codeAny (model P w) callerA (.call (.ref fa) ⟨[.ref a],[]⟩) (fun r J=>r=.ok (.ret (.bool true))/\OldK s₁.heap J.heap/\J.os=s₁.os/\AllBare J.gens) s₁:=by
 have y:=RG hi;have N:=hi.length;have core:∀H:Hp,Si H->SqL K H a (ns.map V.int)->HOk P w H s₁.heap->(∀b,H b≠none->b=a)->(H a≠none->K.lookup a=none)->
   codeAny (model P w) callerA (.call (.ref fa) ⟨[.ref a],[]⟩) (fun r J=>r=.ok (.ret (.bool true))/\OldK s₁.heap J.heap/\J.os=s₁.os/\AllBare J.gens) s₁:=by
  intro H g hS R p hK;have Y:∀{b:Addr}{o:Obj},s₁.heap.get? b=some o->H b=none->(MZ s₁.heap H).get? b=some o:=fun e n=>K5 e n
  have S:∀{b:Addr}{o:Obj}{E:Array DictEntry}{A:Nat},s₁.heap.get? b=some o->o.data=.dict E A->H b=none:=fun{b o E A} e d=>by
   cases q:H b with
   |none=>rfl
   |some u=>
    have Q:b=a:=p b (by rw[q];simp);subst Q;rw[I]at e;cases e;have d':Data.seq vs.toArray _=Data.dict E A:=d;cases d'
  have G:∀{b:Addr}{m:Str->Option Value},s₁.heap.Ns b m->(MZ s₁.heap H).Ns b m:=fun{b m} ⟨o,E,A,e,d,r⟩=>⟨o,E,A,Y e (S e d),d,r⟩
  have D:K.In (MZ s₁.heap H):=fun b o e=>Y (f b o e) (by
   cases q:H b with
   |none=>rfl
   |some u=>
    have Q:b=a:=p b (by rw[q];simp);subst Q;rw[hK (by rw[q];simp)]at e;cases e)
  have hM:Mod K mg (MZ s₁.heap H):=⟨D,G T,⟨mb,G Z,C⟩,let⟨mc,h1,h2⟩:=B;⟨mc,G h1,h2⟩⟩;have e0:B9 P w K mg (MZ s₁.heap H) callerA [] s₁ H:=⟨rfl,hM,fun b o e=>Oh e,Nat.le_of_eq (E8 _ _),trivial,fun b Z=>Zp (show b∈([]:List Addr)from Z) (by simp),R,.of_eq hg⟩;refine codeAny_mono ((F _ D (G T)).run callerA [] s₁ H ⟨[.ref a],[]⟩ [.ref a] [.ref a] _ _ hr e0 (L s₁ (.ref a)) (.cons rfl .nil) (U H g hS)) fun r J h=>?_
  cases r with
  |error e=>exact(X H e J h).elim
  |ok fl=>
   cases fl with
   |next=>exact False.elim h
   |brk=>exact False.elim h
   |cont=>exact False.elim h
   |ret u=>
    obtain⟨v,H',os,bare,j,O,l,q⟩:=h;have i:v=.bl true:=q;subst i;obtain rfl:u=Value.bool true:=l;refine⟨rfl,OldK.of_keep fun b o e=>?_,os,bare⟩
    cases q:H b with
    |none=>exact j.keep b o e q (by intro z;exact Zp (show b∈([]:List Addr)from z) (by simp)) (by simp)
    |some u=>
     rcases g b with z|⟨ob,xs,z⟩
     .rw [q]at z;cases z
     .have z2:=j.frzs b ob _ z
      obtain⟨c,_⟩:=R b _ z;obtain⟨e2,_⟩:=O b _ z2;rw[e]at c;cases c;exact e2
 cases hk:K.lookup a with
 |some o=>
  have e:=f a o hk;rw[I]at e;cases e;refine core (fun _=>none) (fun _=>.inl rfl) (.inr ⟨_,vs.toArray,_,hk,rfl,rfl,rfl,by rw[ZM,N];exact t,by simpa using y⟩) (fun b u z=>by have M:(none:Option HO)=some u:=z;cases M) (fun b z=>Zp rfl z) fun z=>Zp rfl z
 |none=>
  refine core (fun b=>if b=a then some (.frz {cls:=.type "list",data:=.seq vs.toArray} (.lst (ns.map V.int)))else none) (fun b=>?_) (.inl (.inr ⟨{cls:=.type "list",data:=.seq vs.toArray},Zn rfl⟩)) (fun b u z=>?_) (fun b z=>?_) fun _=>hk
  .by_cases Z:b=a
   .exact .inr ⟨_,_,Zn Z⟩
   .exact .inl (Zo Z)
  .by_cases Z:b=a
   .have M:=(Zn Z).symm.trans z
    cases M;subst Z;exact⟨I,by rw[ZA];exact t,vs,_,y,I⟩
   .have M:=(Zo Z).symm.trans z
    cases M
  .by_cases Z:b=a
   .exact Z
   .exact Zp (Zo Z) z
theorem walk_of{l:W.OpenLaw}{K:Params->W.Frag}{CX:World->CXT}{sp:World->Sp}(X:l.most=some n)(B:n<=sizeLine)(E:d.params.defaults=[])(C:V7 k callerA)(y:∀(w:World)(h:Heap),YP w h->(K w.params).In h)(F:∀(w:World)(L:Str->Option Value)(O:Addr)(h:Heap),(K w.params).In h->h.Ns mainGlobals L->L d.name=some (.ref O)->
   ∃I:FuncData,(∀(s:Shared)(u:Value),BindsTo s I ⟨[u],[]⟩ [(x,u)])/\
    ∀base:Heap,(K w.params).In base->base.Ns mainGlobals L->Yo l.prog w (K w.params) L base (CX w) k O I [x] (sp w))(T:∀(w:World)(H:Hp)(a:Addr)(ns:List Int),ns.length<=n->Si H->SqL (K w.params) H a (ns.map V.int)->sp w [.ref a] H (fun v _=>v=.bl true) fun _ _ _=>False)(A:∀(w:World)(H:Hp)(s:Shared)(e:Value)(R:Shared),CX w [] H s (fun _ _ _=>False) e R->False):
  W.WalkO q loose XP YP l.row.toRowW d [] (fun f vs=>PySem.call f vs):=by
 refine Att.attach_call X E fun w S M L c O o p i g a vs ns G Y r b Q D N J Z P=>?_;have U:=y w _ Y;obtain⟨I,j,m⟩:=F w L O _ U G.T.g D;exact Kw U G.T.g G.T.b G.T.builtins G.T.nolimit P N J (ZZ Z B) C m j (fun H t z=>T w H a ns Z t z) fun H e R=>A w H M e R
def inClass(s:Stmt)(j:Nat):Stmt:=match s with
 |.ClassDef _ _ _ body _ _ _ _ _ _ _=>body.getD j (.Pass ⟨0,0,0,0⟩)
 |_=>.Pass ⟨0,0,0,0⟩
def UT(s:Stmt):Arguments:=match s with
 |.FunctionDef _ a _ _ _ _ _ _ _ _=>a
 |_=>{posonlyargs:=[],args:=[],vararg:=none,kwonlyargs:=[],kw_defaults:=[],kwarg:=none,defaults:=[]}
def J0(s:Stmt):List Stmt:=match s with
 |.FunctionDef _ _ b _ _ _ _ _ _ _=>b
 |_=>[]
def Yh(s:Stmt):Scope:=match s with
 |.FunctionDef _ _ _ _ _ _ sc _ _ _=>sc
 |_=>{kind:=.function,names:=[],isGenerator:=false,isCoroutine:=false}
abbrev CX0:CXT:=fun _ _ _ _ _ _=>False
abbrev E0:XK:=fun _ _ _=>False
theorem VH:XS CX0 X E0:=fun _ _ _ _ _ _ _ h=>h.elim
structure Fun(K:W.Frag)(x qual:Str)(st:Stmt)(f:Addr)(fd:FuncData):Prop where
 ex:∃(oc:Value)(od:Option Addr)(kV doc pm:Value)(an:Option Addr)(cdv ct:Value)(osl:Array (Option Value)),
  fd=W.fnOf x qual (UT st) (J0 st) (Yh st) .none kV doc pm an cdv ct/\K.lookup f=some ⟨oc,od,.func fd,osl⟩/\W.codeIn K cdv qual=true
 kp:W.keepIn K (.ref f)=true
section
variable{K:W.Frag}
theorem Fun.ok{st:Stmt}(F:Fun K x qual st f fd)(S:Yr N ps (Yh st))(J:∀vs H Q E,sp vs H Q E->vs.length=ps.length)(Z:∀(Y:Value)(A:Around)(outer:List Env)(s:Shared)(H:Hp)(vs:List V)(Q:VK)(E:XK),V7 k (A.deeper (envOfC qual (Yh st) s.heap.objs.size f Y))->sp vs H Q E->
   ∃t,PSs (JV CX0 P w K mg base N qual (Yh st) f Y A outer s H E).nox (J0 st) t/\t {nx:=fun _ H'=>Q .non H',rt:=Q} (start N vs) H):Yo P w K mg base CX0 (k+1) f fd ps sp:=by
 obtain⟨I,D,kV,T,B,C,Y,U,M,rfl,O,L⟩:=F.ex;refine zT O L S J fun A outer s H vs Q E R G=>?_;obtain⟨t,h,q⟩:=Z Y A outer s H vs Q E R G;exact⟨t,h.nox,q⟩
theorem Fun.oq{st:Stmt}(F:Fun K x qual st f fd)(S:Yr N ps (Yh st))(Y:∀(Z:Value)(A:Around)(outer:List Env)(s:Shared)(H:Hp)(vs:List V)(Q:VK)(E:XK),V7 k (A.deeper (envOfC qual (Yh st) s.heap.objs.size f Z))->sp vs H Q E->
   ∃t,PSs (JV CX0 P w K mg base N qual (Yh st) f Z A outer s H E).nox (J0 st) t/\t {nx:=fun _ H'=>Q .non H',rt:=Q} (start N vs) H)(J:∀vs H Q E,sp vs H Q E->vs.length=ps.length:=by intro vs H Q E h;repeat (obtain⟨e,h⟩:=h;first|(subst e;exact rfl)|skip)):Yo P w K mg base CX0 (k+1) f fd ps sp:=F.ok S J Y
theorem Fun.binds{st:Stmt}(F:Fun K x qual st f fd)(h:∀(kV Y J:Value)(G:Option Addr)(Z ct:Value)(us:List Value),us.length=ps.length->bindArgs (W.fnOf x qual (UT st) (J0 st) (Yh st) .none kV Y J G Z ct) ⟨us,[]⟩=pure (ps.zip us)):Binds K fd ps []:=by
 obtain⟨O,N,kV,Y,J,G,Z,ct,L,rfl,R,M⟩:=F.ex;exact .all (h kV Y J G Z ct)
theorem LF{st:Stmt}{kV Z J Y ct:Value}(l:K.lookup f=some ⟨oc,od,.func (W.fnOf x qual (UT st) (J0 st) (Yh st) .none kV Z J an Y ct),osl⟩)(c:W.codeIn K Y qual=true)(k:W.keepIn K (.ref f)=true):Fun K x qual st f (W.fnOf x qual (UT st) (J0 st) (Yh st) .none kV Z J an Y ct):=⟨⟨oc,od,kV,Z,J,an,Y,ct,osl,rfl,l,c⟩,k⟩
end
theorem V1(Y:V7 k A):A.units+1<cLine:=Nat.lt_of_le_of_lt (Nat.add_le_add_left (by decide:1<=64) _) Y.units
theorem Ye(h:n<=1000):n<sizeLine:=Nat.lt_of_le_of_lt h (by decide)
section
theorem pv(i:Nat)(G:X.N[i]?=some x:=by rfl)(Z:Vis X.env.scope x:=by first|exact Or.inl rfl|exact Or.inr (Or.inl rfl)|exact Or.inr (Or.inr rfl))(J:(x==("__debug__":Str))=false:=by decide)(Y:(x==("__classdict__":Str))=false:=by decide):PE X (.Name x pos) (Nk i):=Qx G Z J Y
end
theorem Vq{c A B:Prop}[Decidable c](Z:c->A)(Y:¬c->B):if c then A else B:=by
 by_cases h:c
 .rw [Zn h]
  exact Z h
 .rw [Zo h]
  exact Y h
def Same(H H':Hp):Prop:=∀b o,H b=some o->H' b=some o
theorem Same.refl(H:Hp):Same H H:=fun _ _ h=>h
abbrev Z6:=@Same.refl
theorem Same.trans(a:Same H H1)(b:Same H1 H2):Same H H2:=fun c o h=>b c o (a c o h)
theorem Same.free(e:Same H H')(h:H' l=Option.none):H l=Option.none:=by
 cases q:H l with
 |none=>rfl
 |some o=>
  rw[e l o q]at h;cases h
theorem Same.seq{K:W.Frag}(e:Same H H')(h:SqL K H a xs):SqL K H' a xs:=by
 rcases h with(h|⟨o,h⟩)|h
 .exact .inl (.inl (e _ _ h))
 .exact .inl (.inr ⟨o,e _ _ h⟩)
 .exact .inr h
theorem B5(N:List (Str×NameKind)):∀(Y:List (Str×Addr)),(∀x∈N,x.2=.free->∃c,env.cells.lookup x.1=some c)->
  ∃G,(forIn N Y (fun(x:Str×NameKind)(r:List (Str×Addr))=>(if(x.2==NameKind.free)=true then do let c <-cellOf env x.1;pure (ForInStep.yield ((x.1,c)::r))else pure (ForInStep.yield r):Sem (ForInStep (List (Str×Addr)))))=pure G)/\
   (∀x c,G.lookup x=some c->env.cells.lookup x=some c\/Y.lookup x=some c)/\(∀x,(x,NameKind.free)∈N->∃c,G.lookup x=some c)/\(∀x c,Y.lookup x=some c->∃M,G.lookup x=some M):=by
 induction N with
 |nil=>intro Y _;exact⟨Y,rfl,fun x c h=>.inr h,fun x h=>(nomatch h),fun x c h=>⟨c,h⟩⟩
 |cons y r ih=>
  intro Y h;obtain⟨n,k⟩:=y
  by_cases hk:k=.free
  .subst hk
   obtain⟨c,B⟩:=h (n,.free) ZY rfl;obtain⟨G,T,R,O,L⟩:=ih ((n,c)::Y) fun x Z=>h x (ZK _ Z);refine⟨G,?_,fun x M Z=>?_,fun x Z=>?_,fun x M Z=>?_⟩
   .rw [<-T]
    simp only[List.forIn_cons,beq_self_eq_true,if_true,cellOf,B]
    rfl
   .rcases R x M Z with q|q
    .exact .inl q
    .rw [List.lookup_cons]at q
     cases J:x==n with
     |true=>
      rw[J]at q;have:x=n:=by simpa using J
      subst this;cases q;exact .inl B
     |false=>rw[J]at q;exact .inr q
   .rcases Zb.mp Z with q|q
    .cases q
     exact L n c (by simp[List.lookup_cons])
    .exact O x q
   .cases J:x==n with
    |true=>exact L x c (by simp[List.lookup_cons,J])
    |false=>exact L x M (by simp[List.lookup_cons,J,Z])
  .obtain ⟨G,T,R,O,L⟩:=ih Y fun x Z=>h x (ZK _ Z)
   have J:(k==NameKind.free)=false:=by simpa using hk
   refine⟨G,?_,R,fun x Z=>?_,L⟩
   .rw [<-T]
    simp only[List.forIn_cons,J,Bool.false_eq_true,if_false]
    rfl
   .rcases Zb.mp Z with q|q
    .cases q;exact Zp rfl hk
    .exact O x q
theorem B4(h:∀x∈scope.names,x.2=.free->∃c,env.cells.lookup x.1=some c):
  ∃Y,closureFor scope env=pure Y/\(∀x c,Y.lookup x=some c->env.cells.lookup x=some c)/\(∀x,(x,NameKind.free)∈scope.names->∃c,Y.lookup x=some c):=by
 obtain⟨Y,L,G,J,_⟩:=B5 scope.names [] h;refine⟨Y,?_,fun x c Z=>(G x c Z).resolve_right (by simp),J⟩;rw[<-bind_pure (pure Y:Sem (List (Str×Addr))),<-L]
 rfl
theorem WA{scope:Scope}{env:Env}{x:Str}:∀{names:List (Str×NameKind)},(names.map fun(n,k)=>if(k==NameKind.free && env.scope.kind==.function && env.kindOf n==some .cell)then(n,NameKind.cell)else(n,k)).lookup x=some .cell \/
  (names.map fun(n,k)=>if(k==NameKind.free && env.scope.kind==.function && env.kindOf n==some .cell)then(n,NameKind.cell)else(n,k)).lookup x=some .free->(∀y∈names,y.2≠.cell)->(x,NameKind.free)∈names
 |[],h,_=>by simp at h
 |(n,k)::r,h,hc=>by
  have ih:= @WA scope env x r;rw[ZT]at h
  have Z:∀G:NameKind,(∀Y,((n,G)::(r.map fun(n,k)=>if(k==NameKind.free && env.scope.kind==.function && env.kindOf n==some .cell)then(n,NameKind.cell)else(n,k))).lookup x=some Y->(x=n/\G=Y)\/(r.map fun(n,k)=>if(k==NameKind.free && env.scope.kind==.function && env.kindOf n==some .cell)then(n,NameKind.cell)else(n,k)).lookup x=some Y):=fun G Y q=>by
   rw[List.lookup_cons]at q
   cases hb:x==n with
   |true=>rw[hb]at q;exact .inl ⟨by simpa using hb,ZP q⟩
   |false=>rw[hb]at q;exact .inr q
  dsimp only at h
  split at h
  .rename_i hk
   have M:k=.free:=by
    cases k <;> simp at hk
    rfl
   subst M;rcases h with h|h
   .rcases Z _ _ h with⟨e,_⟩|q
    .subst e;exact ZY
    .exact ZK _ (ih (.inl q) fun y J=>hc y (ZK _ J))
   .rcases Z _ _ h with⟨e,_⟩|q
    .subst e;exact ZY
    .exact ZK _ (ih (.inr q) fun y J=>hc y (ZK _ J))
  .rcases h with h|h
   .rcases Z _ _ h with⟨e,L⟩|q
    .exact Zp L (hc (n,k) ZY)
    .exact ZK _ (ih (.inl q) fun y J=>hc y (ZK _ J))
   .rcases Z _ _ h with⟨e,L⟩|q
    .subst e;subst L;exact ZY
    .exact ZK _ (ih (.inr q) fun y J=>hc y (ZK _ J))
theorem NY(I:Nat->Shared->Prop)(turn:∀n s,I n s->wpAny (model prog w) A (pyNext it) (fun r J=>match r with
   |none=>R (.ok .next) J
   |some v=>wpAny (model prog w) A (letOwnedTupleGo target it v) (fun _ Z=>wpAny (model prog w) A (assign target env v) (fun _ N=>wpAny (model prog w) A (eval elt env) (fun x M=>
     wpAny (model prog w) A (call (.builtin "list.append") [acc,x]) (fun _ L=>∃m,m<n/\I m L) (fun _ _=>False) M)
     (fun _ _=>False) N) (fun _ _=>False) Z) (fun _ _=>False) J) (fun _ _=>False) s)(n:Nat)(h:I n s):codeAny (model prog w) A
   (.compLoop (.ListComp elt [⟨target,iter,[],0⟩] scope pos) 0 it acc env) R s:=by
 refine codeAny_loop rfl I (fun n s T=>wpAny_noted (m:=compTurn (.ListComp elt [⟨target,iter,[],0⟩] scope pos) 0 it acc env) ?_) n h;rw[compTurn_list1];refine Zj (wpAny_standAt (Zj (Zl (turn n s T) (fun r J O=>?_) fun _ _ Y=>Y.elim)))
 cases r with
 |none=>exact Zk O
 |some v=>
  exact Zj (Zl O (fun _ Z G=>Zj (Zl G (fun _ N E=>Zj (Zj (Zl E (fun x M D=>Zj (Zl D
   (fun _ L B=>Zk (Zk ⟨rfl,B⟩)) fun _ _ Y=>Y.elim)) fun _ _ Y=>Y.elim))) fun _ _ Y=>Y.elim)) fun _ _ Y=>Y.elim)
theorem Wu{env:Env}{x:Str}:∀{names:List (Str×NameKind)},names.lookup x=some .free->
  (names.map fun(n,k)=>if(k==NameKind.free && env.scope.kind==.function && env.kindOf n==some .cell)then(n,NameKind.cell)else(n,k)).lookup x≠some .local
 |[],h=>by simp at h
 |(n,k)::r,h=>by
  have ih:= @Wu env x r;rw[ZT];dsimp only[rI0,rI,J9];rw[List.lookup_cons]at h
  cases hb:x==n with
  |true=>
   rw[hb]at h;have Y:k=.free:=ZP h;subst Y
   split <;> simp[List.lookup_cons,hb]
  |false=>
   rw[hb]at h
   split <;> (simp only[List.lookup_cons,hb];exact ih h)
def VL(X:Cx)(N':List Str)(scope:Scope)(cl:List (Str×Addr))(C:Addr)(fp:List Addr)(s:Shared)(H:Hp):Cx:=
 {X with N:=N',s₀:=s,H₀:=H,env:=compEnvC scope cl C X.env,outer:=X.stack,stack:=X.stack,ex:=fp,fn:=fun _=>false,pn:=[],xe:=fun _ _=>False}
def Vi(X:Cx)(own:List Str)(ix:List Nat):List Str:=own++ ix.map fun j=>X.N.getD j ("":Str)
def V3(k:Nat)(ix:List Nat)(U:St):St:=List.replicate k none++ ix.map fun j=>U.getD j none
def GK(k:Nat)(g:TG):Prop:=∀x U H Q,g x U H Q->g x U H fun σ2 H2=>Q σ2 H2/\σ2.length=U.length/\σ2.drop k=U.drop k
theorem Vl(h:i<k):GK k (JG i):=fun x U H Q q=>⟨q,by simp,by rw[List.drop_set,Zn h]⟩
def GKs(k:Nat)(g:TGs):Prop:=∀x U H Q,g x U H Q->g x U H fun σ2 H2=>Q σ2 H2/\σ2.length=U.length/\σ2.drop k=U.drop k
theorem SZ:GKs k Bz:=fun x U H Q q=>by
 match x,q with
 |[],q=>exact⟨q,rfl,rfl⟩
theorem EE(O:GK k g)(N:GKs k gs)(M:∀x U H (Q Y:St->Hp->Prop),(∀a b,Q a b->Y a b)->g x U H Q->g x U H Y)(L:∀x U H (Q Y:St->Hp->Prop),(∀a b,Q a b->Y a b)->gs x U H Q->gs x U H Y):GKs k (XM g gs):=fun x U H Q q=>by
 match x,q with
 |v::r,q=>
  refine M _ _ _ _ _ (fun a b z=>?_) (O _ _ _ _ q);obtain⟨G,J,Z⟩:=z;refine L _ _ _ _ _ (fun c d y=>?_) (N _ _ _ _ G);exact⟨y.1,y.2.1.trans J,y.2.2.trans Z⟩
theorem SY{K:W.Frag}(h:GKs k gs):GK k (Ox K n gs):=fun x U H Q q=>by
 match x,q with
 |.ref a,q=>
  obtain⟨Y,J,Z,q⟩:=q;exact⟨Y,J,Z,h _ _ _ _ q⟩
def EV(J:It)(g:TG)(te:TE)(s0:St)(Q:VK)(H1:Hp):Prop:=∃W:Nat->Nat->List V->Hp->Prop,(∃m,W 0 m [] H1)/\∀i m ys H,W i m ys H->
 ys.length<sizeLine/\((J.stop i H/\∀p,H p=none->Q (.ref p) (upd H p (.lst ys))) \/
  (J.go i H/\∀x H',J.yld i H x H'->g x s0 H' fun σ2 H2=>te σ2 H2 fun y H3=>∃m',m'<m/\W (i+1) m' (ys++[y]) H3))
def S1(k:Nat)(ix:List Nat)(wi:TI)(g:TG)(te:TE):TE:=fun U H Q=>wi U H fun J H1=>EV J g te (V3 k ix U) Q H1
theorem Inv.retrack(I:Inv X pins U H s)(M:H D=none)(f:UD X pins H D)(J:Vf X.prog X.w (upd H D o) s.heap D o):Inv X pins U (upd H D o) s:=by
 have Z:∀b u,H b=some u->b≠D:=fun b u e=>Yc e M;have r:=I.step (h':=s.heap) (H':=upd H D o) (g':=s.gens) (d':=s.drawn) (t':=s.toks) (ch:=[D])
  (fun b Y=>by
   have e:b=D:=by simpa using Y
   subst e;exact⟨f.2.2.2.1,f.2.1,f.2.2.2.2.1,f.2.2.2.2.2⟩)
  (fun b o _ _ _ e _=>e) (fun b o _ _ _ e _=>⟨o.slots,e⟩) (fun b o Y e n=>by rw[Ya (fun z=>Y (by simp[z]))];exact n) (fun b o _ e=>⟨o,e⟩)
  (fun b G e=>by rw[Ya (Z _ _ e)];exact e) (fun b o u e=>by rw[Ya (Z _ _ e)];exact e) (fun b N e=>⟨#[],by rw[Ya (Z _ _ e),e];simp⟩) (fun m L=>L)
  (fun b u e=>by
   by_cases Y:b=D
   .subst Y;rw[YY]at e;cases e;exact J
   .rw [Ya Y]at e
    exact(I.hok b u e).stay (fun c v _ q=>q) (fun c q=>by rw[Ya (Z _ _ q)];exact q) fun c G q=>by rw[Ya (Z _ _ q)];exact q) I.bare
 exact r
def UX(sc:Scope)(outer:List (Str×NameKind))(N:List Str)(ix:List Nat):Bool:=
 sc.names.all (fun x=>(decide (x.2≠.local) || decide (sc.names.lookup x.1=some .local)) && decide (x.2≠.cell) && (decide (x.2≠.free) || decide (outer.lookup x.1=some .cell) || decide (outer.lookup x.1=some .free))) &&
  ix.all fun j=>match N[j]? with
   |some y=>decide (sc.names.lookup y=some .free)
   |none=>false
theorem UX.all(Y:UX sc outer N ix=true):
  (∀x∈sc.names,x.2=.local->sc.names.lookup x.1=some .local)/\(∀x∈sc.names,x.2≠.cell)/\(∀x∈sc.names,x.2=.free->outer.lookup x.1=some .cell\/outer.lookup x.1=some .free)/\∀j∈ix,∃y,N[j]?=some y/\sc.names.lookup y=some .free:=by
 unfold UX at Y;rw[ZX,List.all_eq_true,List.all_eq_true]at Y;have each:=fun x Z=>Y.1 x Z;simp only[ZX,Bool.or_eq_true,decide_eq_true_eq]at each;refine⟨fun x Z J=>(each x Z).1.1.resolve_left fun z=>z J,fun x Z=>(each x Z).1.2,fun x Z L=>?_,fun j G=>?_⟩
 .rcases (each x Z).2 with(z|z)|z
  .exact Zp L z
  .exact .inl z
  .exact .inr z
 .have q:=Y.2 j G
  cases e:N[j]? with
  |none=>rw[e]at q;cases q
  |some y=>rw[e]at q;exact⟨y,rfl,Zr q⟩
structure CB(X:Cx)(own:List Str)(ix:List Nat)(scope:Scope)(pins:List (Addr×Obj))(U:St)(tg:Expr)(cl:List (Str×Addr))(D C:Addr)(fp:List Addr)(it:Addr)(tn:Nat->Heap->Prop)(J:It)(H2:Hp)(s3:Shared):Prop where
 T:Turn X.prog X.w X.K tg J fp it tn
 ok:(VL X (Vi X own ix) scope cl C (D::fp) s3 H2).Ok
 nfp:∀b∈fp,b≠D
 f2:∀b∈fp,UD X pins H2 b
 fD:UD X pins H2 D
 I3:Inv X pins U H2 s3
 CD:C≠D
 fC:∀H':Hp,H' C=none->UD X pins H' C
section
theorem XO{rest:List Comprehension}(own:List Str)(N:List Nat)(hi:PI X tg iter wi)(G:scope.kind=.function)(N8:UX scope X.env.scope.names X.N N=true)(hs:∀x,foldedSetIterable iter X.env x=pure x)(I:Inv X pins U H s)(h:wi U H R)(loop:∀(cl:List (Str×Addr))(D C:Addr)(fp:List Addr)(it:Addr)(tn:Nat->Heap->Prop)(J:It)(E:Hp)(s3 s5:Shared),CB X own N scope pins U tg cl D C fp it tn J E s3->R J E->Inv (VL X (Vi X own N) scope cl C (D::fp) s3 E) [] (V3 own.length N U) E s5->tn 0 s5.heap->s5.heap.PlainList D (List.toArray [])->
   codeAny (model X.prog X.w) X.A (.compLoop (.ListComp elt (⟨tg,iter,ifs,0⟩::rest) scope pos) 0 (.ref it) (.ref D) (compEnvC scope cl C X.env)) (compPost (model X.prog X.w) X.A X.xe use POST (.ref D) C) s5):
  wpAny (model X.prog X.w) X.A (comprehension (.ListComp elt (⟨tg,iter,ifs,0⟩::rest) scope pos) scope X.env cpos (newList []) false (eval iter X.env) use) POST X.xe s:=by
 obtain⟨n,S,G1,R1⟩:=UX.all N8;have Z8:∀x∈scope.names,x.2=.free->∃c,X.env.cells.lookup x.1=some c:=fun x hx hf=>I.ok.has x.1 (G1 x hx hf);obtain⟨cl,R3,Y,J2⟩:=B4 Z8;refine wpAny_comprehension_free rfl hs R3 G n ?_;refine thn (hi pins s U H _ I h) fun v s1 h1=>thn h1 fun R7 d h2=>?_;obtain⟨it,fp,tn,J,E,e,M,T,L2,f2,hR⟩:=h2;subst e;refine wpAny_newObj_type (wpAny_newFunctionEnv S (by intro y hy;simp at hy) (fun h4 l w=>?_) G);dsimp only at l w |-;generalize hh3:d.heap.push {cls:=.type "list",dict:=none,data:=.seq ([]:List Value).toArray}=h3 at l w |-;have N1:h3.objs.size=d.heap.objs.size+1:=by rw[<-hh3,Heap.size_push]
 have f:∀b u,d.heap.get? b=some u->h3.get? b=some u:=fun b u q=>by rw[<-hh3];exact ZD _ q
 have D3:h3.get? d.heap.objs.size=some {cls:=.type "list",data:=.seq #[]}:=by rw[<-hh3];exact ZW _ rfl
 obtain⟨D,P⟩:∃D,D=d.heap.objs.size:=⟨_,rfl⟩;obtain⟨C,hC⟩:∃C,C=h3.objs.size:=⟨_,rfl⟩;rw[<-hC]at l w;rw[<-P]at D3 N1;have O:C=D+1:=hC.trans N1
 let s3:Shared:={d with heap:=h3}
 have I3:Inv X pins U E s3:=M.kept (t':=d.toks) f;have N7:∀b u,h3.get? b=some u->b<C:=fun b u q=>by rw[hC];exact ZN q
 have Z:∀b u,h3.get? b=some u->h4.get? b=some u:=fun b u q=>w.extBut b u (Zc (N7 b u q)) (ZD _ q);have R5:E D=none:=M.hok.fresh (by rw[P];exact ZF _);have R6:E C=none:=M.hok.fresh (by rw[O,P];exact Nat.le_succ _);have fD:UD X pins E D:=M.fpOk (by rw[P];exact ZF _) R5
 have g:∀x c,X.env.cells.lookup x=some c->c<D:=fun x c e=>by
  obtain⟨v,z⟩:=M.cell x c e;rw[P];exact z.lt
 have G2:∀b∈fp,b<D:=fun b L=>by
  obtain⟨o,e,_⟩:=T.obj 0 _ L2 b L;rw[P];exact ZN e
 let X':Cx:=VL X (Vi X own N) scope cl C (D::fp) s3 E
 have G3:∀b∈frs X.stack,b∉D::fp:=fun b L z=>by
  rcases Zb.mp z with z|z
  .have q:=M.stack
   obtain⟨_,o,e,_⟩:=q.mem L;have:=ZN e;rw[z,P]at this;exact Nat.lt_irrefl _ this
  .rcases Zb.mp (M.stkSub b L)with q|q
   .exact (f2 b z).2.1 q
   .exact (f2 b z).2.2.1 q
 have N2:X'.Ok:=by
  refine⟨I.ok.mod,G,I.ok.glob,I.ok.blt,?_,fun x y c h1 h2=>I.ok.inj x y c (Y x c h1) (Y y c h2),fun x hx=>J2 x (WA (scope:=scope) hx S),(fun x c z=>Bool.noConfusion (show false=true from z)),I.ok.hd,I.ok.frames,.inl rfl,fun b L=>⟨?_,fun x c h1=>?_⟩,fun b o e=>?_,?_,fun b o e L=>?_,fun b L z=>G3 b z L,?_,fun b L=>M.stkFree b L⟩
  .show h3.objs.size<=C
   rw[hC];exact ZF _
  .show b≠C
   rcases Zb.mp L with z|z
   .rw [z,O];exact Zc (Nat.lt_succ_self _)
   .rw [O];exact Zc (Nat.lt_succ_of_lt (G2 b z))
  .rcases Zb.mp L with z|z
   .rw [z];exact Zc (g x c (Y x c h1))
   .exact (f2 b z).2.2.2.2.1 x c (Y x c h1)
  .exact I3.bs b o e
  .show X.base.objs.size<=h3.objs.size
   have:=ZZ I.ok.bsz M.sz;rw[<-P]at this;rw[<-hC,O];exact Nat.le_succ_of_le this
  .rcases Zb.mp L with z|z
   .have:=ZN (M.bk b o e)
    rw[z,P]at this;exact Nat.lt_irrefl _ this
   .rcases (f2 b z).2.2.2.1 with q|q
    .exact I.ok.noex b o e q
    .have:=Zv (ZN (I.ok.bs b o e).1) q
     exact Nat.lt_irrefl _ this
  .exact I3.stack
 have N3:(V3 own.length N U).length=(Vi X own N).length:=by simp[V3,Vi]
 have I4:∀t,Inv X' [] (V3 own.length N U) E {d with heap:=h4,toks:=t}:=fun t=>by
  refine⟨N2,rfl,M.bare,Un.kept Z,⟨_,l,fun i x v e1 e2 e3=>?_⟩,fun x c e=>?_,R6,fun x c e=>M.freeC x c (Y x c e),fun p hp=>Zp (show p∈([]:List (Addr×Obj))from hp) (by simp),(I3.hok).kept Z,N3⟩
  .-- a name of the def that the block reads
   have N6:own.length<=i:=by
    apply Nat.le_of_not_lt;intro N5;unfold V3 at e2;rw[List.getElem?_append_left (by simpa using N5),List.getElem?_replicate,Zn N5]at e2;cases e2
   have Q:(N.map fun j=>X.N.getD j ("":Str))[i-own.length]?=some x:=by
    have z:(own++ N.map fun j=>X.N.getD j ("":Str))[i]?=some x:=e1
    rwa [List.getElem?_append_right N6]at z
   have N0:(N.map fun j=>U.getD j none)[i-own.length]?=some (some v):=by
    unfold V3 at e2;rw[List.getElem?_append_right (by simpa using N6)]at e2;simpa using e2
   rw[ZG]at Q N0
   cases hj:N[i-own.length]? with
   |none=>rw[hj]at Q;cases Q
   |some j=>
    rw[hj]at Q N0;obtain⟨y,hy,A⟩:=R1 j (ZH hj)
    have ex:x=y:=by
     have z:X.N.getD j ("":Str)=x:=ZP Q;rw[<-z,List.getD_eq_getElem?_getD,hy];rfl
    subst ex
    have ev:U[j]?=some (some v):=by
     have z:U.getD j none=some v:=ZP N0;rw[List.getD_eq_getElem?_getD]at z
     cases q:U[j]? with
     |none=>rw[q]at z;cases z
     |some a=>rw[q]at z;exact congrArg some z
    have N4:=PySem.mem_of_lookup A;have Z9:=G1 _ N4 rfl;obtain⟨m,hn,hl⟩:=M.loc;obtain⟨u,r,lk⟩:=hl j x v hy ev (.inr Z9);refine⟨u,r,.inr ⟨?_,?_⟩⟩
    .rcases e3 with z|z
     .exact Zp z (Wu A)
     .exact z
    .rcases lk with⟨k,_⟩|⟨_,c,R4,z⟩
     .rcases Z9 with q|q
      .exact Zp (k.symm.trans q) (by simp)
      .exact Zp (k.symm.trans q) (by simp)
     .obtain ⟨c',hc'⟩:=J2 x N4
      have:=Y x c' hc';rw[R4]at this;cases this;obtain⟨o,ho,hd⟩:=z;exact⟨c,hc',o,Z _ _ (f _ _ ho),hd⟩
  .obtain ⟨v,z⟩:=I3.cell x c (Y x c e)
   obtain⟨o,ho,hd⟩:=z;exact⟨v,o,Z _ _ ho,hd⟩
 have B:CB X own N scope pins U tg cl D C fp it tn J E s3:=⟨T,N2,fun b L=>Zc (G2 b L),f2,fD,I3,by rw[O];exact Nat.ne_of_gt (Nat.lt_succ_self _),fun H' hn=>M.fpOk (by rw[O,P];exact Nat.le_succ _) hn⟩;have F:=fun t=>loop cl D C fp it tn J E s3 {d with heap:=h4,toks:=t} B hR (I4 t) (T.keep 0 _ _ L2 fun b _ o e=>Z _ _ (f _ _ e)) ⟨_,Z _ _ D3⟩;rw[<-hC,<-P];exact codeAny_compStart_list (F _) (T.self _ 0 _ _ _ (T.keep 0 _ _ L2 fun b _ o e=>Z _ _ (f _ _ e)) (F _))
theorem CB.stop(B:CB X own ix scope pins U tg cl D C fp it tn J H2 s3)(Y:Inv (VL X (Vi X own ix) scope cl C (D::fp) s3 H2) [(D,oD)] τ H5 s6)(M:ys.length<sizeLine)(L:Vals ys its)(R:oD={cls:=.type "list",data:=.seq its.toArray nn}):
  Inv X pins U (upd H5 D (.lst ys)) s6/\UD X pins (upd H5 D (.lst ys)) C/\(∃m,s6.heap.Ns C m)/\H5 D=none:=by
 obtain⟨m,G,_⟩:=id Y.loc
 have T:Inv X pins U H5 s6:=B.I3.call' (ch:=D::fp) Y.os Y.base Y.hok Y.bare fun b N=>by
  rcases Zb.mp N with z|z
  .subst z
   exact⟨B.fD.2.2.2.1,B.fD.2.1,B.fD.2.2.2.2.1,B.fD.2.2.2.2.2⟩
  .have f:=B.f2 b z
   exact⟨f.2.2.2.1,f.2.1,f.2.2.2.2.1,f.2.2.2.2.2⟩
 obtain⟨O,Z,_⟩:=Y.pin (D,oD) (by simp);subst R;exact⟨T.retrack (o:=.lst ys) Z ⟨Z,B.fD.2⟩ ⟨Zf M,its,nn,L,O⟩,B.fC _ (by rw[Ya B.CD];exact Y.free),⟨m,G⟩,Z⟩
theorem B1(M:Inv X pins U H' s6)(Y:UD X pins H' C)(G:∃m,s6.heap.Ns C m)(q:Q (.ref D) H'):compPost (model X.prog X.w) X.A X.xe none (EP X pins U Q) (.ref D) C (.ok .next) s6:=by
 obtain⟨m,J⟩:=G;exact⟨m,J,fun N Z=>⟨.ref D,_,M.turned (it:=C) (t':=s6.toks) (fun b o L e=>(Z.2 b L).trans e) Y.1 Y.2.1 Y.2.2.2.1 Y.2.2.2.2.1 Y.2.2.2.2.2,rfl,q⟩⟩
theorem LH{T:Ends}(S:X.N.Nodup)(N:X.N[i0]?=some x0)(G:Loc X.env.scope x0)(A:X.fn x0=true\/X.env.scope.names.lookup x0=some .local)(Q:Inv X pins U H' s6)(Z:UD X pins H' C)(F:∃m,s6.heap.Ns C m)(q:JG i0 (.ref D) U H' T.nx):
  compPost (model X.prog X.w) X.A X.xe (some (assign (.Name x0 py) X.env)) (fun _ E=>∃R H',Inv X pins R H' E/\T.nx R H') (.ref D) C (.ok .next) s6:=by
 obtain⟨m,M⟩:=F;show wpAny _ X.A (assign (.Name x0 py) X.env (.ref D)) _ _ _;refine wpAny_assign_Name (RK (v:=.ref D) Q S N G rfl (fun B P Y=>?_) A);obtain⟨a,Y,J⟩:=Y
 have O:C≠a:=by
  rcases J with J|J
  .rw [J];exact Z.2.1
  .exact fun z=>Z.2.2.2.2.1 x0 a J z.symm
 exact⟨m,M.sameBut Y O,fun j L=>⟨_,_,P.turned (it:=C) (t':=B.toks) (fun b o I e=>(L.2 b I).trans e) Z.1 Z.2.1 Z.2.2.2.1 Z.2.2.2.2.1 Z.2.2.2.2.2,q⟩⟩
theorem Dt(Y:swapsWith (.ListComp e gens scope pos) (some (.Name x0 py)) spos.line X.env=pure true)(h:wpAny (model X.prog X.w) X.A (comprehension (.ListComp e gens scope pos) scope X.env (firstIterPos gens pos) (newList []) (firstAsync gens) (firstIter gens X.env) (some (assign (.Name x0 py) X.env))) (fun _ Z=>∃J H',Inv X pins J H' Z/\D0.nx J H') X.xe s):
  wpAny (model X.prog X.w) X.A (exec (.Assign [.Name x0 py] (.ListComp e gens scope pos) spos) X.env) (SP X pins D0) X.xe s:=by
 rw[exec_Assign_Name_used _ _ _ _ Y];refine Zj (wpAny_standAt (Zj (?_:wpAny _ X.A (do let _ <-comprehension (.ListComp e gens scope pos) scope X.env _ (newList []) _ _ (some (assign (.Name x0 py) X.env))) _ _ s)));exact Zj (Zl h (fun _ Z G=>Zk (Zk G)) fun _ _ e=>e)
theorem CB.loop1(B:CB X own ix scope pins U tg R D C L it tn J H2 s3)(hc:X.calm=true)(N1:GK own.length g)(hg:∀R C L s H,PG (VL X (Vi X own ix) scope R C L s H) tg g)(he:∀R C L s H,PE (VL X (Vi X own ix) scope R C L s H) elt te)(cw:EV J g te (V3 own.length ix U) Q H2)(N3:∀c E ys,Inv X pins U (upd E D (.lst ys)) c->UD X pins (upd E D (.lst ys)) C->(∃m,c.heap.Ns C m)->Q (.ref D) (upd E D (.lst ys))->Rs (.ok .next) c)(I4:Inv (VL X (Vi X own ix) scope R C (D::L) s3 H2) [] (V3 own.length ix U) H2 I)(G1:tn 0 I.heap)(lD:I.heap.PlainList D (List.toArray [])):
  codeAny (model X.prog X.w) X.A (.compLoop (.ListComp elt [⟨tg,iter,[],0⟩] scope pos) 0 (.ref it) (.ref D) (compEnvC scope R C X.env)) Rs I:=by
 obtain⟨W,⟨m0,w0⟩,turn⟩:=cw;have T:=B.T;have M:=B.ok;have a:=B.nfp
 let O:Cx:=VL X (Vi X own ix) scope R C (D::L) s3 H2
 have t:∀{F:Hp}{pl:List (Addr×Obj)},(∀p∈pl,p.1=D)->(∀b∈L,F b=none)->∀b∈L,UD O pl F b:=fun{F pl} N hn b G=>
  ⟨hn b G,(M.exf b (ZK _ G)).1,M.exfs b (ZK _ G),.inl (ZK _ G),(M.exf b (ZK _ G)).2,fun p G3 z=>a b G (z ▸ N p (by
   have q:p∈([]:List (Addr×Obj))++ pl:=G3;simpa using q))⟩
 have dX:D≠O.env.locals:=(M.exf D ZY).1;have dF:D∉O.fs:=M.exfs D ZY;refine NY (fun n s'=>∃i ys Y F,Inv O [] (V3 own.length ix U) F s'/\tn i s'.heap/\(∀b∈L,F b=none)/\F D=none/\s'.heap.PlainList D (List.toArray Y)/\Vals ys Y/\W i n ys F) ?_ m0
  ⟨0,[],[],H2,I4,G1,fun b G=>(B.f2 b G).1,B.fD.1,lD,.nil,w0⟩
 rintro n I ⟨i,ys,Y,E,I5,f,Z9,d5,⟨nn,l5⟩,v5,w5⟩;obtain⟨hz,P⟩:=turn i n ys E w5
 let h:Obj:={cls:=.type "list",data:=.seq Y.toArray nn}
 have Z:∀p∈ [((D,h):Addr×Obj)],p.1=D:=fun p N=>by
  have e:p=(D,h):=by simpa using N
  rw[e]
 have J2:Inv O [(D,h)] (V3 own.length ix U) E I:=I5.pins_of fun p N=>by
  have e:p=(D,h):=by simpa using N
  subst e;exact⟨l5,d5,dX,dF,fun v z=>nomatch z⟩
 rcases P with⟨stop,qn⟩|⟨go,step⟩
 .refine thn (T.done O rfl rfl rfl hc i _ I _ E _ J2 (t Z Z9) f stop) fun r c ⟨hr,I6⟩=>?_
  subst hr;obtain⟨z1,z2,z3,nD⟩:=B.stop I6 hz v5 rfl;exact N3 c E ys z1 z2 z3 (qn D nD)
 .refine thn (T.item O rfl rfl rfl hc i _ I _ E _ J2 (t Z Z9) f go) fun r c ⟨u,hr,h6⟩=>?_
  subst hr;refine thn h6 fun _ w ⟨x,H7,I7,r7,y7,A,N2⟩=>?_;have N5:=I7.pinned (t Z N2) (T.obj _ _ A);refine thn (hg R C (D::L) s3 H2 _ w _ H7 x u _ N5 r7 (N1 _ _ _ _ (step x H7 y7))) fun _ s8 ⟨σ8,H8,I8,q8,l8,k8⟩=>?_;refine thn (he R C (D::L) s3 H2 _ s8 σ8 H8 _ I8 q8) fun yv s9 ⟨y,H9,I9,r9,m',L2,w9⟩=>?_;obtain⟨gD,nD,_⟩:=I9.pin (D,h) (by simp);have Z8:Y.length=ys.length:=v5.length.symm;refine wpAny_list_append_plain (l:=D) (items:=Y.toArray) ⟨nn,gD⟩ (fun h' N0 G2=>?_) (by rw[ZM,Z8];exact Zf hz);have kp:∀b o,b≠D->s9.heap.get? b=some o->h'.get? b=some o:=fun b o G q=>(G2.2 b G).trans q
  have N4:Inv O (VS L w.heap) σ8 H9 s9:=I9.pins_of fun p N=>I9.pin p (by
   refine ZQ _ (ZQ _ N))
  have S:∀p∈O.pn++ VS L w.heap,p.1≠D:=fun p N=>by
   have q:p∈([]:List (Addr×Obj))++ VS L w.heap:=N;exact a _ (Xj (by simpa using q)).1
  have k:Inv O (VS L w.heap) σ8 H9 {s9 with heap:=h',toks:=s9.toks}:=N4.turned (it:=D) kp nD dX (.inl ZY) (M.exf D ZY).2 S;refine⟨m',L2,i+1,ys++[y],Y++[yv],H9,?_,?_,?_,nD,?_,v5.append (.cons r9 .nil),w9⟩
  .refine Inv.weak (k.pins_of (pins':=[]) fun p N=>nomatch N) (by rw[l8]) fun j v hj=>?_
   by_cases hlt:j<own.length
   .unfold V3 at hj
    rw[List.getElem?_append_left (by simpa using hlt),List.getElem?_replicate,Zn hlt]at hj;cases hj
   .have e:σ8[j]?=(V3 own.length ix U)[j]?:=by
     have q:=congrArg (fun l:List (Option V)=>l[j-own.length]?) k8;simp only[List.getElem?_drop]at q
     rwa [Nat.add_sub_cancel' (Nat.le_of_not_lt hlt)]at q
    rw[e];exact hj
  .exact T.keep _ _ _ A fun b G o e=>(k.pin (b,o) (ZQ _ (Vz G e))).1
  .intro b G
   obtain⟨o,e,d⟩:=T.obj _ _ A b G;exact(k.pin (b,o) (ZQ _ (Vz G e))).2.1
  .have e:(Y++[yv]).toArray=Y.toArray.push yv:=by simp
   rw[e];exact N0
end
theorem Mi(I:Nat->Shared->Prop)(turn:∀n s,I n s->wpAny (model prog w) A (pyNext it) (fun r L=>match r with
   |none=>R (.ok .next) L
   |some v=>wpAny (model prog w) A (letOwnedTupleGo target it v) (fun _ G=>wpAny (model prog w) A (assign target env v) (fun _ T=>wpAny (model prog w) A (isTrue ct env (eval ct env)) (fun b J=>if b=true then wpAny (model prog w) A (eval elt env) (fun x O=>
     wpAny (model prog w) A (call (.builtin "list.append") [acc,x]) (fun _ N=>∃m,m<n/\I m N) (fun _ _=>False) O)
     (fun _ _=>False) J else ∃m,m<n/\I m J) (fun _ _=>False) T) (fun _ _=>False) G) (fun _ _=>False) L) (fun _ _=>False) s)(n:Nat)(h:I n s):codeAny (model prog w) A (.compLoop (.ListComp elt [⟨target,iter,[ct],0⟩] scope pos) 0 it acc env) R s:=by
 refine codeAny_loop rfl I (fun n s D=>wpAny_noted (m:=compTurn (.ListComp elt [⟨target,iter,[ct],0⟩] scope pos) 0 it acc env) ?_) n h;rw[compTurn_list];refine Zj (wpAny_standAt (Zj (Zl (turn n s D) (fun r L B=>?_) fun _ _ Y=>Y.elim)))
 cases r with
 |none=>exact Zk B
 |some v=>
  refine Zj (Zl B (fun _ G M=>Zj (Zl M (fun _ T S=>?_) fun _ _ Y=>Y.elim)) fun _ _ Y=>Y.elim);dsimp only;refine Zj ?_;rw[List.forIn_cons];simp only[if_true];refine Zj (Zj (Zl S (fun b J Z=>Zk ?_) fun _ _ Y=>Y.elim));dsimp only;rw[List.forIn_nil];refine Zk ?_
  cases b with
  |true=>
   rw[Zn rfl]at Z;simp only[if_true];exact Zj (Zj (Zl Z (fun x O F=>Zj (Zl F (fun _ N E=>Zk (Zk ⟨rfl,E⟩)) fun _ _ Y=>Y.elim)) fun _ _ Y=>Y.elim))
  |false=>
   rw[Zo (by simp)]at Z;simp only[Zo Zg];exact Zk ⟨rfl,Z⟩
def DI(J:It)(g:TG)(tc:TT)(te:TE)(s0:St)(Q:VK)(H1:Hp):Prop:=∃W:Nat->Nat->List V->Hp->Prop,(∃m,W 0 m [] H1)/\∀i m ys H,W i m ys H->
 ys.length<sizeLine/\((J.stop i H/\∀p,H p=none->Q (.ref p) (upd H p (.lst ys))) \/
  (J.go i H/\∀x H',J.yld i H x H'->g x s0 H' fun σ2 H2=>tc σ2 H2 fun b H3=>if b=true then te σ2 H3 fun y H4=>∃m',m'<m/\W (i+1) m' (ys++[y]) H4 else ∃m',m'<m/\W (i+1) m' ys H3))
def Fe(k:Nat)(ix:List Nat)(wi:TI)(g:TG)(tc:TT)(te:TE):TE:=fun U H Q=>wi U H fun J H1=>DI J g tc te (V3 k ix U) Q H1
theorem UN(n:Nat)(S:n<sizeLine)(Z:Nat->List V->Hp->Prop)(A:Z 0 [] H)(M:∀i vs H,Z i vs H->vs.length<=i)(O:∀i vs H,i<n->Z i vs H->J.go i H)(G:∀vs H,Z n vs H->J.stop n H)(B:∀i vs H x H' (R:Bool->V->Hp->Prop),i<n->Z i vs H->J.yld i H x H'->(∀v Y,Z (i+1) (vs++[v]) Y->R true v Y)->(∀Y,Z (i+1) vs Y->R false .non Y)->g x s0 H' fun T I=>tc T I fun b Y=>if b=true then te T Y (R true)else R false .non Y)(E:∀vs H p,Z n vs H->H p=none->Q (.ref p) (upd H p (.lst vs))):
  DI J g tc te s0 Q H:=by
 refine⟨fun i m vs H=>m=n-i/\i<=n/\Z i vs H,⟨n,by simp,Za _,A⟩,?_⟩;rintro i m vs H ⟨rfl,D,p⟩;have U:=M i vs H p;refine⟨by omega,?_⟩
 by_cases hlt:i<n
 .exact .inr ⟨O i vs H hlt p,fun x H' y=>B i vs H x H' (fun b v Y=>if b=true then ∃L,L<n-i/\L=n-(i+1)/\i+1<=n/\Z (i+1) (vs++[v]) Y else ∃L,L<n-i/\L=n-(i+1)/\i+1<=n/\Z (i+1) vs Y) hlt p y
   (fun v Y N=>by rw[Zn rfl];exact⟨n-(i+1),by exact RB hlt,rfl,hlt,N⟩) fun Y N=>by rw[Zo (by simp)];exact⟨n-(i+1),by exact RB hlt,rfl,hlt,N⟩⟩
 .have e:i=n:=by exact Il D hlt
  subst e;exact .inl ⟨G vs H p,fun a F=>E vs H a p F⟩
section
theorem CB.loopI(B:CB X own ix scope pins U tg R D C G it tn J H2 s3)(hc:X.calm=true)(N8:GK own.length g)(hg:∀R C G s H,PG (VL X (Vi X own ix) scope R C G s H) tg g)(R1:∀R C G s H,PT (VL X (Vi X own ix) scope R C G s H) ct tc)(he:∀R C G s H,PE (VL X (Vi X own ix) scope R C G s H) elt te)(cw:DI J g tc te (V3 own.length ix U) Q H2)(R4:∀s6 P ys,Inv X pins U (upd P D (.lst ys)) s6->UD X pins (upd P D (.lst ys)) C->(∃m,s6.heap.Ns C m)->Q (.ref D) (upd P D (.lst ys))->Rs (.ok .next) s6)(I4:Inv (VL X (Vi X own ix) scope R C (D::G) s3 H2) [] (V3 own.length ix U) H2 f)(N3:tn 0 f.heap)(lD:f.heap.PlainList D (List.toArray [])):
  codeAny (model X.prog X.w) X.A (.compLoop (.ListComp elt [⟨tg,iter,[ct],0⟩] scope pos) 0 (.ref it) (.ref D) (compEnvC scope R C X.env)) Rs f:=by
 obtain⟨W,⟨m0,w0⟩,turn⟩:=cw;have T:=B.T;have N:=B.ok;have G2:=B.nfp
 let O:Cx:=VL X (Vi X own ix) scope R C (D::G) s3 H2
 have Z9:∀{k:Hp}{pl:List (Addr×Obj)},(∀p∈pl,p.1=D)->(∀b∈G,k b=none)->∀b∈G,UD O pl k b:=fun{k pl} A hn b Z=>
  ⟨hn b Z,(N.exf b (ZK _ Z)).1,N.exfs b (ZK _ Z),.inl (ZK _ Z),(N.exf b (ZK _ Z)).2,fun p N6 z=>G2 b Z (z ▸ A p (by
   have q:p∈([]:List (Addr×Obj))++ pl:=N6;simpa using q))⟩
 have dX:D≠O.env.locals:=(N.exf D ZY).1;have dF:D∉O.fs:=N.exfs D ZY;refine Mi (fun n s'=>∃i ys Y k,Inv O [] (V3 own.length ix U) k s'/\tn i s'.heap/\(∀b∈G,k b=none)/\k D=none/\s'.heap.PlainList D (List.toArray Y)/\Vals ys Y/\W i n ys k) ?_ m0
  ⟨0,[],[],H2,I4,N3,fun b Z=>(B.f2 b Z).1,B.fD.1,lD,.nil,w0⟩
 rintro n f ⟨i,ys,Y,P,I5,G1,L2,d5,⟨nn,l5⟩,v5,w5⟩;obtain⟨hz,Z8⟩:=turn i n ys P w5
 let h:Obj:={cls:=.type "list",data:=.seq Y.toArray nn}
 have M:∀p∈ [((D,h):Addr×Obj)],p.1=D:=fun p A=>by
  have e:p=(D,h):=by simpa using A
  rw[e]
 have N1:Inv O [(D,h)] (V3 own.length ix U) P f:=I5.pins_of fun p A=>by
  have e:p=(D,h):=by simpa using A
  subst e;exact⟨l5,d5,dX,dF,fun v z=>nomatch z⟩
 rcases Z8 with⟨stop,qn⟩|⟨go,step⟩
 .refine thn (T.done O rfl rfl rfl hc i _ f _ P _ N1 (Z9 M L2) G1 stop) fun r s6 ⟨hr,I6⟩=>?_
  subst hr;obtain⟨z1,z2,z3,nD⟩:=B.stop I6 hz v5 rfl;exact R4 s6 P ys z1 z2 z3 (qn D nD)
 .refine thn (T.item O rfl rfl rfl hc i _ f _ P _ N1 (Z9 M L2) G1 go) fun r s6 ⟨u,hr,h6⟩=>?_
  subst hr;refine thn h6 fun _ c ⟨x,H7,I7,r7,y7,E,R3⟩=>?_;have R5:=I7.pinned (Z9 M R3) (T.obj _ _ E);refine thn (hg R C (D::G) s3 H2 _ c _ H7 x u _ R5 r7 (N8 _ _ _ _ (step x H7 y7))) fun _ s8 ⟨σ8,H8,I8,q8,l8,k8⟩=>?_;refine thn (R1 R C (D::G) s3 H2 _ s8 σ8 H8 _ I8 q8) fun cb N4 ⟨N2,J2,S⟩=>?_
  have w:∀p∈O.pn++ VS G c.heap,p.1≠D:=fun p A=>by
   have q:p∈([]:List (Addr×Obj))++ VS G c.heap:=A;exact G2 _ (Xj (by simpa using q)).1
  have t:∀{I:Hp}{F:Shared},Inv O (VS G c.heap) σ8 I F->Inv O [] (V3 own.length ix U) I F:=fun{I F} L=>by
   refine Inv.weak (L.pins_of (pins':=[]) fun p A=>nomatch A) (by rw[l8]) fun j v hj=>?_
   by_cases hlt:j<own.length
   .unfold V3 at hj
    rw[List.getElem?_append_left (by simpa using hlt),List.getElem?_replicate,Zn hlt]at hj;cases hj
   .have e:σ8[j]?=(V3 own.length ix U)[j]?:=by
     have q:=congrArg (fun l:List (Option V)=>l[j-own.length]?) k8;simp only[List.getElem?_drop]at q
     rwa [Nat.add_sub_cancel' (Nat.le_of_not_lt hlt)]at q
    rw[e];exact hj
  have N0:∀{I:Hp}{F:Shared},Inv O ((D,h)::VS G c.heap) σ8 I F->Inv O (VS G c.heap) σ8 I F:=fun{I F} I9=>I9.pins_of fun p A=>I9.pin p (ZQ _ (ZK _ A))
  cases cb with
  |false=>
   rw[Zo (by simp)]at S;rw[Zo (by simp)];obtain⟨m',a,w9⟩:=S;obtain⟨gD,nD,_⟩:=J2.pin (D,h) (by simp);have L:=N0 J2;refine⟨m',a,i+1,ys,Y,N2,t L,?_,?_,nD,⟨nn,gD⟩,v5,w9⟩
   .exact T.keep _ _ _ E fun b Z o e=>(L.pin (b,o) (ZQ _ (Vz Z e))).1
   .intro b Z
    obtain⟨o,e,d⟩:=T.obj _ _ E b Z;exact(L.pin (b,o) (ZQ _ (Vz Z e))).2.1
  |true=>
   rw[Zn rfl]at S;rw[Zn rfl];refine thn (he R C (D::G) s3 H2 _ N4 σ8 N2 _ J2 S) fun yv F ⟨y,I,I9,r9,m',a,w9⟩=>?_;obtain⟨gD,nD,_⟩:=I9.pin (D,h) (by simp);have G3:Y.length=ys.length:=v5.length.symm;refine wpAny_list_append_plain (l:=D) (items:=Y.toArray) ⟨nn,gD⟩ (fun h' N7 N5=>?_) (by rw[ZM,G3];exact Zf hz);have kp:∀b o,b≠D->F.heap.get? b=some o->h'.get? b=some o:=fun b o Z q=>(N5.2 b Z).trans q;have L:Inv O (VS G c.heap) σ8 I {F with heap:=h',toks:=F.toks}:=(N0 I9).turned (it:=D) kp nD dX (.inl ZY) (N.exf D ZY).2 w;refine⟨m',a,i+1,ys++[y],Y++[yv],I,t L,?_,?_,nD,?_,v5.append (.cons r9 .nil),w9⟩
   .exact T.keep _ _ _ E fun b Z o e=>(L.pin (b,o) (ZQ _ (Vz Z e))).1
   .intro b Z
    obtain⟨o,e,d⟩:=T.obj _ _ E b Z;exact(L.pin (b,o) (ZQ _ (Vz Z e))).2.1
   .have e:(Y++[yv]).toArray=Y.toArray.push yv:=by simp
    rw[e];exact N7
end
abbrev two(elt tg iter tg2 iter2:Expr)(scope:Scope)(pos:Pos):Expr:=.ListComp elt [⟨tg,iter,[],0⟩,⟨tg2,iter2,[],0⟩] scope pos
section
theorem Bl:compTurn (two elt tg iter tg2 iter2 scope pos) 0 it acc env=(standAt iter.pos >>=fun _=>pyNext it >>=fun r=>match r with
  |none=>pure (.done .next)
  |some v=>letOwnedTupleGo tg it v >>=fun _=>assign tg env v >>=fun _=>eval iter2 env >>=fun x=>standAt iter2.pos >>=fun _=>foldedSetIterable iter2 env x >>=fun x=>holding [x] (pyIter x) >>=fun j=>
    runOwn (.compStart (two elt tg iter tg2 iter2 scope pos) 1 j acc env) env >>=fun _=>again (.compLoop (two elt tg iter tg2 iter2 scope pos) 0 it acc env)):=by rfl
theorem Bw:compTurn (two elt tg iter tg2 iter2 scope pos) 1 it acc env=(standAt iter2.pos >>=fun _=>pyNext it >>=fun r=>match r with
  |none=>pure (.done .next)
  |some v=>letOwnedTupleGo tg2 it v >>=fun _=>assign tg2 env v >>=fun _=>(eval elt env >>=fun x=>call (.builtin "list.append") [acc,x] >>=fun _=>pure ()) >>=fun _=>
    again (.compLoop (two elt tg iter tg2 iter2 scope pos) 1 it acc env)):=by rfl
theorem K0(I:Nat->Shared->Prop)(turn:∀n s,I n s->wpAny (model prog w) A (pyNext it) (fun r Y=>match r with
   |none=>R (.ok .next) Y
   |some v=>wpAny (model prog w) A (letOwnedTupleGo tg2 it v) (fun _ L=>wpAny (model prog w) A (assign tg2 env v) (fun _ G=>wpAny (model prog w) A (eval elt env) (fun x J=>
     wpAny (model prog w) A (call (.builtin "list.append") [acc,x]) (fun _ Z=>∃m,m<n/\I m Z) (fun _ _=>False) J) (fun _ _=>False) G) (fun _ _=>False) L) (fun _ _=>False) Y) (fun _ _=>False) s)(n:Nat)(h:I n s):codeAny (model prog w) A (.compLoop (two elt tg iter tg2 iter2 scope pos) 1 it acc env) R s:=by
 refine codeAny_loop rfl I (fun n s N=>wpAny_noted (m:=compTurn (two elt tg iter tg2 iter2 scope pos) 1 it acc env) ?_) n h;rw[Bw];refine Zj (wpAny_standAt (Zj (Zl (turn n s N) (fun r Y M=>?_) fun _ _ z=>z.elim)))
 cases r with
 |none=>exact Zk M
 |some v=>
  exact Zj (Zl M (fun _ L D=>Zj (Zl D (fun _ G B=>Zj (Zj (Zl B (fun x J T=>Zj (Zl T
   (fun _ Z O=>Zk (Zk ⟨rfl,O⟩)) fun _ _ z=>z.elim)) fun _ _ z=>z.elim))) fun _ _ z=>z.elim)) fun _ _ z=>z.elim)
theorem NI(Z:codeAny (model prog w) A (.compLoop (two elt tg iter tg2 iter2 scope pos) 1 it acc env) R s)(h:wpAny (model prog w) A (pyIter it) (fun j Y=>codeAny (model prog w) A (.compLoop (two elt tg iter tg2 iter2 scope pos) 1 j acc env) R Y) (fun _ _=>False) s):
  codeAny (model prog w) A (.compStart (two elt tg iter tg2 iter2 scope pos) 1 it acc env) R s:=by
 refine codeAny_of_tree (wpAny_notedAt (m:=compStart (two elt tg iter tg2 iter2 scope pos) 1 it acc env) (pos:=theWindowsPlace) ?_);simp only[compStart];refine Zj (m:=ask) (wpAny_askSetting ?_)
 split
 .exact Zj (Zk (Zk ⟨rfl,Z⟩))
 .exact Zj (wpAny_rule (Zj (wpAny_standAt (Zj (Zl h (fun j Y J=>Zk ⟨rfl,J⟩) fun _ _ z=>z.elim)))))
theorem Ig(I:Nat->Shared->Prop)(turn:∀n s,I n s->wpAny (model prog w) A (pyNext it) (fun r Y=>match r with
   |none=>R (.ok .next) Y
   |some v=>wpAny (model prog w) A (letOwnedTupleGo tg it v) (fun _ M=>wpAny (model prog w) A (assign tg env v) (fun _ L=>wpAny (model prog w) A (eval iter2 env) (fun x G=>
     wpAny (model prog w) A (pyIter x) (fun j J=>codeAny (model prog w) (A.mark none) (.compStart (two elt tg iter tg2 iter2 scope pos) 1 j acc env) (fun r Z=>match r with|.ok _=>∃m,m<n/\I m Z|.error _=>False) J) (fun _ _=>False) G) (fun _ _=>False) L) (fun _ _=>False) M) (fun _ _=>False) Y) (fun _ _=>False) s)(T:∀x,foldedSetIterable iter2 env x=pure x)(n:Nat)(h:I n s):codeAny (model prog w) A (.compLoop (two elt tg iter tg2 iter2 scope pos) 0 it acc env) R s:=by
 refine codeAny_loop rfl I (fun n s B=>wpAny_noted (m:=compTurn (two elt tg iter tg2 iter2 scope pos) 0 it acc env) ?_) n h;rw[Bl];refine Zj (wpAny_standAt (Zj (Zl (turn n s B) (fun r Y O=>?_) fun _ _ z=>z.elim)))
 cases r with
 |none=>exact Zk O
 |some v=>
  refine Zj (Zl O (fun _ M S=>Zj (Zl S (fun _ L F=>Zj (Zl F (fun x G E=>Zj (wpAny_standAt ?_)) fun _ _ z=>z.elim)) fun _ _ z=>z.elim)) fun _ _ z=>z.elim);rw[T x];refine Zj (Zk (Zj (wpAny_holding (Zl E (fun j J D=>Zj (wpAny_runOwn (codeAny_mono D fun r Z N=>?_))) fun _ _ z=>z.elim))))
  cases r with
  |error e=>exact N.elim
  |ok f=>exact Zk ⟨rfl,N⟩
end
def In2(wi2:TI)(te:TE)(W:Nat->Nat->List V->Hp->Prop)(i m:Nat)(ys:List V):St->Hp->Prop:=fun U H=>wi2 U H fun J2 H3=>∃W2:Nat->Nat->List V->Hp->Prop,(∃m2,W2 0 m2 ys H3)/\∀j m2 zs H4,W2 j m2 zs H4->
 zs.length<sizeLine/\((J2.stop j H4/\∃m',m'<m/\W (i+1) m' zs H4) \/
  (J2.go j H4/\∀y H5,J2.yld j H4 y H5->te (U.set 1 (some y)) H5 fun v H6=>∃m2',m2'<m2/\W2 (j+1) m2' (zs++[v]) H6))
def DJ(J:It)(wi2:TI)(te:TE)(s0:St)(Q:VK)(H1:Hp):Prop:=∃W:Nat->Nat->List V->Hp->Prop,(∃m,W 0 m [] H1)/\∀i m ys H,W i m ys H->
 ys.length<sizeLine/\((J.stop i H/\∀p,H p=none->Q (.ref p) (upd H p (.lst ys))) \/
  (J.go i H/\∀x H',J.yld i H x H'->In2 wi2 te W i m ys (s0.set 0 (some x)) H'))
def Ff(ix:List Nat)(wi wi2:TI)(te:TE):TE:=fun U H Q=>wi U H fun J H1=>DJ J wi2 te (V3 2 ix U) Q H1
theorem QS(h:JG i x U H Q):JG i x U H fun σ2 Y=>Q σ2 Y/\σ2=U.set i (some x):=⟨h,rfl⟩
section
theorem CB.loop2(B:CB X [x1,x2] ix scope pins U (.Name x1 p1) R D C Y it tn J H2 s3)(hc:X.calm=true)(hg:∀R C Y s H,PG (VL X (Vi X [x1,x2] ix) scope R C Y s H) (.Name x1 p1) (JG 0))(I3:∀R C Y s H,PI (VL X (Vi X [x1,x2] ix) scope R C Y s H) (.Name x2 p2) iter2 wi2)(hg2:∀R C Y s H,PG (VL X (Vi X [x1,x2] ix) scope R C Y s H) (.Name x2 p2) (JG 1))(he:∀R C Y s H,PE (VL X (Vi X [x1,x2] ix) scope R C Y s H) elt te)(F8:∀env x,foldedSetIterable iter2 env x=pure x)(cw:DJ J wi2 te (V3 2 ix U) Q H2)(fin:∀y g ys,Inv X pins U (upd g D (.lst ys)) y->UD X pins (upd g D (.lst ys)) C->(∃m,y.heap.Ns C m)->Q (.ref D) (upd g D (.lst ys))->Rs (.ok .next) y)(I4:Inv (VL X (Vi X [x1,x2] ix) scope R C (D::Y) s3 H2) [] (V3 ([x1,x2]:List Str).length ix U) H2 s5)(F2:tn 0 s5.heap)(lD:s5.heap.PlainList D (List.toArray [])):
  codeAny (model X.prog X.w) X.A (.compLoop (two elt (.Name x1 p1) iter (.Name x2 p2) iter2 scope pos) 0 (.ref it) (.ref D) (compEnvC scope R C X.env)) Rs s5:=by
 have S2:GK ([x1,x2]:List Str).length (JG 0):=Vl (i:=0) (by simp);obtain⟨W,⟨m0,w0⟩,turn⟩:=cw;have T:=B.T;have F:=B.ok;have R3:=B.nfp
 let M:Cx:=VL X (Vi X [x1,x2] ix) scope R C (D::Y) s3 H2
 have N2:∀{O:Hp}{pl:List (Addr×Obj)},(∀p∈pl,p.1=D)->(∀b∈Y,O b=none)->∀b∈Y,UD M pl O b:=fun{O pl} L hn b Z=>
  ⟨hn b Z,(F.exf b (ZK _ Z)).1,F.exfs b (ZK _ Z),.inl (ZK _ Z),(F.exf b (ZK _ Z)).2,fun p S z=>R3 b Z (z ▸ L p (by
   have q:p∈([]:List (Addr×Obj))++ pl:=S;simpa using q))⟩
 have dX:D≠M.env.locals:=(F.exf D ZY).1;have dF:D∉M.fs:=F.exfs D ZY;refine Ig (fun n s'=>∃i ys G O,Inv M [] (V3 ([x1,x2]:List Str).length ix U) O s'/\tn i s'.heap/\(∀b∈Y,O b=none)/\O D=none/\s'.heap.PlainList D (List.toArray G)/\Vals ys G/\W i n ys O) ?_ (F8 _) m0
  ⟨0,[],[],H2,I4,F2,fun b Z=>(B.f2 b Z).1,B.fD.1,lD,.nil,w0⟩
 rintro n s5 ⟨i,ys,G,g,I5,N8,R8,d5,⟨nn,l5⟩,v5,w5⟩;obtain⟨hz,N0⟩:=turn i n ys g w5
 let w:Obj:={cls:=.type "list",data:=.seq G.toArray nn}
 have E:∀p∈ [((D,w):Addr×Obj)],p.1=D:=fun p L=>by
  have e:p=(D,w):=by simpa using L
  rw[e]
 have D3:Inv M [(D,w)] (V3 ([x1,x2]:List Str).length ix U) g s5:=I5.pins_of fun p L=>by
  have e:p=(D,w):=by simpa using L
  subst e;exact⟨l5,d5,dX,dF,fun v z=>nomatch z⟩
 rcases N0 with⟨stop,qn⟩|⟨go,step⟩
 .refine thn (T.done M rfl rfl rfl hc i _ s5 _ g _ D3 (N2 E R8) N8 stop) fun r y ⟨hr,I6⟩=>?_
  subst hr;obtain⟨z1,z2,z3,nD⟩:=B.stop I6 hz v5 rfl;exact fin y g ys z1 z2 z3 (qn D nD)
 .refine thn (T.item M rfl rfl rfl hc i _ s5 _ g _ D3 (N2 E R8) N8 go) fun r y ⟨u,hr,h6⟩=>?_
  subst hr;refine thn h6 fun _ N ⟨x,H7,I7,r7,y7,G3,fr7⟩=>?_;have I7':=I7.pinned (N2 E fr7) (T.obj _ _ G3);refine thn (hg R C (D::Y) s3 H2 _ N _ H7 x u _ I7' r7 (S2 _ _ _ _ (QS (Q:=In2 wi2 te W i n ys) (step x H7 y7)))) fun _ s8 ⟨σ8,H8,I8,q8,l8,k8⟩=>?_;have e8:σ8=(V3 ([x1,x2]:List Str).length ix U).set 0 (some x):=by exact q8.2
  replace q8:=q8.1;refine thn (I3 R C (D::Y) s3 H2 _ s8 σ8 H8 _ I8 q8) fun v9 s9 h9=>thn h9 fun jv I h10=>?_;obtain⟨F6,A,Z8,J2,N6,ej,N5,T2,f,N3,W2,⟨F5,F1⟩,a⟩:=h10;subst ej;rw[Around.mark_none];obtain⟨gD0,F4,_⟩:=N5.pin (D,w) (by simp);have R4:∀b∈A,b≠D:=fun b Z z=>(N3 b Z).2.2.2.2.2 (D,w) (by simp) z.symm
  have cut:∀{H9:Hp}{σ9:St}{s9:Shared}{more:List (Addr×Obj)},Inv M (([(D,w)]++ VS Y N.heap)++ more) σ9 H9 s9->Inv M (VS Y N.heap) σ9 H9 s9:=fun{H9 σ9 s9 more} I9=>
   I9.pins_of fun p L=>I9.pin p (ZQ _ (List.mem_append_left _ (ZQ _ L)))
  have L2:∀p∈M.pn++ VS Y N.heap,p.1≠D:=fun p L=>by
   have q:p∈([]:List (Addr×Obj))++ VS Y N.heap:=L;exact R3 _ (Xj (by simpa using q)).1
  have N1:∀{H9:Hp}{o9:Obj},(∀b∈A,H9 b=none)->∀b∈A,UD M ([(D,o9)]++ VS Y N.heap) H9 b:=fun{H9 o9} hn b Z=>by
   obtain⟨_,k1,k2,k3,k4,k5⟩:=N3 b Z;refine⟨hn b Z,k1,k2,k3,k4,fun p L=>?_⟩
   have S:p=(D,o9)\/p∈VS Y N.heap:=by
    have q:p∈([]:List (Addr×Obj))++ ([(D,o9)]++ VS Y N.heap):=L;simpa using q
   rcases S with rfl|S
   .exact (R4 b Z).symm
   .exact k5 p (by
     show p∈([]:List (Addr×Obj))++ ([(D,w)]++ VS Y N.heap);simp[S])
  let R2:Result->Shared->Prop:=fun r y=>match r with
   |.ok _=>∃m,m<n/\∃i ys G O,Inv M [] (V3 ([x1,x2]:List Str).length ix U) O y/\tn i y.heap/\(∀b∈Y,O b=none)/\O D=none/\y.heap.PlainList D (List.toArray G)/\Vals ys G/\W i m ys O
   |.error _=>False
  have inner:∀(sA:Shared),(Inv M (VS Y N.heap) σ8 N6 sA/\Z8 0 sA.heap/\sA.heap.PlainList D (List.toArray G))->codeAny (model X.prog X.w) X.A (.compLoop (two elt (.Name x1 p1) iter (.Name x2 p2) iter2 scope pos) 1 (.ref F6) (.ref D) (compEnvC scope R C X.env)) R2 sA:=fun sA hA=>by
   refine K0 (fun k s'=>∃j c P O,Inv M (VS Y N.heap) σ8 O s'/\Z8 j s'.heap/\(∀b∈A,O b=none)/\O D=none/\s'.heap.PlainList D (List.toArray P)/\Vals c P/\W2 j k c O) ?_ F5
    ⟨0,ys,G,N6,hA.1,hA.2.1,fun b Z=>(N3 b Z).1,F4,hA.2.2,v5,F1⟩
   rintro k sB ⟨j,c,P,HB,IB,N7,R7,dB,⟨nB,lB⟩,vB,wB⟩;obtain⟨F7,hcB⟩:=a j k c HB wB
   let h:Obj:={cls:=.type "list",data:=.seq P.toArray nB}
   have D0:Inv M ([(D,h)]++ VS Y N.heap) σ8 HB sB:=IB.pins_of fun p L=>by
    rcases ZV.mp L with here|there
    .have e:p=(D,h):=by simpa using here
     subst e;exact⟨lB,dB,dX,dF,fun v z=>nomatch z⟩
    .exact IB.pin p (ZQ _ there)
   rcases hcB with⟨Z9,m',I1,wO⟩|⟨go2,G1⟩
   .refine thn (T2.done M rfl rfl rfl hc j _ sB _ HB _ D0 (N1 R7) N7 Z9) fun r sC ⟨hr,IC⟩=>?_
    subst hr
    obtain⟨gC,nC,_⟩:=IC.pin (D,h) (by
     show(D,h)∈([]:List (Addr×Obj))++ ([(D,h)]++ VS Y N.heap);simp)
    have N4:Inv M (VS Y N.heap) σ8 HB sC:=IC.pins_of fun p L=>IC.pin p (ZQ _ (ZQ _ L));refine⟨m',I1,i+1,c,P,HB,?_,?_,?_,nC,⟨nB,gC⟩,vB,wO⟩
    .refine Inv.weak (N4.pins_of (pins':=[]) fun p L=>nomatch L) (by rw[l8]) fun j v hj=>?_
     by_cases hlt:j<([x1,x2]:List Str).length
     .unfold V3 at hj
      rw[List.getElem?_append_left (by simpa using hlt),List.getElem?_replicate,Zn hlt]at hj;cases hj
     .have e:σ8[j]?=(V3 ([x1,x2]:List Str).length ix U)[j]?:=by
       have q:=congrArg (fun l:List (Option V)=>l[j-([x1,x2]:List Str).length]?) k8;simp only[List.getElem?_drop]at q
       rwa [Nat.add_sub_cancel' (Nat.le_of_not_lt hlt)]at q
      rw[e];exact hj
    .exact T.keep _ _ _ G3 fun b Z o e=>(N4.pin (b,o) (ZQ _ (Vz Z e))).1
    .intro b Z
     obtain⟨o,e,d⟩:=T.obj _ _ G3 b Z;exact(N4.pin (b,o) (ZQ _ (Vz Z e))).2.1
   .refine thn (T2.item M rfl rfl rfl hc j _ sB _ HB _ D0 (N1 R7) N7 go2) fun r sC ⟨u2,hr,hC6⟩=>?_
    subst hr;refine thn hC6 fun _ sD ⟨y2,HD,ID,rD,yD,G2,frD⟩=>?_;have ID':=ID.pinned (N1 frD) (T2.obj _ _ G2);refine thn (hg2 R C (D::Y) s3 H2 _ sD _ HD y2 u2 _ ID' rD (QS (Q:=fun U H=>te U H fun v H6=>∃t,t<k/\W2 (j+1) t (c++[v]) H6) (G1 y2 HD yD))) fun _ sE ⟨σE,HE,IE,qE⟩=>?_;have eE:σE=σ8.set 1 (some y2):=by exact qE.2
    replace qE:=qE.1;refine thn (he R C (D::Y) s3 H2 _ sE σE HE _ IE qE) fun yv sF ⟨yy,HF,IF,rF,t,R5,wF⟩=>?_
    obtain⟨gD,nD,_⟩:=IF.pin (D,h) (by
     show(D,h)∈([]:List (Addr×Obj))++ (([(D,h)]++ VS Y N.heap)++ VS A sD.heap);simp)
    have R6:P.length=c.length:=vB.length.symm;refine wpAny_list_append_plain (l:=D) (items:=P.toArray) ⟨nB,gD⟩ (fun h' I2 F9=>?_) (by rw[ZM,R6];exact Zf F7);have kp:∀b o,b≠D->sF.heap.get? b=some o->h'.get? b=some o:=fun b o Z q=>(F9.2 b Z).trans q;have IF':Inv M (VS Y N.heap) σE HF sF:=IF.pins_of fun p L=>IF.pin p (ZQ _ (List.mem_append_left _ (ZQ _ L)));have IG:Inv M (VS Y N.heap) σE HF {sF with heap:=h',toks:=sF.toks}:=IF'.turned (it:=D) kp nD dX (.inl ZY) (F.exf D ZY).2 L2
    have T0:∀b∈A,∀o,sD.heap.get? b=some o->sF.heap.get? b=some o/\HF b=none:=fun b Z o q=>by
     have z:=IF.pin (b,o) (ZQ _ (ZQ _ (Vz Z q)));exact⟨z.1,z.2.1⟩
    refine⟨t,R5,j+1,c++[yy],P++[yv],HF,?_,?_,?_,nD,?_,vB.append (.cons rF .nil),wF⟩
    .refine Inv.weak IG (by rw[eE,List.length_set]) fun q v hq=>?_
     rw[eE]
     have F3:q≠1:=fun z=>by
      subst z;rw[e8]at hq;simp[V3,List.getElem?_append]at hq
     rw[List.getElem?_set_ne (Zq F3)];exact hq
    .exact T2.keep _ _ _ G2 fun b Z o q=>kp b o (R4 b Z) (T0 b Z o q).1
    .intro b Z
     obtain⟨o,q,_⟩:=T2.obj _ _ G2 b Z;exact(T0 b Z o q).2
    .have e:(P++[yv]).toArray=P.toArray.push yv:=by simp
     rw[e];exact I2
  have R1:Inv M (VS Y N.heap) σ8 N6 I/\Z8 0 I.heap/\I.heap.PlainList D (List.toArray G):=⟨N5.pins_of fun p L=>N5.pin p (ZQ _ (ZQ _ L)),f,⟨nn,gD0⟩⟩;exact NI (inner I R1) (T2.self _ 0 _ _ _ f (inner I R1))
theorem V6(own:List Str)(Z:List Nat)(hi:PI X tg iter wi)(O:GK own.length g)(P:∀L C G s H,PG (VL X (Vi X own Z) scope L C G s H) tg g)(he:∀L C G s H,PE (VL X (Vi X own Z) scope L C G s H) elt te)(j:X.calm=true:=by rfl)(Y:scope.kind=.function:=by rfl)(N:UX scope X.env.scope.names X.N Z=true:=by rfl)(S:∀x,foldedSetIterable iter X.env x=pure x:=by intro _;rfl):
  PE X (.ListComp elt [⟨tg,iter,[],0⟩] scope pos) (S1 own.length Z wi g te):=by
 intro R s U H Q I h;rw[eval_ListComp];exact XO own Z hi Y N S I h fun L D C G d m J u c p B y z M A=>B.loop1 j O P he y (fun k f t F E T q=>B1 F E T q) z M A
theorem L7(own:List Str)(Z:List Nat)(hi:PI X tg iter wi)(O:GK own.length g)(j:∀L C G s H,PG (VL X (Vi X own Z) scope L C G s H) tg g)(R:∀L C G s H,PT (VL X (Vi X own Z) scope L C G s H) ct tc)(he:∀L C G s H,PE (VL X (Vi X own Z) scope L C G s H) elt te)(y:X.calm=true:=by rfl)(Y:scope.kind=.function:=by rfl)(N:UX scope X.env.scope.names X.N Z=true:=by rfl)(P:∀x,foldedSetIterable iter X.env x=pure x:=by intro _;rfl):
  PE X (.ListComp elt [⟨tg,iter,[ct],0⟩] scope pos) (Fe own.length Z wi g tc te):=by
 intro T s U H Q I h;rw[eval_ListComp];exact XO own Z hi Y N P I h fun L D C G f k J v d c B z t M S=>B.loopI y O j R he z (fun p u m A F E q=>B1 A F E q) t M S
theorem Ga(own:List Str)(Z:List Nat)(k:X.N.Nodup)(T:X.N[i0]?=some x0)(N:Loc X.env.scope x0)(hi:PI X tg iter wi)(E:GK own.length g)(z:∀L C G s H,PG (VL X (Vi X own Z) scope L C G s H) tg g)(F:∀L C G s H,PT (VL X (Vi X own Z) scope L C G s H) ct tc)(he:∀L C G s H,PE (VL X (Vi X own Z) scope L C G s H) elt te)(m:X.calm=true:=by rfl)(Y:scope.kind=.function:=by rfl)(R:UX scope X.env.scope.names X.N Z=true:=by rfl)(O:swapsWith (.ListComp elt [⟨tg,iter,[ct],0⟩] scope pos) (some (.Name x0 py)) spos.line X.env=pure true:=by rfl)(t:X.fn x0=true\/X.env.scope.names.lookup x0=some .local:=by first|exact .inl rfl|exact .inr rfl|assumption)(y:∀x,foldedSetIterable iter X.env x=pure x:=by intro _;rfl):
  PS X (.Assign [.Name x0 py] (.ListComp elt [⟨tg,iter,[ct],0⟩] scope pos) spos) (EY (Fe own.length Z wi g tc te) (JG i0)):=by
 intro A s U H e I h;exact Dt O (XO own Z hi Y R y I h fun L D C G r f J b w v B p c M j=>B.loopI m E z F he p (fun u l d Q P S q=>LH k T N t Q P S q) c M j)
theorem L8(G:List Nat)(hi:PI X (.Name x1 p1) iter wi)(y:∀Z C Y s H,PG (VL X (Vi X [x1,x2] G) scope Z C Y s H) (.Name x1 p1) (JG 0))(R:∀Z C Y s H,PI (VL X (Vi X [x1,x2] G) scope Z C Y s H) (.Name x2 p2) iter2 wi2)(T:∀Z C Y s H,PG (VL X (Vi X [x1,x2] G) scope Z C Y s H) (.Name x2 p2) (JG 1))(he:∀Z C Y s H,PE (VL X (Vi X [x1,x2] G) scope Z C Y s H) elt te)(z:X.calm=true:=by rfl)(L:scope.kind=.function:=by rfl)(O:UX scope X.env.scope.names X.N G=true:=by rfl)(j:∀x,foldedSetIterable iter X.env x=pure x:=by intro _;rfl)(N:∀env x,foldedSetIterable iter2 env x=pure x:=by intro _ _;rfl):
  PE X (.ListComp elt [⟨.Name x1 p1,iter,[],0⟩,⟨.Name x2 p2,iter2,[],0⟩] scope pos) (Ff G wi wi2 te):=by
 intro E s U H Q I h;rw[eval_ListComp];exact XO [x1,x2] G hi L O j I h fun Z D C Y f k J v d c B t m M P=>B.loop2 z y R T he N t (fun p u g S A F q=>B1 S A F q) m M P
theorem L3(G:List Nat)(k:X.N.Nodup)(F:X.N[i0]?=some x0)(N:Loc X.env.scope x0)(hi:PI X (.Name x1 p1) iter wi)(t:∀Z C Y s H,PG (VL X (Vi X [x1,x2] G) scope Z C Y s H) (.Name x1 p1) (JG 0))(E:∀Z C Y s H,PI (VL X (Vi X [x1,x2] G) scope Z C Y s H) (.Name x2 p2) iter2 wi2)(A:∀Z C Y s H,PG (VL X (Vi X [x1,x2] G) scope Z C Y s H) (.Name x2 p2) (JG 1))(he:∀Z C Y s H,PE (VL X (Vi X [x1,x2] G) scope Z C Y s H) elt te)(g:X.calm=true:=by rfl)(L:scope.kind=.function:=by rfl)(T:UX scope X.env.scope.names X.N G=true:=by rfl)(O:swapsWith (.ListComp elt [⟨.Name x1 p1,iter,[],0⟩,⟨.Name x2 p2,iter2,[],0⟩] scope pos) (some (.Name x0 py)) spos.line X.env=pure true:=by rfl)(m:X.fn x0=true\/X.env.scope.names.lookup x0=some .local:=by first|exact .inl rfl|exact .inr rfl|assumption)(z:∀x,foldedSetIterable iter X.env x=pure x:=by intro _;rfl)(R:∀env x,foldedSetIterable iter2 env x=pure x:=by intro _ _;rfl):
  PS X (.Assign [.Name x0 py] (.ListComp elt [⟨.Name x1 p1,iter,[],0⟩,⟨.Name x2 p2,iter2,[],0⟩] scope pos) spos) (EY (Ff G wi wi2 te) (JG i0)):=by
 intro S s U H e I h;exact Dt O (XO [x1,x2] G hi L T z I h fun Z D C Y r f J b w v B p c M y=>B.loop2 g t E A he R p (fun u l d j Q P q=>LH k F N m j Q P q) c M y)
end
theorem Tz(n:Nat)(G:Nat->List V->Hp->Prop)(q:G 0 [] H)(N:∀i vs H,G i vs H->vs.length<sizeLine)(D:∀i vs H,i<n->G i vs H->J.go i H)(L:∀vs H,G n vs H->J.stop n H)(U:∀i vs H x H' (R:List V->Hp->Prop),i<n->G i vs H->J.yld i H x H'->(∀Z T,G (i+1) Z T->R Z T)->wi2 (s0.set 0 (some x)) H' fun A T=>∃F:Nat->Nat->List V->Hp->Prop,(∃B,F 0 B vs T)/\∀j B Z O,F j B Z O->
   Z.length<sizeLine/\((A.stop j O/\R Z O)\/(A.go j O/\∀y I,A.yld j O y I->te ((s0.set 0 (some x)).set 1 (some y)) I fun v t=>∃M,M<B/\F (j+1) M (Z++[v]) t)))(X:∀vs H p,G n vs H->H p=none->Q (.ref p) (upd H p (.lst vs))):DJ J wi2 te s0 Q H:=by
 refine⟨fun i m vs H=>m=n-i/\i<=n/\G i vs H,⟨n,by simp,Za _,q⟩,fun i m vs H z=>?_⟩;obtain⟨rfl,C,p⟩:=z;refine⟨N i vs H p,?_⟩;rcases Nat.lt_or_ge i n with Y|E
 .exact .inr ⟨D i vs H Y p,fun x H' y=>U i vs H x H' _ Y p y fun Z T S=>⟨n-(i+1),by exact RB Y,rfl,Y,S⟩⟩
 .have e:i=n:=by exact Q4 C E
  subst e;exact .inl ⟨L vs H p,fun b P=>X vs H b p P⟩
theorem NJ{L:It}{S:TE}{U:St}{R:List V->Hp->Prop}(n:Nat)(J:Nat->List V->Hp->Prop)(t:J 0 ys H3)(N:∀j Y H,J j Y H->Y.length<sizeLine)(F:∀j Y H,j<n->J j Y H->L.go j H)(G:∀Y H,J n Y H->L.stop n H)(P:∀j Y H y H' (T:V->Hp->Prop),j<n->J j Y H->L.yld j H y H'->(∀v O,J (j+1) (Y++[v]) O->T v O)->S (U.set 1 (some y)) H' T)(q:∀Y H,J n Y H->R Y H):
  ∃I:Nat->Nat->List V->Hp->Prop,(∃D,I 0 D ys H3)/\∀j D Y B,I j D Y B->
   Y.length<sizeLine/\((L.stop j B/\R Y B)\/(L.go j B/\∀y E,L.yld j B y E->S (U.set 1 (some y)) E fun v O=>∃M,M<D/\I (j+1) M (Y++[v]) O)):=by
 refine⟨fun j m Y H=>m=n-j/\j<=n/\J j Y H,⟨n,by simp,Za _,t⟩,fun j m Y H z=>?_⟩;obtain⟨rfl,Q,p⟩:=z;refine⟨N j Y H p,?_⟩;rcases Nat.lt_or_ge j n with Z|A
 .exact .inr ⟨F j Y H Z p,fun y E C=>P j Y H y E _ Z p C fun v O X=>⟨n-(j+1),by exact RB Z,rfl,Z,X⟩⟩
 .have e:j=n:=by exact Q4 Q A
  subst e;exact .inl ⟨G Y H p,q Y H p⟩
end L2
namespace L2
open PySem PySem.Spec PyProof.Rows
section
def Qt(K:W.Frag):List V->Hp->VK->Prop:=fun xs H Q=>∃x T t b,xs=[x,.ty T]/\X4 K H x t/\W.kitOne K t (.type T)=some b/\Q (.bl b) H
theorem LS:Jb X (.builtin "isinstance") (Qt X.K):=by
 intro Z s U H G M Q I r h;obtain⟨x,T,t,b,rfl,ty,e,q⟩:=h;obtain⟨u,L,rfl,J,Y⟩:=vals2 r;cases Y;exact E6 I J ty e fun N=>⟨.bl b,H,I.tok _,rfl,q⟩
theorem RF:∀{ys:List Str}{us:List Value},Vals (ys.map V.str) us->StrsAre us ys
 |[],_,r=>by cases r;exact .nil
 |y::ys,_,r=>by
  cases r with
  |cons h t=>
   obtain⟨Y,e⟩:=h;subst e;exact .cons _ _ (RF t)
def rJoin(K:W.Frag):V->List V->Hp->VK->Prop:=fun x vs H Q=>∃z p ys,x=.str z/\vs=[.ref p]/\SqL K H p (ys.map V.str)/\(ys.map (·.length)).sum+ys.length*z.length<=16777216/\Q (.str (Txt.join z ys)) H
theorem On:MtR X "str.join" (rJoin X.K):=by
 intro Y s U H x T v B Q I Z J h;obtain⟨z,p,R,rfl,rfl,O,N,q⟩:=h;obtain⟨t,rfl⟩:=Z;obtain⟨u,rfl,G⟩:=vals1 J;cases G;obtain⟨M,r,L,E⟩:=I.list O;exact join_list L.isList (by simpa using RF r) N fun D k=>⟨.str _,H,I.tok _,⟨_,rfl⟩,q⟩
def Qu:V->List V->Hp->VK->Prop:=fun x vs H Q=>∃z y i rest,x=.str z/\vs=[.str y]/\Builtin.Str.occurrences z y 0 z.length 1=i::rest/\Q (.int (i:Nat)) H
theorem Ku:MtR X "str.index" Qu:=by
 intro Y s U H x L v M Q I Z J h;obtain⟨z,y,i,rest,rfl,rfl,G,q⟩:=h;obtain⟨t,rfl⟩:=Z;obtain⟨u,rfl,N,rfl⟩:=vals1 J;exact SC.index G ⟨.int _,H,I.tok _,⟨_,rfl⟩,q⟩
def zp:V->Option Int->Option Int->Hp->VK->Prop:=fun x lo hi H Q=>∃z,x=.str z/\z.length<=sizeLine/\Q (.str (Txt.slice z lo hi)) H
theorem G8:SlR X zp:=by
 intro Z s U H x v m y D S sl Q I T A B R h;obtain⟨z,rfl,E,q⟩:=h;obtain⟨t,rfl⟩:=T;refine⟨"str",_,F.slot_str_getitem.lookup,typeIs_str _ _ _,?_⟩
 have Y:∀(l u:Option (Int×Tok)),l.map (·.1)=D->u.map (·.1)=S->s.heap.IsSlice sl l u none->wpAny (model X.prog X.w) X.A (getItem (.str z t) (.ref sl)) (EP X Z U Q) X.xe s:=fun l u P C N=>by
  subst P;subst C;exact wpAny_getItem_str_slice N rfl (post_val_or_str ⟨ZZ (Txt.slice_le z (l.map (·.1)) (u.map (·.1))) E,fun g k=>⟨.str _,H,I.tok _,⟨_,rfl⟩,q⟩⟩)
 obtain⟨o,L,G,J⟩:=A
 cases B with
 |none=>
  cases R with
  |none=>exact Y none none rfl rfl ⟨o,L,G,J⟩
  |int j M=>exact Y none (some (j,M)) rfl rfl ⟨o,L,G,J⟩
 |int i O=>
  cases R with
  |none=>exact Y (some (i,O)) none rfl rfl ⟨o,L,G,J⟩
  |int j M=>exact Y (some (i,O)) (some (j,M)) rfl rfl ⟨o,L,G,J⟩
theorem Wq:∀{bs:List Bool}{us:List Value},Vals (bs.map V.bl) us->∀(i:Nat)(v:Value),us[i]?=some v->∃b,bs[i]?=some b/\v=.bool b
 |[],_,r,i,v,e=>by cases r;simp at e
 |b::bs,_,r,i,v,e=>by
  cases r with
  |cons h t=>
   cases i with
   |zero=>
    have Y:some _=some v:=e;cases Y;exact⟨b,rfl,h⟩
   |succ j=>exact Wq t j v e
theorem all_range:∀(bs:List Bool),((List.range bs.length).all fun i=>(bs[i]?).getD true)=bs.all id:=fun bs=>by
 have e:((List.range bs.length).map fun i=>(bs[i]?).getD true)=bs:=List.ext_getElem (by simp) fun i Z Y=>by simp[Y]
 have z:=List.all_map (l:=List.range bs.length) (f:=fun i=>(bs[i]?).getD true) (p:=id);rw[e]at z;exact z.symm
theorem T3(T:X.calm=true):Jb X (.builtin "all") (fun xs H Q=>∃(p:Addr)(bs:List Bool),xs=[.ref p]/\SqL X.K H p (bs.map V.bl)/\Q (.bl (bs.all id)) H):=by
 intro L s U H xs E Q I r h;obtain⟨p,bs,rfl,N,q⟩:=h;obtain⟨u,rfl,M⟩:=vals1 r;cases M;obtain⟨Y,G,J,F⟩:=I.list N
 have O:p<s.heap.objs.size:=by
  obtain⟨o,n,e,_⟩:=J;exact ZN e
 have Z:Y.length=bs.length:=by
  have:=G.length;rw[ZA]at this;exact this.symm
 refine call_all_walk (wpAny_pyIter_list J.isList ?_);refine⟨s.heap.objs.size,_,_,Y.toArray.size,_,_,fun i=>(bs[i]?).getD true,rfl,Walks.list (A:=X.A.in1) (I.ok.hd T) _ p (Zc O) Y.toArray,?_,?_,?_⟩
 .exact ⟨⟨_,ZW _ rfl,rfl,rfl⟩,J.isList.push _⟩
 .intro i v s' Q' E' hP hQ
  obtain⟨b,e,rfl⟩:=Wq G i v (by simpa using hP);have B:(bs[i]?).getD true=b:=by rw[e];rfl
  exact wpAny_truthy_bool (B ▸ hQ)
 .intro h' tk hk
  rw[ZM,Z,all_range];refine⟨.bl (bs.all id),H,I.kept fun b o e=>hk b o (fun R=>?_) (ZD _ e),rfl,q⟩;have D:b=s.heap.objs.size:=by simpa using R
  rw[D]at e;exact Nat.lt_irrefl _ (ZN e)
theorem U4:∀{xs:List V}{us:List Value},xs.length=us.length->(∀(j:Nat)(x:V)(u:Value),xs[j]?=some x->us[j]?=some u->RelV x u)->Vals xs us
 |[],[],_,_=>.nil
 |[],_::_,h,_=>Zp h (by simp)
 |_::_,[],h,_=>Zp h (by simp)
 |x::xs,u::us,h,hr=>.cons (hr 0 x u rfl rfl) (U4 (by simpa using h) fun j a b Z Y=>hr (j+1) a b Z Y)
theorem XQ(w:X.calm=true):Jb X (.type "list") (fun xs H Q=>∃a kvs,xs=[.ref a]/\H a=some (.dK kvs)/\∀l,H l=none->Q (.ref l) (upd H l (.lst (kvs.map fun Y=>kV Y.1)))):=by
 intro F s U H xs us Q I r h;obtain⟨a,kvs,rfl,b,q⟩:=h;obtain⟨u,rfl,C⟩:=vals1 r;cases C;obtain⟨A,P,D,E,v⟩:=LO I.hok b;obtain⟨ep,O⟩:=v.dictAt;have Z:=E.length;refine W.kdl_call (W.kdl_dict (knd:=VC X.prog X.w) (kvs:=D) (ep:=ep) P) (I.ok.hd w) O (by rw[<-Z];exact A) fun h' tk B c f d G=>?_;refine⟨.ref s.heap.objs.size,_,I.laid (o:=.lst (kvs.map fun Y=>kV Y.1)) f (ZF _) ⟨by rw[ZA];exact A,B.toList,c,?_,by rw[Array.toArray_toList];exact d⟩,rfl,q _ (I.hok.fresh (ZF _))⟩;obtain⟨p,g⟩:=G;refine U4 (by simp[p,Z]) fun j x u L n=>?_;obtain⟨k,y,m,N⟩:=g j u (by rw[<-Array.getElem?_toList];exact n);rw[ZG]at L
 cases hkv:kvs[j]? with
 |none=>rw[hkv]at L;cases L
 |some Y=>
  rw[hkv]at L;cases L;have J:=E.keys;have S:(kvs.map (·.1))[j]?=(D.map (·.1))[j]?:=by rw[J]
  rw[ZG,ZG,hkv,m]at S;have e:Y.1=k:=ZP S;have M:JY Y.1 u=true:=by rw[e];exact N
  rcases VX M with⟨i,t,T,R⟩|⟨z,t,T,R⟩
  .show RelV (kV Y.1) u
   rw[T,R];exact⟨t,rfl⟩
  .show RelV (kV Y.1) u
   rw[T,R];exact⟨t,rfl⟩
end
def SI(tp:Bool)(h:Heap)(i l:Addr)(k:Nat)(xs:Array Value):Prop:=match tp with
 |false=>h.IsListIter i l k/\h.IsList l xs
 |true=>h.IsTupleIter i l k/\h.IsTuple l xs
theorem SI.to(z:SI tp h i l k xs)(Y:∀b o,(b=i\/b=l)->h.get? b=some o->h'.get? b=some o):SI tp h' i l k xs:=by
 cases tp with
 |false=>exact⟨let⟨o,e,r⟩:=z.1;⟨o,Y _ _ (.inl rfl) e,r⟩,let⟨o,e,r⟩:=z.2;⟨o,Y _ _ (.inr rfl) e,r⟩⟩
 |true=>exact⟨let⟨o,e,r⟩:=z.1;⟨o,Y _ _ (.inl rfl) e,r⟩,let⟨o,e,r⟩:=z.2;⟨o,Y _ _ (.inr rfl) e,r⟩⟩
theorem SI.but(z:SI tp h i l k xs)(e:Heap.ExtBut b h h')(J:i≠b)(Z:l≠b):SI tp h' i l k xs:=
 z.to fun c o Y q=>e c o (by rcases Y with Y|Y <;> rw[Y] <;> assumption) q
theorem DV{a b:Sem α}{Q:α->Shared->Prop}(Y:c=false)(h:wpAny M A b Q E s):wpAny M A (if c=true then a else b) Q E s:=by
 subst Y
 rwa [Zo (by decide)]
section
theorem GO(z:SI tp s.heap i l k xs)(R:l≠i)(hx:xs[k]?=some x)(T:∀g,SI tp g i l (k+1) xs->Heap.SameBut i s.heap g->Q x {s with heap:=g}):wpAny (model prog w) A (Builtin.SmallTypes.nextOf (.ref i)) Q E s:=by
 cases tp with
 |false=>exact wpAny_nextOf_list_item z.1 z.2 hx fun g a O=>T g ⟨a,z.2.extBut O.extBut R⟩ O
 |true=>
  obtain⟨J,M⟩:=z;obtain⟨I,Z,L,Y⟩:=id J;obtain⟨D,G,_,S,B⟩:=id M;have N:=F.slot_tuple_iterator_next;simp only[Builtin.SmallTypes.nextOf];refine Zj (wpAny_callSpecial?_slot (name:=Str.ofString "__next__") J.typeIs N (wpAny_call_entry N J.typeIs F.entry_tuple_iterator_next ?_ (F.args_tuple_iterator_next_1 _)));refine Zj (m:=field (.ref i) 0) (Zm Z Y (x:=.ref l) rfl (DV (c:=Value.ref l==.none) rfl ?_));refine Zj (m:=field (.ref i) 1) (Zm Z Y (x:=.int k 0) rfl (Zj (m:=seqItems? (.ref l)) (wpAny_seqItems G B ?_)));simp only[hx,Int.toNat_natCast];refine Zj (wpAny_setField Z Y (by simp) (Zk ⟨x,rfl,Zk (T _ ⟨?_,?_⟩ (Heap.SameBut.update ..))⟩))
  .refine ⟨_,Heap.get?_update_self _ Z (Obj.isFreed_of_fields (Obj.data_mapFields Y _)),(Obj.cls_mapFields ..).trans L,?_⟩
   rw[Obj.data_mapFields Y];simp[rawInt]
  .exact M.extBut (Heap.SameBut.update ..).extBut R
theorem Nv(M:A.handled=none)(z:SI tp s.heap i l k xs)(hx:xs[k]?=none)(N:∀g e,Heap.ExtBut i s.heap g->(∃o,g.get? e=some o/\o.cls=.type "StopIteration")->E (.ref e) {s with heap:=g}):wpAny (model prog w) A (Builtin.SmallTypes.nextOf (.ref i)) Q E s:=by
 cases tp with
 |false=>exact wpAny_nextOf_list_end M z.1 z.2 hx N
 |true=>
  obtain⟨J,O⟩:=z;obtain⟨I,Y,B,Z⟩:=id J;obtain⟨D,G,_,S,T⟩:=id O;have L:=F.slot_tuple_iterator_next;simp only[Builtin.SmallTypes.nextOf];refine Zj (wpAny_callSpecial?_slot (name:=Str.ofString "__next__") J.typeIs L (wpAny_call_entry L J.typeIs F.entry_tuple_iterator_next ?_ (F.args_tuple_iterator_next_1 _)));refine Zj (m:=field (.ref i) 0) (Zm Y Z (x:=.ref l) rfl (DV (c:=Value.ref l==.none) rfl ?_));refine Zj (m:=field (.ref i) 1) (Zm Y Z (x:=.int k 0) rfl (Zj (m:=seqItems? (.ref l)) (wpAny_seqItems G T ?_)));simp only[hx,Int.toNat_natCast];refine Zj (wpAny_rule (Zj (wpAny_setField Y Z (by simp) ?_)));refine Zj (m:=newExc (.type "StopIteration") []) ?_;simp only[newExc,newTuple];refine Zj (wpAny_newObj_type (Zj (m:=firstArgMember _ _) (wpAny_of_eq (a:=.none) (by simp only[firstArgMember];rfl) (wpAny_newObj_type ?_ (by size_fits)))) (by size_fits));have R:A.in1.handled=none:=M;simp only[raiseNew];refine Zj (wpAny_handled (?_));rw[R];exact Zj (Zk (wpAny_throw (N _ _ (((Heap.SameBut.update ..).extBut.push _).push _) ⟨_,ZW _ rfl,rfl⟩)))
structure ZS(h:Heap)(z TI TO:Addr)(f0:Value)(t1:Bool)(i1 l1:Addr)(xs:Array Value)(t2:Bool)(i2 l2:Addr)(ys:Array Value)(k:Nat):Prop where
 zip:IsZip h z TI TO f0
 its:IsPair h TI (.ref i1) (.ref i2)
 out:∃a b,IsPair h TO a b
 one:SI t1 h i1 l1 k xs
 two:SI t2 h i2 l2 k ys
theorem LZ{z TI TO J Z P l2:Addr}(D:ZipApart z TI TO J Z P l2)(S:ZS s.heap z TI TO .none t1 J P xs t2 Z l2 ys k)(hx:xs[k]?=some x)(hy:ys[k]?=some y)(hQ:∀g,ZS g z TI TO (rawInt s.heap.objs.size) t1 J P xs t2 Z l2 ys (k+1)->IsPair g s.heap.objs.size x y->g.objs.size=s.heap.objs.size+1->
   (∀c o,c≠z->c≠TO->c≠J->c≠Z->s.heap.get? c=some o->g.get? c=some o)->Q (some (.ref s.heap.objs.size)) {s with heap:=g}):wpAny (model prog w) A (pyNext (.ref z)) Q E s:=by
 have hT:s.TypeIs (.ref z) "zip":=⟨_,S.zip,rfl⟩;obtain⟨a,b,So⟩:=S.out;simp only[pyNext];refine Zj (wpAny_attempt (wpAny_callSpecial?_slot (name:=Str.ofString "__next__") hT F.slot_zip_next (wpAny_call_entry F.slot_zip_next hT F.entry_zip_next ?_ (F.args_zip_next_1 _))));refine Zj (m:=field (.ref z) 2) (Zm S.zip rfl (x:=.bool false) rfl (Zj (m:=field (.ref z) 3) (Zm S.zip rfl (x:=.ref TI) rfl (Zj (wpAny_seqItems S.its rfl ?_)))));refine Zj (m:=Builtin.SmallTypes.ownedTupleIsFree (.ref z)) (Zj (m:=field (.ref z) 0) (Zm S.zip rfl (x:=.none) rfl (Zk ?_)));simp only[if_true];refine Zj (wpAny_rule (Zj (Zm S.zip rfl (x:=.ref TO) rfl (Zj (wpAny_setField_rec S.zip (by simp) fun g1 p I=>Zj ?_)))));replace p:IsZip g1 z TI TO .ellipsis:=p;simp only[List.forIn_cons,List.forIn_nil,List.zipIdx_cons,List.zipIdx_nil];refine Zj (Zj (wpAny_onRaise (?_:wpAny _ _ (Builtin.SmallTypes.nextOf (.ref J) >>=_) _ _ _)));refine Zj (GO (S.one.but I.extBut D.i1z D.l1z) D.l1i1 hx fun g2 a2 B=>Zk ?_);have o2:IsPair g2 TO a b:=B.extBut _ _ D.TOi1 (I.extBut _ _ D.TOz So);refine Zj (wpAny_seqItems o2 rfl ?_);refine Zj (wpAny_updateSeq_pair o2 fun g3 u T=>?_);replace u:IsPair g3 TO x b:=u;refine Zj (wpAny_letGo (Zk (Zj (Zj (wpAny_onRaise (?_:wpAny _ _ (Builtin.SmallTypes.nextOf (.ref Z) >>=_) _ _ _))))));have b3:SI t2 g3 Z l2 k ys:=((S.two.but I.extBut D.i2z D.l2z).but B.extBut D.i12.symm D.l2i1).but T.extBut D.TOi2.symm D.l2TO;refine Zj (GO b3 D.l2i2 hy fun g4 b4 R=>Zk ?_);have o4:IsPair g4 TO x b:=R.extBut _ _ D.TOi2 u;refine Zj (wpAny_seqItems o4 rfl ?_);refine Zj (wpAny_updateSeq_pair o4 fun Y X O=>?_);replace X:IsPair Y TO x y:=X;refine Zj (wpAny_letGo (Zk (Zk (Zj (wpAny_seqItems X rfl (Zj (wpAny_newTuple ?_)))))));have n:Y.objs.size=s.heap.objs.size:=by rw[O.1,R.1,T.1,B.1,I.1]
 have i:IsZip Y z TI TO .ellipsis:=O.extBut _ _ D.TOz.symm (R.extBut _ _ D.i2z.symm (T.extBut _ _ D.TOz.symm (B.extBut _ _ D.i1z.symm p)))
 have k5:∀c o,c≠z->c≠TO->c≠J->c≠Z->s.heap.get? c=some o->Y.get? c=some o:=fun c o G j l r e=>
  O.extBut _ _ j (R.extBut _ _ r (T.extBut _ _ j (B.extBut _ _ l (I.extBut _ _ G e))))
 have a5:SI t1 Y J P (k+1) xs:=((a2.but T.extBut D.TOi1.symm D.l1TO).but R.extBut D.i12 D.l1i2).but O.extBut D.TOi1.symm D.l1TO;have b5:SI t2 Y Z l2 (k+1) ys:=b4.but O.extBut D.TOi2.symm D.l2TO;have L:z<Y.objs.size:=ZN i;show wpAny _ _ (Builtin.SmallTypes.ownedTupleHandOut (.ref z) (.ref Y.objs.size) >>=_) _ _ _;refine Zj ?_;simp only[Builtin.SmallTypes.ownedTupleHandOut];have z6:IsZip (Y.push {cls:=.type "tuple",data:=.seq #[x,y]}) z TI TO .ellipsis:=ZD _ i;refine Zj (wpAny_setField_rec z6 (by simp) fun g7 t f=>?_);replace t:IsZip g7 z TI TO (rawInt Y.objs.size):=t;refine wpAny_setField_rec t (by simp) fun U C d=>?_;replace C:IsZip U z TI TO (rawInt Y.objs.size):=C;have M:∀c o,c≠z->Y.get? c=some o->U.get? c=some o:=fun c o G e=>d.extBut _ _ G (f.extBut _ _ G (ZD _ e));have h:IsPair U Y.objs.size x y:=d.extBut _ _ (Nat.ne_of_gt L) (f.extBut _ _ (Nat.ne_of_gt L) (ZW _ rfl));have N:U.objs.size=Y.objs.size+1:=by rw[d.1,f.1,Heap.size_push]
 rw[n]at C h N;refine Zk ⟨_,rfl,Zk ?_⟩;show Q (some (.ref Y.objs.size)) _;rw[n];refine hQ U ⟨C,M _ _ D.TIz (k5 _ _ D.TIz D.TITO D.TIi1 D.TIi2 S.its),⟨_,_,M _ _ D.TOz X⟩,?_,?_⟩ h N fun c o G j l r e=>M c o G (k5 c o G j l r e)
 .exact a5.to fun c o v e=>M c o (v.elim (fun q=>q ▸ D.i1z) fun q=>q ▸ D.l1z) e
 .exact b5.to fun c o v e=>M c o (v.elim (fun q=>q ▸ D.i2z) fun q=>q ▸ D.l2z) e
theorem QT{z TI TO N M f l2:Addr}(u:A.handled=none)(D:ZipApart z TI TO N M f l2)(S:ZS s.heap z TI TO .none t1 N f xs t2 M l2 ys k)(O:xs[k]?=none\/ys[k]?=none)(hQ:∀g,(∀c o,c≠z->c≠TO->c≠N->c≠M->s.heap.get? c=some o->g.get? c=some o)->Q none {s with heap:=g}):wpAny (model prog w) A (pyNext (.ref z)) Q E s:=by
 have v:s.TypeIs (.ref z) "zip":=⟨_,S.zip,rfl⟩;obtain⟨a,b,So⟩:=S.out;have stop:∀(g:Heap)(e:Addr),(∀c o,c≠z->c≠TO->c≠N->c≠M->s.heap.get? c=some o->g.get? c=some o)->(∃o,g.get? e=some o/\o.cls=.type "StopIteration")->
   wpAny (model prog w) A (do if(<-isInstance (.ref e) (.type "StopIteration"))then pure none else throw (.ref e):Sem (Option Value)) Q E {s with heap:=g}:=fun g e i ⟨o,n,hc⟩=>
  Zj (wpAny_isInstance (T:="StopIteration") (b:=true) ⟨o,n,hc⟩ isSubtype_stop (Zk (hQ g i)))
 simp only[pyNext];refine Zj (wpAny_attempt (wpAny_callSpecial?_slot (name:=Str.ofString "__next__") v F.slot_zip_next (wpAny_call_entry F.slot_zip_next v F.entry_zip_next ?_ (F.args_zip_next_1 _))));refine Zj (m:=field (.ref z) 2) (Zm S.zip rfl (x:=.bool false) rfl (Zj (m:=field (.ref z) 3) (Zm S.zip rfl (x:=.ref TI) rfl (Zj (wpAny_seqItems S.its rfl ?_)))));refine Zj (m:=Builtin.SmallTypes.ownedTupleIsFree (.ref z)) (Zj (m:=field (.ref z) 0) (Zm S.zip rfl (x:=.none) rfl (Zk ?_)));simp only[if_true];refine Zj (wpAny_rule (Zj (Zm S.zip rfl (x:=.ref TO) rfl (Zj (wpAny_setField_rec S.zip (by simp) fun g1 B L=>Zj ?_)))));replace B:IsZip g1 z TI TO .ellipsis:=B;simp only[List.forIn_cons,List.forIn_nil,List.zipIdx_cons,List.zipIdx_nil];refine Zj (Zj (wpAny_onRaise (?_:wpAny _ _ (Builtin.SmallTypes.nextOf (.ref N) >>=_) _ _ _)))
 cases hx:xs[k]? with
 |none=>
  refine Zj (Nv u (S.one.but L.extBut D.i1z D.l1z) hx fun P e l C=>?_);obtain⟨U,Y,Z⟩:=C;have t:IsZip P z TI TO .ellipsis:=l _ _ D.i1z.symm B;have J:e≠z:=fun q=>by subst q;rw[t]at Y;cases Y;simp at Z
  refine wpAny_setField_rec t (by simp) fun X _ G=>?_;exact stop X e (fun c o R _ j _ q=>G.extBut _ _ R (l _ _ j (L.extBut _ _ R q))) ⟨U,G.extBut _ _ J Y,Z⟩
 |some x=>
  have h:ys[k]?=none:=by rcases O with q|q;rw[hx]at q;cases q;exact q
  refine Zj (GO (S.one.but L.extBut D.i1z D.l1z) D.l1i1 hx fun P a2 I=>Zk ?_);have d:IsPair P TO a b:=I.extBut _ _ D.TOi1 (L.extBut _ _ D.TOz So);refine Zj (wpAny_seqItems d rfl ?_);refine Zj (wpAny_updateSeq_pair d fun X o3 G=>?_);refine Zj (wpAny_letGo (Zk (Zj (Zj (wpAny_onRaise (?_:wpAny _ _ (Builtin.SmallTypes.nextOf (.ref M) >>=_) _ _ _))))));have b3:SI t2 X M l2 k ys:=((S.two.but L.extBut D.i2z D.l2z).but I.extBut D.i12.symm D.l2i1).but G.extBut D.TOi2.symm D.l2TO;refine Zj (Nv u b3 h fun g4 e r C=>?_);obtain⟨U,Y,Z⟩:=C;have y:IsZip g4 z TI TO .ellipsis:=r _ _ D.i2z.symm (G.extBut _ _ D.TOz.symm (I.extBut _ _ D.i1z.symm B));have J:e≠z:=fun q=>by subst q;rw[y]at Y;cases Y;simp at Z
  refine wpAny_setField_rec y (by simp) fun g5 _ p=>?_;exact stop g5 e (fun c o R c2 j c4 q=>p.extBut _ _ R (r _ _ c4 (G.extBut _ _ c2 (I.extBut _ _ j (L.extBut _ _ R q))))) ⟨U,p.extBut _ _ J Y,Z⟩
def Wk(tp:Bool)(h:Heap)(l:Addr)(xs:Array Value):Prop:=match tp with
 |false=>h.IsList l xs
 |true=>h.IsTuple l xs
def Jn(tp:Bool)(l:Addr):Obj:={cls:=.type (if tp then "tuple_iterator" else "list_iterator"),data:=.fields #[.ref l,.int 0 0]}
theorem W8(h:Wk tp s.heap l xs)(q:Q (.ref s.heap.objs.size) {s with heap:=s.heap.push (Jn tp l)}):wpAny (model prog w) A (pyIter (.ref l)) Q E s:=by
 cases tp with
 |false=>exact wpAny_pyIter_list h q
 |true=>exact wpAny_pyIter_tuple h q
theorem Wk.push(z:Wk tp h l xs)(o:Obj):Wk tp (h.push o) l xs:=by
 cases tp with
 |false=>exact Heap.IsList.push z o
 |true=>exact Heap.IsTuple.push z o
end
abbrev zg1(h:Heap)(t1:Bool)(l1:Addr):Heap:=h.push (Jn t1 l1)
abbrev zg2(h:Heap)(t1:Bool)(l1:Addr)(t2:Bool)(l2:Addr):Heap:=(zg1 h t1 l1).push (Jn t2 l2)
abbrev zg3(h:Heap)(t1:Bool)(l1:Addr)(t2:Bool)(l2:Addr):Heap:=(zg2 h t1 l1 t2 l2).push {cls:=.type "tuple",data:=.seq #[.ref h.objs.size,.ref (zg1 h t1 l1).objs.size]}
abbrev zg4(h:Heap)(t1:Bool)(l1:Addr)(t2:Bool)(l2:Addr):Heap:=(zg3 h t1 l1 t2 l2).push {cls:=.type "tuple",data:=.seq #[.none,.none]}
abbrev zg5(h:Heap)(t1:Bool)(l1:Addr)(t2:Bool)(l2:Addr):Heap:=(zg4 h t1 l1 t2 l2).push {cls:=.type "zip",data:=.fields #[.none,.bool false,.bool false,.ref (zg2 h t1 l1 t2 l2).objs.size,.ref (zg3 h t1 l1 t2 l2).objs.size]}
theorem Nf(Z J:Bool)(Y l2:Addr)(xs ys:Array Value):
  Meets (Builtin.«zip.__new__» ⟨[.type "zip",.ref Y,.ref l2],[]⟩) (fun _ R s=>Wk Z s.heap Y xs/\Wk J s.heap l2 ys/\
   R (.ok (.ret (.ref (zg4 s.heap Z Y J l2).objs.size))) {s with heap:=zg5 s.heap Z Y J l2}):=
 .of_wp fun L w A R s h=>by
  obtain⟨O,g,d,G,M⟩:=s;obtain⟨E,D,h⟩:=h;have N:=sub_zip;have B:Wk Z (Shared.heap ⟨O,g,d,G,M⟩) Y xs:=E;have T:Wk J (Shared.heap ⟨O.push (Jn Z Y),g,d,G,M⟩) l2 ys:=Wk.push D _
  wp_walk using W8 B,W8 T
  exact⟨_,rfl,h⟩
def SJ(tp:Bool)(h:Heap)(i l:Addr)(k:Nat):Prop:=match tp with
 |false=>h.IsListIter i l k
 |true=>h.IsTupleIter i l k
theorem SJ.si(z:SJ tp h i l k)(c:Wk tp h l xs):SI tp h i l k xs:=by
 cases tp <;> exact⟨z,c⟩
theorem SI.sj(z:SI tp h i l k xs):SJ tp h i l k:=by
 cases tp <;> exact z.1
theorem SJ.to(z:SJ tp h i l k)(Y:∀o,h.get? i=some o->h'.get? i=some o):SJ tp h' i l k:=by
 cases tp with
 |false=>exact let⟨o,e,r⟩:=z;⟨o,Y _ e,r⟩
 |true=>exact let⟨o,e,r⟩:=z;⟨o,Y _ e,r⟩
theorem SJ.obj(z:SJ tp h i l k):∃o,h.get? i=some o/\∀v,o.data≠.cell v:=by
 cases tp with
 |false=>obtain⟨o,e,_,d⟩:=z;exact⟨o,e,fun v q=>by rw[d]at q;cases q⟩
 |true=>obtain⟨o,e,_,d⟩:=z;exact⟨o,e,fun v q=>by rw[d]at q;cases q⟩
theorem SJ.new(tp:Bool)(h:Heap)(l:Addr):SJ tp (h.push (Jn tp l)) h.objs.size l 0:=by
 cases tp <;> exact⟨_,ZW _ rfl,rfl,rfl⟩
structure ZR(h:Heap)(z TI TO:Addr)(t1:Bool)(i1 l1:Addr)(t2:Bool)(i2 l2:Addr)(k:Nat):Prop where
 zip:IsZip h z TI TO .none
 its:IsPair h TI (.ref i1) (.ref i2)
 out:∃a b,IsPair h TO a b
 one:SJ t1 h i1 l1 k
 two:SJ t2 h i2 l2 k
section
theorem LR(D:Wk t1 s.heap l1 xs)(B:Wk t2 s.heap l2 ys)(h:∀g,ZR g (s.heap.objs.size+4) (s.heap.objs.size+2) (s.heap.objs.size+3) t1 s.heap.objs.size l1 t2 (s.heap.objs.size+1) l2 0->
   (∀c o,s.heap.get? c=some o->g.get? c=some o)->Q (.ref (s.heap.objs.size+4)) {s with heap:=g}):wpAny (model prog w) A (call (.type "zip") [.ref l1,.ref l2]) Q E s:=by
 refine callType_new F.called_zip (by decide) (F.typeCall_zip_2 _ _) (F.newCall_zip_2 _ _) (fun Z=>F.args_object_init_3 Z _ _) F.entry_zip_new (Nf t1 t2 l1 l2 xs ys) ⟨D,B,?_⟩;have L:(zg1 s.heap t1 l1).objs.size=s.heap.objs.size+1:=Heap.size_push ..;have G:(zg2 s.heap t1 l1 t2 l2).objs.size=s.heap.objs.size+2:=by rw[Heap.size_push,L]
 have J:(zg3 s.heap t1 l1 t2 l2).objs.size=s.heap.objs.size+3:=by rw[Heap.size_push,G]
 have R:(zg4 s.heap t1 l1 t2 l2).objs.size=s.heap.objs.size+4:=by rw[Heap.size_push,J]
 have Y:(zg5 s.heap t1 l1 t2 l2).get? (zg4 s.heap t1 l1 t2 l2).objs.size=some _:=ZW _ rfl;have M:(zg5 s.heap t1 l1 t2 l2).get? (zg3 s.heap t1 l1 t2 l2).objs.size=some _:=ZD _ (ZW _ rfl);have N:(zg5 s.heap t1 l1 t2 l2).get? (zg2 s.heap t1 l1 t2 l2).objs.size=some _:=ZD _ (ZD _ (ZW _ rfl));have O:SJ t2 (zg5 s.heap t1 l1 t2 l2) (zg1 s.heap t1 l1).objs.size l2 0:=(SJ.new t2 (zg1 s.heap t1 l1) l2).to fun o q=>ZD _ (ZD _ (ZD _ q));have T:SJ t1 (zg5 s.heap t1 l1 t2 l2) s.heap.objs.size l1 0:=(SJ.new t1 s.heap l1).to fun o q=>ZD _ (ZD _ (ZD _ (ZD _ q)));show _/\_;rw[G,J,R]at Y;rw[L,G]at N;rw[J]at M;rw[L]at O;rw[R]
 exact⟨⟨_,Y,rfl⟩,h _ ⟨Y,N,⟨_,_,M⟩,T,O⟩ fun c o q=>
  ZD _ (ZD _ (ZD _ (ZD _ (ZD _ q))))⟩
end
def Sq(K:W.Frag)(tp:Bool)(H:Hp)(l:Addr)(xs:List V):Prop:=match tp with
 |false=>SqL K H l xs
 |true=>SqT K H l xs
theorem Inv.sq(I:Inv X pins U H s)(h:Sq X.K tp H l xs):∃Y:List Value,Vals xs Y/\Wk tp s.heap l Y.toArray:=by
 cases tp with
 |false=>
  obtain⟨Y,r,p,_⟩:=I.list h;exact⟨Y,r,p.isList⟩
 |true=>
  obtain⟨Y,r,p,_⟩:=I.tuple h;exact⟨Y,r,p⟩
theorem Inv.sq_inj(I:Inv X pins U H s)(h:Sq X.K tp H l xs)(h':Sq X.K tp H l ys):xs=ys:=by
 cases tp with
 |false=>exact I.list_inj h h'
 |true=>exact I.tuple_inj h h'
theorem Wk.lt(z:Wk tp h l xs):l<h.objs.size:=by
 cases tp with
 |false=>obtain⟨_,e,_⟩:=z;exact ZN e
 |true=>obtain⟨_,e,_⟩:=z;exact ZN e
def Itz(K:W.Frag)(t1:Bool)(l1:Addr)(t2:Bool)(l2:Addr):It:=
  ⟨fun i H=>∃xs ys x y,Sq K t1 H l1 xs/\Sq K t2 H l2 ys/\xs[i]?=some x/\ys[i]?=some y,
   fun i H v H'=>∃p x y,v=.ref p/\H p=none/\H'=upd H p (.tup [x,y])/\(∀xs,Sq K t1 H l1 xs->xs[i]?=some x)/\∀ys,Sq K t2 H l2 ys->ys[i]?=some y,
   fun i H=>∃xs ys,Sq K t1 H l1 xs/\Sq K t2 H l2 ys/\(xs.length<=i\/ys.length<=i)⟩
theorem FU:bootBuiltins "zip"=some (.type "zip"):=by decide +kernel
theorem Inv.turnedL{ch:List Addr}(I:Inv X pins U H s)(k:∀b o,b∉ch->s.heap.get? b=some o->h'.get? b=some o)(f:∀b∈ch,UD X pins H b):
  Inv X pins U H {s with heap:=h',toks:=t'}:=by
 have J:∀b u,H b=some u->b∉ch:=fun b u e z=>by rw[(f b z).1]at e;cases e
 have G:X.env.locals∉ch:=fun z=>(f _ z).2.1 rfl;refine I.step (g':=s.gens) (d':=s.drawn) (ch:=ch) (fun b Z=>⟨(f b Z).2.2.2.1,(f b Z).2.1,(f b Z).2.2.2.2.1,(f b Z).2.2.2.2.2⟩) (fun b o _ _ Y e _=>k b o Y e) (fun b o _ _ Y e _=>⟨o.slots,k b o Y e⟩) (fun _ _ _ _ n=>n)
  (fun b o Y e=>⟨o,k b o Y e⟩) (fun _ _ e=>e) (fun _ _ _ e=>e) (fun b M e=>⟨#[],by rw[e];simp⟩) (fun m L=>?_) (fun b u e=>?_) I.bare
 .obtain ⟨o,es,ep,ho,r⟩:=L
  exact⟨o,es,ep,k _ o G ho,r⟩
 .refine (I.hok b u e).stay (fun c v Y q=>k c v ?_ q) (fun _ q=>q) fun _ _ q=>q
  rcases Y with z|z
  .rw [z];exact J b u e
  .exact J c _ z
theorem zN{a b c d x:Addr}(h:x∈ [a,b,c,d]):x=a\/x=b\/x=c\/x=d:=by simpa using h
theorem Fb{P:Program}{w:World}{K:W.Frag}{B:List Expr}{x1}{pos:Pos}{z TI TO L G n l2:Addr}{t1 t2:Bool}(D:ZipApart z TI TO L G n l2):
  Turn P w K (.Tuple B x1 pos) (Itz K t1 n t2 l2) [z,TO,L,G,TI] z (fun i h=>ZR h z TI TO t1 L n t2 G l2 i) where
 mem:=by simp
 obj:=fun i h Y b Z=>by
  have q:b=z\/b=TO\/b=L\/b=G\/b=TI:=by simpa using Z
  rcases q with q|q|q|q|q <;> rw[q]
  .exact ⟨_,Y.zip,fun v e=>nomatch e⟩
  .obtain ⟨a,b,e⟩:=Y.out
   exact⟨_,e,fun v e=>nomatch e⟩
  .exact Y.one.obj
  .exact Y.two.obj
  .exact ⟨_,Y.its,fun v e=>nomatch e⟩
 keep:=fun i h h' Y k=>⟨k z (by simp) _ Y.zip,k TI (by simp) _ Y.its,let⟨a,b,e⟩:=Y.out;⟨a,b,k TO (by simp) _ e⟩,Y.one.to fun o e=>k L (by simp) o e,Y.two.to fun o e=>k G (by simp) o e⟩
 item:=by
  intro X hP hw hK hc i J s U H E I C Y hg;subst hP hw hK;obtain⟨xs,ys,x,y,S,A,hx,hy⟩:=hg;obtain⟨R,u,j⟩:=I.sq S;obtain⟨O,d,Q⟩:=I.sq A;obtain⟨m,J2,c⟩:=u.get hx;obtain⟨t,Z9,p⟩:=d.get hy;refine LZ D ⟨Y.zip,Y.its,Y.out,Y.one.si j,Y.two.si Q⟩ (x:=m) (y:=t) (by simpa using J2) (by simpa using Z9) fun g F hp sz kp=>?_
  have f:∀b∈ [z,TO,L,G],UD X J H b:=fun b Z=>C b (by
   rcases zN Z with q|q|q|q <;> rw[q] <;> simp)
  have Z8:∀b o,b ∉ [z,TO,L,G]->s.heap.get? b=some o->g.get? b=some o:=fun b o Z e=>kp b o (fun q=>Z (by simp[q])) (fun q=>Z (by simp[q])) (fun q=>Z (by simp[q])) (fun q=>Z (by simp[q])) e;have I1:Inv X J U H {s with heap:=g}:=I.turnedL (t':=s.toks) Z8 f;have hn:H s.heap.objs.size=none:=I.hok.fresh (ZF _);have N:z<s.heap.objs.size:=ZN Y.zip;refine⟨_,rfl,?_⟩;refine wpAny_letOwnedTupleGo_zip (s:={s with heap:=g}) F.zip fun g2 z2 M=>?_
  have I2:Inv X J U H {s with heap:=g2}:=I1.turnedL (s:={s with heap:=g}) (t':=s.toks) (ch:=[z]) (fun b o Z e=>M.extBut b o (fun q=>Z (by simp[q])) e) fun b Z=>by
   have q:b=z:=by simpa using Z
   rw[q];exact f z (by simp)
  have r:IsPair g2 s.heap.objs.size m t:=M.extBut _ _ (Nat.ne_of_gt N) hp;have I3:Inv X J U (upd H s.heap.objs.size (.tup [x,y])) {s with heap:=g2}:=I2.retrack hn (I.fpOk (ZF _) hn) ⟨sl 2,[m,t],.cons c (.cons p .nil),⟨_,r,rfl,rfl,_,rfl⟩⟩
  have l:∀b∈ [z,TO,L,G,TI],b<s.heap.objs.size:=fun b Z=>by
   have q:b=z\/b=TO\/b=L\/b=G\/b=TI:=by simpa using Z
   rcases q with q|q|q|q|q <;> rw[q]
   .exact N
   .obtain ⟨a,b,e⟩:=Y.out
    exact ZN e
   .obtain ⟨o,e,_⟩:=Y.one.obj
    exact ZN e
   .obtain ⟨o,e,_⟩:=Y.two.obj
    exact ZN e
   .exact ZN Y.its
  refine⟨.ref s.heap.objs.size,_,I3,rfl,⟨_,x,y,rfl,hn,rfl,fun zs h=>by rw[I.sq_inj h S];exact hx,fun zs h=>by rw[I.sq_inj h A];exact hy⟩,?_,fun b Z=>?_⟩
  .refine ⟨z2,M.extBut _ _ D.TIz F.its,let⟨a,b,e⟩:=F.out;⟨a,b,M.extBut _ _ D.TOz e⟩,F.one.sj.to fun o e=>M.extBut _ _ D.i1z e,F.two.sj.to fun o e=>M.extBut _ _ D.i2z e⟩
  .rw [Ya (Zc (l b Z))]
   exact(C b Z).1
 done:=by
  intro X hP hw hK hc i J s U H E I C Y hg;subst hP hw hK;obtain⟨xs,ys,S,A,T⟩:=hg;obtain⟨R,u,j⟩:=I.sq S;obtain⟨O,d,Q⟩:=I.sq A;have e1:=u.length;have e2:=d.length;refine QT (I.ok.hd hc) D ⟨Y.zip,Y.its,Y.out,Y.one.si j,Y.two.si Q⟩ ?_ fun g kp=>⟨rfl,?_⟩
  .rcases T with q|q
   .exact .inl (by simp;exact Tj e1 q)
   .exact .inr (by simp;exact Tj e2 q)
  .refine I.turnedL (t':=s.toks) (ch:=[z,TO,L,G]) (fun b o Z e=>kp b o (fun q=>Z (by simp[q])) (fun q=>Z (by simp[q])) (fun q=>Z (by simp[q])) (fun q=>Z (by simp[q])) e) fun b Z=>C b (by
    rcases zN Z with q|q|q|q <;> rw[q] <;> simp)
 self:=fun _ _ _ _ _ Y h=>wpAny_pyIter_zip Y.zip h
theorem zap(n Y l2:Nat)(G:Y<n)(J:l2<n):ZipApart (n+4) (n+2) (n+3) n (n+1) Y l2:=by
 constructor <;> (intro q;have Z:(_:Nat)=_:=q;omega)
def yS(K:W.Frag)(ta:TA):TI:=fun U H R=>ta U H fun vs H1=>∃a b t1 t2 xs ys,vs=[.ref a,.ref b]/\Sq K t1 H1 a xs/\Sq K t2 H1 b ys/\R (Itz K t1 a t2 b) H1
theorem IW(d:Gl X "zip")(c:X.mg "zip"=none)(v:PA X [a,b] ta)(k:starEach [a,b] X.env=[(false,eval a X.env),(false,eval b X.env)]:=by rfl)(J:starEach [b] X.env=[(false,eval b X.env)]:=by rfl):PI X (.Tuple elts x1 tpos) (.Call (.Name "zip" p) [a,b] [] pos) (yS X.K ta):=by
 intro Z s U H R I h;refine Call_ (Wh I d c FU (PyProof.Rows.callWith_type1 (thn (v pos Z s U H _ I h) fun n Y ⟨i,F,L,Q,N⟩=>?_) (by rw[k,J]) (by rw[J];rfl)));obtain⟨l1,l2,t1,x,l,r,e,N,j,q⟩:=N;subst e;obtain⟨u,o,rfl,A,M⟩:=vals2 Q;cases A;cases M;obtain⟨E,P,T⟩:=L.sq N;obtain⟨B,C,O⟩:=L.sq j;have t:=T.lt;have y:=O.lt;refine LR T O fun g S m=>?_;refine wpAny_pyIter_zip (s:={Y with heap:=g}) S.zip ?_;have D:=zap _ _ _ t y;have w:Inv X Z U F {Y with heap:=g}:=L.kept (t':=Y.toks) m;refine⟨_,[Y.heap.objs.size+4,Y.heap.objs.size+3,Y.heap.objs.size,Y.heap.objs.size+1,Y.heap.objs.size+2],_,_,F,rfl,w,Fb D,S,fun b f=>?_,q⟩
 have G:Y.heap.objs.size<=b:=by
  have z:b=Y.heap.objs.size+4\/b=Y.heap.objs.size+3\/b=Y.heap.objs.size\/b=Y.heap.objs.size+1\/b=Y.heap.objs.size+2:=by simpa using f
  rcases z with z|z|z|z|z <;> rw[z] <;> first|exact ZF _|exact Nat.le_add_right _ _
 exact L.fpOk G (L.hok.fresh G)
inductive Dat where
 |non|bl (b:Bool)|int (i:Int)|str (x:Str)|tup (ds:List Dat)|lst (ds:List Dat)
mutual
def Dat.beq:Dat->Dat->Bool
 |.non,.non=>true
 |.bl a,.bl b=>a==b
 |.int a,.int b=>a==b
 |.str a,.str b=>a==b
 |.tup a,.tup b=>Dat.beqs a b
 |.lst a,.lst b=>Dat.beqs a b
 |_,_=>false
def Dat.beqs:List Dat->List Dat->Bool
 |[],[]=>true
 |a::as,b::bs=>Dat.beq a b && Dat.beqs as bs
 |_,_=>false
end
mutual
theorem Dat.beq_self:∀a:Dat,a.beq a=true
 |.non=>by unfold Dat.beq;rfl
 |.bl b=>by unfold Dat.beq;exact beq_self_eq_true b
 |.int i=>by unfold Dat.beq;exact beq_self_eq_true i
 |.str x=>by unfold Dat.beq;exact beq_self_eq_true x
 |.tup ds=>by unfold Dat.beq;exact Dat.beqs_self ds
 |.lst ds=>by unfold Dat.beq;exact Dat.beqs_self ds
theorem Dat.beqs_self:∀a:List Dat,Dat.beqs a a=true
 |[]=>by unfold Dat.beqs;rfl
 |a::as=>by unfold Dat.beqs;rw[Dat.beq_self a,Dat.beqs_self as];rfl
end
mutual
def Has(H:Hp):V->Dat->Prop
 |v,.non=>v=.non
 |v,.bl b=>v=.bl b
 |v,.int i=>v=.int i
 |v,.str x=>v=.str x
 |v,.tup ds=>∃a xs,v=.ref a/\H a=some (.tup xs)/\HasL H xs ds
 |v,.lst ds=>∃a xs,v=.ref a/\H a=some (.lst xs)/\HasL H xs ds
def HasL(H:Hp):List V->List Dat->Prop
 |[],[]=>True
 |x::xs,d::ds=>Has H x d/\HasL H xs ds
 |_::_,[]=>False
 |[],_::_=>False
end
mutual
theorem Has.mono{H H':Hp}(e:Same H H'):∀(d:Dat){v:V},Has H v d->Has H' v d
 |.non,_,h=>by unfold Has at h |-;exact h
 |.bl _,_,h=>by unfold Has at h |-;exact h
 |.int _,_,h=>by unfold Has at h |-;exact h
 |.str _,_,h=>by unfold Has at h |-;exact h
 |.tup ds,_,h=>by
  unfold Has at h |-;obtain⟨a,Y,G,J,Z⟩:=h;exact⟨a,Y,G,e _ _ J,HasL.mono e ds Z⟩
 |.lst ds,_,h=>by
  unfold Has at h |-;obtain⟨a,Y,G,J,Z⟩:=h;exact⟨a,Y,G,e _ _ J,HasL.mono e ds Z⟩
theorem HasL.mono{H H':Hp}(e:Same H H'):∀(ds:List Dat){xs:List V},HasL H xs ds->HasL H' xs ds
 |[],[],h=>by unfold HasL;trivial
 |[],_::_,h=>by unfold HasL at h;exact h.elim
 |_::_,[],h=>by unfold HasL at h;exact h.elim
 |d::ds,x::xs,h=>by
  unfold HasL at h |-;exact⟨Has.mono e d h.1,HasL.mono e ds h.2⟩
end
theorem HasL.length:∀{ds:List Dat}{xs:List V},HasL H xs ds->xs.length=ds.length
 |[],[],h=>rfl
 |[],_::_,h=>by unfold HasL at h;exact h.elim
 |_::_,[],h=>by unfold HasL at h;exact h.elim
 |d::ds,x::xs,h=>by
  unfold HasL at h;rw[Zd,Zd,HasL.length h.2]
theorem HasL.get:∀{ds:List Dat}{xs:List V}{i:Nat}{x:V},HasL H xs ds->xs[i]?=some x->∃d,ds[i]?=some d/\Has H x d
 |[],[],i,x,h,e=>by simp at e
 |[],_::_,_,_,h,_=>by unfold HasL at h;exact h.elim
 |_::_,[],_,_,h,_=>by unfold HasL at h;exact h.elim
 |d::ds,y::xs,0,x,h,e=>by
  unfold HasL at h;have Y:some y=some x:=e;cases Y;exact⟨d,rfl,h.1⟩
 |d::ds,y::xs,i+1,x,h,e=>by
  unfold HasL at h;exact HasL.get (i:=i) h.2 e
theorem HasL.append:∀{ds Y:List Dat}{xs ys:List V},HasL H xs ds->HasL H ys Y->HasL H (xs++ ys) (ds++ Y)
 |[],_,[],_,_,h=>h
 |[],_,_::_,_,h,_=>by unfold HasL at h;exact h.elim
 |_::_,_,[],_,h,_=>by unfold HasL at h;exact h.elim
 |d::ds,Y,x::xs,ys,h,h'=>by
  unfold HasL at h;show HasL H (x::(xs++ ys)) (d::(ds++ Y));unfold HasL;exact⟨h.1,HasL.append h.2 h'⟩
abbrev Z5:=@HasL.append
theorem HasL.one(h:Has H x d):HasL H [x] [d]:=by
 unfold HasL;exact⟨h,by unfold HasL;trivial⟩
abbrev Z3:=@HasL.one
theorem HasL.nil:HasL H [] []:=by unfold HasL;trivial
abbrev Z4:=@HasL.nil
theorem HasL.cons(h:Has H x d)(t:HasL H xs ds):HasL H (x::xs) (d::ds):=by
 unfold HasL;exact⟨h,t⟩
abbrev Z2:=@HasL.cons
mutual
theorem Has.inj{H:Hp}:∀(d d':Dat){v:V},Has H v d->Has H v d'->d=d'
 |.non,d',_,h,h'=>by
  unfold Has at h;subst h;cases d' <;> unfold Has at h' <;> first|(obtain⟨_,_,q,_⟩:=h';cases q;done)|rfl|(cases h';done)
 |.bl _,d',_,h,h'=>by
  unfold Has at h;subst h;cases d' <;> unfold Has at h' <;> first|(obtain⟨_,_,q,_⟩:=h';cases q;done)|(cases h';done)|(cases h';rfl)
 |.int _,d',_,h,h'=>by
  unfold Has at h;subst h;cases d' <;> unfold Has at h' <;> first|(obtain⟨_,_,q,_⟩:=h';cases q;done)|(cases h';done)|(cases h';rfl)
 |.str _,d',_,h,h'=>by
  unfold Has at h;subst h;cases d' <;> unfold Has at h' <;> first|(obtain⟨_,_,q,_⟩:=h';cases q;done)|(cases h';done)|(cases h';rfl)
 |.tup ds,d',_,h,h'=>by
  unfold Has at h;obtain⟨a,R,O,J,N⟩:=h;subst O
  cases d' with
  |tup G=>
   unfold Has at h';obtain⟨b,M,Z,Y,L⟩:=h';cases Z;rw[J]at Y;cases Y;rw[HasL.inj ds G N L]
  |lst G=>
   unfold Has at h';obtain⟨b,M,Z,Y,L⟩:=h';cases Z;rw[J]at Y;cases Y
  |_=>unfold Has at h';cases h'
 |.lst ds,d',_,h,h'=>by
  unfold Has at h;obtain⟨a,R,O,J,N⟩:=h;subst O
  cases d' with
  |lst G=>
   unfold Has at h';obtain⟨b,M,Z,Y,L⟩:=h';cases Z;rw[J]at Y;cases Y;rw[HasL.inj ds G N L]
  |tup G=>
   unfold Has at h';obtain⟨b,M,Z,Y,L⟩:=h';cases Z;rw[J]at Y;cases Y
  |_=>unfold Has at h';cases h'
theorem HasL.inj{H:Hp}:∀(ds Y:List Dat){xs:List V},HasL H xs ds->HasL H xs Y->ds=Y
 |[],[],_,_,_=>rfl
 |[],_::_,xs,h,h'=>by
  cases xs <;> unfold HasL at h h'
  .exact h'.elim
  .exact h.elim
 |_::_,[],xs,h,h'=>by
  cases xs <;> unfold HasL at h h'
  .exact h.elim
  .exact h'.elim
 |d::ds,e::Y,xs,h,h'=>by
  cases xs with
  |nil=>unfold HasL at h;exact h.elim
  |cons x xs=>
   unfold HasL at h h';rw[Has.inj d e h.1 h'.1,HasL.inj ds Y h.2 h'.2]
end
theorem K7{K:W.Frag}:∀{d:Dat},Has H v d->X4 K H v (.type (match d with|.non=>"NoneType"|.bl _=>"bool"|.int _=>"int"|.str _=>"str"|.tup _=>"tuple"|.lst _=>"list"))
 |.non,h=>by unfold Has at h;subst h;exact .non
 |.bl _,h=>by unfold Has at h;subst h;exact .bl _
 |.int _,h=>by unfold Has at h;subst h;exact .int _
 |.str _,h=>by unfold Has at h;subst h;exact .str _
 |.tup _,h=>by unfold Has at h;obtain⟨a,Y,rfl,e,_⟩:=h;exact .tup e
 |.lst _,h=>by unfold Has at h;obtain⟨a,Y,rfl,e,_⟩:=h;exact .lst e
theorem WO{K:PySem.W.Frag}{a:Addr}{xs:List V}{g:TG}{J:TS}{D:Ends}{U:St}{H:Hp}(Y:Nat->St->Hp->Prop)(F:Y 0 U H)(T:∀i U H,i<=xs.length->Y i U H->SqL K H a xs)(O:∀(B:St->Hp->Prop)(R:VK) i x U H,xs[i]?=some x->Y i U H->g x U H fun σ2 Z=>J {nx:=Y (i+1),rt:=R,bk:=B,ct:=Y (i+1)} σ2 Z)(E:∀U H,Y xs.length U H->D.nx U H):
  ∃W:Nat->Nat->St->Hp->Prop,(∃m,W 0 m U H)/\∀i m U H,W i m U H->
   ((Itl K a).stop i H/\D.nx U H)\/((Itl K a).go i H/\∃N:St->Hp->Prop,(∀L H',N L H'->∃G,G<m/\W (i+1) G L H')/\∀x H',(Itl K a).yld i H x H'->g x U H' fun σ2 Z=>J {D with nx:=N,ct:=N,bk:=D.nx} σ2 Z):=
 LG Y F T (fun i x U H M p=>O _ _ i x U H M p) E
theorem X2{K:PySem.W.Frag}{a:Addr}{xs:List V}{g:TG}{J:TS}{D:Ends}{U:St}{H:Hp}(Y:Nat->St->Hp->Prop)(F:Y 0 U H)(T:∀i U H,i<=xs.length->Y i U H->SqT K H a xs)(O:∀(B:St->Hp->Prop)(R:VK) i x U H,xs[i]?=some x->Y i U H->g x U H fun σ2 Z=>J {nx:=Y (i+1),rt:=R,bk:=B,ct:=Y (i+1)} σ2 Z)(E:∀U H,Y xs.length U H->D.nx U H):
  ∃W:Nat->Nat->St->Hp->Prop,(∃m,W 0 m U H)/\∀i m U H,W i m U H->
   ((Itt K a).stop i H/\D.nx U H)\/((Itt K a).go i H/\∃N:St->Hp->Prop,(∀L H',N L H'->∃G,G<m/\W (i+1) G L H')/\∀x H',(Itt K a).yld i H x H'->g x U H' fun σ2 Z=>J {D with nx:=N,ct:=N,bk:=D.nx} σ2 Z):=
 Oz Y F T (fun i x U H M p=>O _ _ i x U H M p) E
theorem WN{lo:Int}{n:Nat}{g:TG}{J:TS}{D:Ends}{U:St}{H:Hp}(Y:Nat->St->Hp->Prop)(E:Y 0 U H)(M:∀(B:St->Hp->Prop)(R:VK) i U H,i<n->Y i U H->g (.int (lo+i)) U H fun σ2 Z=>J {nx:=Y (i+1),rt:=R,bk:=B,ct:=Y (i+1)} σ2 Z)(T:∀U H,Y n U H->D.nx U H):
  ∃W:Nat->Nat->St->Hp->Prop,(∃m,W 0 m U H)/\∀i m U H,W i m U H->
   ((Itr lo n).stop i H/\D.nx U H)\/((Itr lo n).go i H/\∃N:St->Hp->Prop,(∀L H',N L H'->∃G,G<m/\W (i+1) G L H')/\∀x H',(Itr lo n).yld i H x H'->g x U H' fun σ2 Z=>J {D with nx:=N,ct:=N,bk:=D.nx} σ2 Z):=
 FF Y E (fun i U H O p=>M _ _ i U H O p) T
theorem Yo.none{P:Program}{w:World}{K:W.Frag}{Z:Str->Option Value}{base:Heap}{CX:CXT}{k:Nat}{f:Addr}{J:FuncData}{ps:List Str}{sp:Sp}(h:∀vs H Q E,sp vs H Q E->False):Yo P w K Z base CX k f J ps sp:=
 ⟨fun vs H Q E q=>(h _ _ _ _ q).elim,fun A Y s H args G vs Q E _ _ _ _ q=>(h _ _ _ _ q).elim⟩
theorem Y7{N P:List Str}{Y:Scope}(h:Y.kind=.function/\Y.isCoroutine=false/\Y.isGenerator=false/\N.Nodup/\N.take P.length=P/\(∀x∈P,Y.names.lookup x=some .local\/Y.names.lookup x=some .cell)/\∀y∈Y.names,y.2≠.free:=by decide +kernel):Yr N P Y:=
 ⟨h.1,h.2.1,h.2.2.1,h.2.2.2.1,h.2.2.2.2.1,h.2.2.2.2.2.1,h.2.2.2.2.2.2⟩
end L2
namespace K4
open PySem L2
def top(i:Nat):Stmt:=PySem.Challenge.pw_wantway_k09_kinds_within.main.body.getD i (.Pass ⟨0,0,0,0⟩)
abbrev BF:Stmt:=top 2
abbrev sKP:Stmt:=top 4
abbrev IH:Stmt:=top 5
abbrev BR:Stmt:=top 6
abbrev BQ:Stmt:=top 7
abbrev II:Stmt:=top 8
abbrev MO:Stmt:=top 9
abbrev BP:Stmt:=top 10
abbrev TY:Stmt:=top 11
abbrev IK:Stmt:=top 12
abbrev IJ:Stmt:=top 13
abbrev MQ:Stmt:=top 24
abbrev BS:Stmt:=top 25
abbrev BC:Stmt:=top 26
abbrev Uy:Stmt:=top 32
abbrev IL:Stmt:=inClass Uy 0
abbrev BO:Stmt:=inClass Uy 1
abbrev Fy:Stmt:=inClass Uy 2
abbrev BG:Stmt:=inClass Uy 3
abbrev BK:Stmt:=inClass Uy 4
abbrev Wa:Stmt:=inClass Uy 5
abbrev TU:Stmt:=inClass Uy 7
abbrev MP:Stmt:=inClass Uy 9
abbrev TX:Stmt:=inClass Uy 10
abbrev WR:Stmt:=top 38
abbrev Ba:Stmt:=inClass WR 0
abbrev BX:Stmt:=inClass WR 1
abbrev Bb:Stmt:=inClass WR 2
abbrev MT:Stmt:=inClass WR 3
abbrev MS:Stmt:=inClass WR 4
abbrev MR:Stmt:=inClass WR 5
abbrev BY:Stmt:=inClass WR 6
abbrev BZ:Stmt:=inClass WR 7
abbrev BW:Stmt:=inClass WR 10
abbrev MH:Stmt:=top 39
abbrev Bc:Stmt:=top 40
abbrev Wc:Stmt:=top 41
abbrev Wb:Stmt:=top 42
abbrev IN:Stmt:=top 44
abbrev BL:Stmt:=top 45
abbrev MI:Stmt:=top 46
abbrev Fx:Stmt:=top 47
abbrev N9:Stmt:=top 48
abbrev BE:Stmt:=top 49
abbrev F0:Stmt:=top 50
abbrev BN:Stmt:=top 51
abbrev BU:Stmt:=top 52
abbrev TV:Stmt:=top 53
abbrev Dm:Stmt:=top 54
abbrev GZ:Stmt:=top 55
abbrev Lz:Stmt:=top 56
abbrev MM:Stmt:=top 57
abbrev Ly:Stmt:=top 58
abbrev Mx:Stmt:=top 59
abbrev ML:Stmt:=top 60
abbrev Dn:Stmt:=top 61
abbrev IO:Stmt:=top 62
abbrev Do:Stmt:=top 63
abbrev Fz:Stmt:=top 64
abbrev BH:Stmt:=top 65
abbrev IA:Stmt:=top 66
abbrev GY:Stmt:=top 67
abbrev MJ:Stmt:=top 68
abbrev MK:Stmt:=top 69
abbrev Dr:Stmt:=top 70
abbrev MN:Stmt:=top 71
abbrev Dq:Stmt:=top 72
abbrev Dp:Stmt:=top 73
abbrev IM:Stmt:=top 74
abbrev TR:Stmt:=top 75
abbrev BV:Stmt:=top 76
abbrev BM:Stmt:=top 77
theorem Qi:Yr ["found","due"] ["found","due"] (Yh Do):=Y7
theorem Fm:Yr ["stream","many","number"] ["stream","many"] (Yh Fx):=Y7
end K4
namespace L2
open PySem PySem.Spec PyProof.Rows
theorem NG(K:W.Frag)(T:String):W.kitOne K (.type T) (.type T)=some true:=by
 unfold W.kitOne;rw[Zn (by simp)]
theorem yQ{K:W.Frag}:∀{a b:String},(a,b)∈ [("NoneType","bool"),("NoneType","str"),("NoneType","int"),("NoneType","tuple"),("NoneType","list"),("int","bool"),("int","str"),("int","tuple"),("int","list"),("str","bool"),("str","int"),("str","tuple"),("str","list"),("bool","str"),("bool","tuple"),("bool","list"),("tuple","bool"),("tuple","str"),("tuple","int"),("tuple","list"),("list","bool"),("list","str"),("list","int"),("list","tuple")]->W.kitOne K (.type a) (.type b)=some false:=by
 intro a b h;simp only[Zb,Prod.mk.injEq,List.not_mem_nil,or_false]at h;rcases h with⟨rfl,rfl⟩|⟨rfl,rfl⟩|⟨rfl,rfl⟩|⟨rfl,rfl⟩|⟨rfl,rfl⟩|⟨rfl,rfl⟩|⟨rfl,rfl⟩|⟨rfl,rfl⟩|⟨rfl,rfl⟩|⟨rfl,rfl⟩|⟨rfl,rfl⟩|⟨rfl,rfl⟩|⟨rfl,rfl⟩|⟨rfl,rfl⟩|⟨rfl,rfl⟩|⟨rfl,rfl⟩|⟨rfl,rfl⟩|⟨rfl,rfl⟩|⟨rfl,rfl⟩|⟨rfl,rfl⟩|⟨rfl,rfl⟩|⟨rfl,rfl⟩|⟨rfl,rfl⟩|⟨rfl,rfl⟩ <;> kernel_rfl
theorem Ve:bootBuiltins "tuple"=some (.type "tuple"):=by decide +kernel
theorem Vc:bootBuiltins "list"=some (.type "list"):=by decide +kernel
theorem Xp:bootBuiltins "str"=some (.type "str"):=by decide +kernel
theorem Ul:bootBuiltins "int"=some (.type "int"):=by decide +kernel
theorem X3:bootBuiltins "bool"=some (.type "bool"):=by decide +kernel
theorem JF:bootBuiltins "dict"=some (.type "dict"):=by decide +kernel
theorem FW:bootBuiltins "isinstance"=some (.builtin "isinstance"):=by decide +kernel
theorem Wp:bootBuiltins "all"=some (.builtin "all"):=by decide +kernel
theorem Uk:bootBuiltins "max"=some (.builtin "max"):=by decide +kernel
theorem Jj(O:Gl X "isinstance")(N:X.mg "isinstance"=none)(Z:Gl X x)(Y:X.mg x=none)(L:bootBuiltins x=some (.type T))(he:PE X e te)(M:x≠"__name__":=by decide)(J:(x==("__debug__":Str))=false:=by decide)(G:starEach [e,.Name x p'] X.env=(false,eval e X.env)::starEach [.Name x p'] X.env:=by rfl):
  PE X (.Call (.Name "isinstance" p) [e,.Name x p'] [] pos) (tCB (Qt X.K) (JI te (JI (tC (.ty T)) Gv))):=
 Y0 LS O N FW (pa2 he (L9 Z Y L rfl M J) G) (he:=G)
def tyD:Dat->String
 |.non=>"NoneType"|.bl _=>"bool"|.int _=>"int"|.str _=>"str"|.tup _=>"tuple"|.lst _=>"list"
theorem Bx{K:W.Frag}(h:Has H v d):X4 K H v (.type (tyD d)):=by
 have q:=K7 (K:=K) h;cases d <;> exact q
def isD(T:String)(d:Dat):Bool:=decide (tyD d=T) || (T=="int" && decide (tyD d="bool"))
theorem Jm(K:W.Frag)(d:Dat)(Y:T∈ ["bool","str","int","tuple","list"]):W.kitOne K (.type (tyD d)) (.type T)=some (isD T d):=by
 simp only[Zb,List.not_mem_nil,or_false]at Y;rcases Y with rfl|rfl|rfl|rfl|rfl <;> cases d <;> kernel_rfl
mutual
def Dat.dep:Dat->Nat
 |.tup ds=>1+Dat.deps ds
 |.lst ds=>1+Dat.deps ds
 |_=>0
def Dat.deps:List Dat->Nat
 |[]=>0
 |d::ds=>max d.dep (Dat.deps ds)
end
theorem Dat.deps_get:∀{ds:List Dat}{i:Nat}{d:Dat},ds[i]?=some d->d.dep<=Dat.deps ds
 |[],i,d,e=>by simp at e
 |a::ds,0,d,e=>by
  have Y:some a=some d:=e;cases Y;unfold Dat.deps;exact Nat.le_max_left _ _
 |a::ds,i+1,d,e=>by
  have q:=Dat.deps_get (ds:=ds) (i:=i) e;unfold Dat.deps;exact ZZ q (Nat.le_max_right _ _)
mutual
def Dat.wid:Dat->Nat
 |.tup ds=>max ds.length (Dat.wids ds)
 |.lst ds=>max ds.length (Dat.wids ds)
 |_=>0
def Dat.wids:List Dat->Nat
 |[]=>0
 |d::ds=>max d.wid (Dat.wids ds)
end
theorem Dat.wids_get:∀{ds:List Dat}{i:Nat}{d:Dat},ds[i]?=some d->d.wid<=Dat.wids ds
 |[],i,d,e=>by simp at e
 |a::ds,0,d,e=>by
  have Y:some a=some d:=e;cases Y;unfold Dat.wids;exact Nat.le_max_left _ _
 |a::ds,i+1,d,e=>by
  have q:=Dat.wids_get (ds:=ds) (i:=i) e;unfold Dat.wids;exact ZZ q (Nat.le_max_right _ _)
theorem T6:∀{as bs:List Dat},as.length=bs.length->((List.range as.length).map fun i=>((as[i]?).getD .non).beq ((bs[i]?).getD .non)).all id=Dat.beqs as bs
 |[],[],_=>by unfold Dat.beqs;rfl
 |[],_::_,h=>by simp at h
 |_::_,[],h=>by simp at h
 |a::as,b::bs,h=>by
  have ih:=T6 (as:=as) (bs:=bs) (by simpa using h);rw[Zd,List.range_succ_eq_map,ZT,List.all_cons,List.map_map];unfold Dat.beqs;rw[<-ih]
  rfl
theorem PD(a b:List Dat):(Dat.tup a).beq (Dat.tup b)=Dat.beqs a b:=by
 conv=>lhs;unfold Dat.beq
theorem PF(a b:List Dat):(Dat.lst a).beq (Dat.lst b)=Dat.beqs a b:=by
 conv=>lhs;unfold Dat.beq
theorem T5:∀{as bs:List Dat},as.length≠bs.length->Dat.beqs as bs=false
 |[],[],h=>Zp rfl h
 |[],_::_,_=>by unfold Dat.beqs;rfl
 |_::_,[],_=>by unfold Dat.beqs;rfl
 |a::as,b::bs,h=>by
  unfold Dat.beqs;rw[T5 (as:=as) (bs:=bs) fun z=>h (by rw[Zd,Zd,z]),Bool.and_false]
theorem VJ{c A B:Prop}[Decidable c](Y:c)(h:A):if c then A else B:=by
 rw[Zn Y];exact h
theorem Y1{c A B:Prop}[Decidable c](Y:¬c)(h:B):if c then A else B:=by
 rw[Zo Y];exact h
theorem VR(n:Nat)(I:n<sizeLine)(Y:Nat->List V->Hp->Prop)(F:Y 0 [] H)(G:∀i vs H,Y i vs H->vs.length=i)(L:∀i vs H,i<n->Y i vs H->J.go i H)(Z:∀vs H,Y n vs H->J.stop n H)(T:∀i vs H x H' (R:V->Hp->Prop),i<n->Y i vs H->J.yld i H x H'->(∀v M,Y (i+1) (vs++[v]) M->R v M)->g x s0 H' fun N A=>te N A R)(D:∀vs H p,Y n vs H->H p=none->Q (.ref p) (upd H p (.lst vs))):
  EV J g te s0 Q H:=by
 refine⟨fun i m vs H=>m=n-i/\i<=n/\Y i vs H,⟨n,by simp,Za _,F⟩,?_⟩;rintro i m vs H ⟨rfl,B,p⟩;have S:=G i vs H p;refine⟨by omega,?_⟩
 by_cases hlt:i<n
 .exact .inr ⟨L i vs H hlt p,fun x H' y=>T i vs H x H' _ hlt p y fun v M O=>⟨n-(i+1),by exact RB hlt,rfl,hlt,O⟩⟩
 .have e:i=n:=by exact Il B hlt
  subst e;exact .inl ⟨Z vs H p,fun a E=>D vs H a p E⟩
theorem Yb(h:H p=none)(o:HO):Same H (upd H p o):=fun b u q=>by rw[Ya (Yc q h)];exact q
@[elab_as_elim] theorem up_in {motive:Hp->Prop}(h:H l=none) (o:HO) (k:∀H',Same H H'->H' l=some o->motive H'):motive (upd H l o):=k _ (Yb h o) YY
theorem UJ{α:Type}(f:Nat->α)(i:Nat):(List.range i).map f++[f i]=(List.range (i+1)).map f:=by
 rw[List.range_succ,ZI];rfl
structure Blt(mg:Str->Option Value):Prop where
 len:mg "len"=none
 isi:mg "isinstance"=none
 bool:mg "bool"=none
 str:mg "str"=none
 int:mg "int"=none
 tuple:mg "tuple"=none
 list:mg "list"=none
 dict:mg "dict"=none
 all:mg "all"=none
 zip:mg "zip"=none
 max:mg "max"=none
 range:mg "range"=none
 sorted:mg "sorted"=none
end L2
namespace K4
open PySem L2
section
theorem Kq:List.Nodup [("one":Str),"other"]:=by decide +kernel
theorem Tt:GK 2 (Ox K 2 (XM (JG 0) (XM (JG 1) Bz))):=
 SY (EE (Vl (i:=0) (by decide)) (EE (Vl (i:=1) (by decide)) SZ (fun _ _ _ _ _ h z=>h _ _ z) (fun x _ _ _ _ h z=>by
  match x,z with
  |[],z=>exact h _ _ z)) (fun _ _ _ _ _ h z=>h _ _ z) (fun x _ _ _ _ h z=>by
  match x,z with
  |[v],z=>exact h _ _ z))
def Xt(n:Nat):Sp:=fun vs H Q _=>∃x y dx dy,vs=[x,y]/\Has H x dx/\Has H y dy/\dy.dep<n/\dy.wid<=1000/\∀H',Same H H'->Q (.bl (dx.beq dy)) H'
set_option tactic.hygienic true in
theorem OQ(B:Blt mg)(F:Fun K "_law_same" "_law_same" Do f fd)(G:Yo P w K mg base CX0 n f fd ["found","due"] (Xt n))(bG:Binds K fd ["found","due"] [])(mG:mg "_law_same"=some (.ref f)):
  Yo P w K mg base CX0 (n+1) f fd ["found","due"] (Xt (n+1)):=by
 refine F.oq Qi fun N1 A N0 s H T Q E hr h=>?_;obtain⟨x,y,L,v,rfl,M,D,hd,o,q⟩:=h;refine⟨_,YW (Yx (Yi Xx (pv 1) VZ (Yq _)) (YZ (Yf (Vs Xx (pv 0) VZ (Yq _)))) Yl)
  (YW (Yx (V9 (Jj rfl B.isi rfl B.bool X3 (pv 1))) (YZ (Yf (UV (Jj rfl B.isi rfl B.bool X3 (pv 0)) (Up (Vs VB (pv 0) (pv 1) (Yq _)))))) Yl)
  (YW (Yx (V9 (Jj rfl B.isi rfl B.str Xp (pv 1))) (YZ (Yf (UV (Jj rfl B.isi rfl B.str Xp (pv 0)) (Up (Vs VB (pv 0) (pv 1) (Yq _)))))) Yl)
  (YW (Yx (V9 (Jj rfl B.isi rfl B.int Ul (pv 1))) (YZ (Yf (UV (Jj rfl B.isi rfl B.int Ul (pv 0)) (UV (Qy (Jj rfl B.isi rfl B.bool X3 (pv 0))) (Up (Vs VB (pv 0) (pv 1) (Yq _))))))) Yl)
  (YW (Yx (PW.pt (UK (PW.pt (JU (V9 (Jj rfl B.isi rfl B.tuple Ve (pv 1))) (JH (Jt (V9 (Jj rfl B.isi rfl B.tuple Ve (pv 0)))))))
    (Js (PW.pt (JU (V9 (Jj rfl B.isi rfl B.list Vc (pv 1))) (JH (Jt (V9 (Jj rfl B.isi rfl B.list Vc (pv 0)))))))))) (YZ (Yf RO)) Yl)
  (YW (Yx (Yi Xq (Y0 Yu rfl B.len Zs (pa1 (pv 0))) (Y0 Yu rfl B.len Zs (pa1 (pv 1))) (Yq _)) (YZ (Yf RO)) Yl)
  (YZ (Yf (Y0 (T3 rfl) rfl B.all Wp (pa1 (V6 ["one","other"] [] (IW rfl B.zip (pa2 (pv 0) (pv 1))) Tt
    (fun cl C fp s H=>Vn (n:=2) rfl (Ys (Yk 0 Kq rfl (Or.inl rfl) (Or.inr rfl)) (Ys (Yk 1 Kq rfl (Or.inl rfl) (Or.inr rfl)) VO)))
    (fun cl C fp s H=>Va G hr rfl mG F.kp bG .nil VH (pa2 (pv 0) (pv 1))))))))))))),?_⟩
 show let a:=_;let b:=_;let c:=Yj (Y9 _ b _) a;let d:=_;let e:=Yj (Y9 _ d _) c;let f:=_;let g:=Yj (Y9 _ f _) e;let h:=_;let i:=Yj (Y9 _ h _) g;let j:=_;let k:=Yj (Y9 _ j _) i;let l:=_;Yj (Y9 _ l _) k _ _ _
 intros
 have tY:=Bx (K:=K) D;have tX:=Bx (K:=K) M;have Z:∀k,k=L.beq v->Q (.bl k) H:=fun k e=>by rw[e];exact q H (Z6 _)
 refine⟨rfl,_,rfl,?_⟩;refine Vq (fun c=>?_) (fun c=>?_)
 .have ey:y=.non:=Zr c
  have ed:v=.non:=Has.inj v .non D (by unfold Has;exact ey);subst ed;refine⟨rfl,Z _ ?_⟩;cases L <;> unfold Has at M
  .rw [M];rfl
  .rw [M];rfl
  .rw [M];rfl
  .rw [M];rfl
  .obtain ⟨a,Y,rfl,_⟩:=M;rfl
  .obtain ⟨a,Y,rfl,_⟩:=M;rfl
 have ny:v≠.non:=fun z=>by
  subst z;unfold Has at D;exact c (decide_eq_true D)
 refine⟨_,_,_,_,rfl,tY,Jm K v (by simp),_,rfl,?_⟩;refine Vq (fun c1=>?_) (fun c1=>?_)
 .cases v <;> simp[isD,tyD]at c1
  rename_i b
  have ey:y=.bl b:=by unfold Has at D;exact D
  subst ey;refine⟨_,_,_,_,rfl,tX,Jm K L (by simp),_,rfl,?_⟩;refine Vq (fun c2=>?_) (fun c2=>?_)
  .cases L <;> simp[isD,tyD]at c2
   rename_i a
   have ex:x=.bl a:=by unfold Has at M;exact M
   subst ex;refine⟨rfl,Z _ ?_⟩;rw[B3];unfold Dat.beq;rfl
  .refine Z _ ?_
   cases L <;> first|(simp[isD,tyD]at c2;done)|(unfold Dat.beq;rfl)
 refine⟨_,_,_,_,rfl,tY,Jm K v (by simp),_,rfl,?_⟩;refine Vq (fun c2=>?_) (fun c2=>?_)
 .cases v <;> simp[isD,tyD]at c2
  rename_i b
  have ey:y=.str b:=by unfold Has at D;exact D
  subst ey;refine⟨_,_,_,_,rfl,tX,Jm K L (by simp),_,rfl,?_⟩;refine Vq (fun c3=>?_) (fun c3=>?_)
  .cases L <;> simp[isD,tyD]at c3
   rename_i a
   have ex:x=.str a:=by unfold Has at M;exact M
   subst ex;refine⟨rfl,Z _ ?_⟩;rw[Me];unfold Dat.beq;rfl
  .refine Z _ ?_
   cases L <;> first|(simp[isD,tyD]at c3;done)|(unfold Dat.beq;rfl)
 refine⟨_,_,_,_,rfl,tY,Jm K v (by simp),_,rfl,?_⟩;refine Vq (fun c3=>?_) (fun c3=>?_)
 .cases v <;> simp[isD,tyD]at c3 c1
  rename_i b
  have ey:y=.int b:=by unfold Has at D;exact D
  subst ey;refine⟨_,_,_,_,rfl,tX,Jm K L (by simp),_,rfl,?_⟩;refine Vq (fun U=>?_) (fun U=>?_)
  .refine ⟨_,_,_,_,rfl,tX,Jm K L (by simp),_,rfl,_,rfl,?_⟩
   refine Vq (fun I=>?_) (fun I=>?_)
   .cases L <;> simp[isD,tyD]at U I
    rename_i a
    have ex:x=.int a:=by unfold Has at M;exact M
    subst ex;refine⟨rfl,Z _ ?_⟩;rw[Mf];unfold Dat.beq;rfl
   .refine Z _ ?_
    cases L <;> first|(simp[isD,tyD]at U I;done)|(unfold Dat.beq;rfl)
  .refine Z _ ?_
   cases L <;> first|(simp[isD,tyD]at U;done)|(unfold Dat.beq;rfl)
 cases v with
 |non=>exact Zp rfl ny
 |bl b=>simp[isD,tyD]at c1
 |int b=>simp[isD,tyD]at c3
 |str b=>simp[isD,tyD]at c2
 |tup O=>
  have G1:Dat.deps O<n:=by unfold Dat.dep at hd;exact Pa hd
  have Z9:O.length<=1000:=by unfold Dat.wid at o;exact ZZ (Nat.le_max_left _ _) o
  have Z8:Dat.wids O<=1000:=by unfold Dat.wid at o;exact ZZ (Nat.le_max_right _ _) o
  refine⟨_,_,_,_,rfl,tY,Jm K _ (by simp),_,rfl,?_⟩;refine VJ rfl ?_;refine⟨_,_,_,_,rfl,tX,Jm K L (by simp),_,rfl,?_⟩;refine Vq (fun U=>?_) (fun U=>?_)
  .refine VJ rfl (Z _ ?_)
   cases L <;> first|(simp[isD,tyD]at U;done)|(unfold Dat.beq;rfl)
  refine⟨_,_,_,_,rfl,tY,Jm K _ (by simp),_,rfl,?_⟩;refine Y1 (by simp[isD,tyD]) (Y1 (by simp) ?_);cases L <;> simp[isD,tyD]at U
  rename_i r
  unfold Has at M D;obtain⟨a,Y,rfl,u,t⟩:=M;obtain⟨b,J,rfl,m,X⟩:=D;have l1:=t.length;have l2:=X.length;refine⟨a,Y,rfl,.inr (Z0 u),b,J,rfl,.inr (Z0 m),rfl,_,rfl,?_⟩;refine Vq (fun I=>?_) (fun I=>?_)
  .refine Z _ ?_
   have ne:Y.length≠J.length:=fun z=>by rw[z]at I;simp at I
   unfold Dat.beq;rw[T5 (by rw[<-l1,<-l2];exact ne)]
  have el:Y.length=J.length:=by
   apply Classical.byContradiction;intro z;refine I ?_;have z':¬V.int (Y.length:Nat)=V.int (J.length:Nat):=fun w=>by injection w with w;exact z (by exact RQ w)
   rw[Zw z'];rfl
  have J2:Y.length<sizeLine:=Ye (by exact PZ l2 el Z9);refine⟨a,b,true,true,Y,J,rfl,Z0 u,Z0 m,?_⟩;refine VR Y.length J2 (fun i T S=>Same H S/\T=(List.range i).map fun j=>V.bl (((r[j]?).getD .non).beq ((O[j]?).getD .non))) ⟨Z6 _,rfl⟩ (fun i T S z=>by rw[z.2];simp) ?_ ?_ ?_ ?_
  .intro i T S hi z
   exact⟨Y,J,Y[i],J[i],Z0 (z.1 _ _ u),Z0 (z.1 _ _ m),by simp[hi],by simp[<-el,hi]⟩
  .intro T S z
   exact⟨Y,J,Z0 (z.1 _ _ u),Z0 (z.1 _ _ m),.inl (ZF _)⟩
  .intro i T S x H'' R hi z yl hR
   obtain⟨p,x1,y1,rfl,hp,rfl,g1,g2⟩:=yl;have e1:=g1 Y (Z0 (z.1 _ _ u));have e2:=g2 J (Z0 (z.1 _ _ m));obtain⟨d1,L2,G3⟩:=t.get e1;obtain⟨d2,N,G2⟩:=X.get e2;have s1:=z.1.trans (Yb hp (.tup [x1,y1]));refine⟨[x1,y1],Z0 YY,rfl,?_⟩;refine⟨x1,y1,d1,d2,rfl,G3.mono s1,G2.mono s1,Nat.lt_of_le_of_lt (Dat.deps_get N) G1,ZZ (Dat.wids_get N) Z8,fun H3 s3=>hR _ _ ⟨s1.trans s3,?_⟩⟩;rw[z.2,<-UJ,L2,N]
   rfl
  .intro T S p z hp
   refine⟨p,(List.range Y.length).map fun j=>((r[j]?).getD .non).beq ((O[j]?).getD .non),rfl,Z1 (by rw[YY,z.2,List.map_map];rfl),?_⟩
   have e:((List.range Y.length).map fun j=>((r[j]?).getD .non).beq ((O[j]?).getD .non)).all id=(Dat.tup r).beq (Dat.tup O):=by
    rw[PD,<-T6 (by rw[<-l1,<-l2];exact el),l1]
   rw[e];exact q _ (z.1.trans (Yb hp _))
 |lst O=>
  have G1:Dat.deps O<n:=by unfold Dat.dep at hd;exact Pa hd
  have Z9:O.length<=1000:=by unfold Dat.wid at o;exact ZZ (Nat.le_max_left _ _) o
  have Z8:Dat.wids O<=1000:=by unfold Dat.wid at o;exact ZZ (Nat.le_max_right _ _) o
  refine⟨_,_,_,_,rfl,tY,Jm K _ (by simp),_,rfl,?_⟩;refine Y1 (by simp[isD,tyD]) (Y1 (by simp) ?_);refine⟨_,_,_,_,rfl,tY,Jm K _ (by simp),_,rfl,?_⟩;refine VJ rfl ?_;refine⟨_,_,_,_,rfl,tX,Jm K L (by simp),_,rfl,?_⟩;refine Vq (fun U=>?_) (fun U=>?_)
  .refine Z _ ?_
   cases L <;> first|(simp[isD,tyD]at U;done)|(unfold Dat.beq;rfl)
  cases L <;> simp[isD,tyD]at U
  rename_i r
  unfold Has at M D;obtain⟨a,Y,rfl,u,t⟩:=M;obtain⟨b,J,rfl,m,X⟩:=D;have l1:=t.length;have l2:=X.length;refine⟨a,Y,rfl,.inl (Z1 u),b,J,rfl,.inl (Z1 m),rfl,_,rfl,?_⟩;refine Vq (fun I=>?_) (fun I=>?_)
  .refine Z _ ?_
   have ne:Y.length≠J.length:=fun z=>by rw[z]at I;simp at I
   unfold Dat.beq;rw[T5 (by rw[<-l1,<-l2];exact ne)]
  have el:Y.length=J.length:=by
   apply Classical.byContradiction;intro z;refine I ?_;have z':¬V.int (Y.length:Nat)=V.int (J.length:Nat):=fun w=>by injection w with w;exact z (by exact RQ w)
   rw[Zw z'];rfl
  have J2:Y.length<sizeLine:=Ye (by exact PZ l2 el Z9);refine⟨a,b,false,false,Y,J,rfl,Z1 u,Z1 m,?_⟩;refine VR Y.length J2 (fun i T S=>Same H S/\T=(List.range i).map fun j=>V.bl (((r[j]?).getD .non).beq ((O[j]?).getD .non))) ⟨Z6 _,rfl⟩ (fun i T S z=>by rw[z.2];simp) ?_ ?_ ?_ ?_
  .intro i T S hi z
   exact⟨Y,J,Y[i],J[i],Z1 (z.1 _ _ u),Z1 (z.1 _ _ m),by simp[hi],by simp[<-el,hi]⟩
  .intro T S z
   exact⟨Y,J,Z1 (z.1 _ _ u),Z1 (z.1 _ _ m),.inl (ZF _)⟩
  .intro i T S x H'' R hi z yl hR
   obtain⟨p,x1,y1,rfl,hp,rfl,g1,g2⟩:=yl;have e1:=g1 Y (Z1 (z.1 _ _ u));have e2:=g2 J (Z1 (z.1 _ _ m));obtain⟨d1,L2,G3⟩:=t.get e1;obtain⟨d2,N,G2⟩:=X.get e2;have s1:=z.1.trans (Yb hp (.tup [x1,y1]));refine⟨[x1,y1],Z0 YY,rfl,?_⟩;refine⟨x1,y1,d1,d2,rfl,G3.mono s1,G2.mono s1,Nat.lt_of_le_of_lt (Dat.deps_get N) G1,ZZ (Dat.wids_get N) Z8,fun H3 s3=>hR _ _ ⟨s1.trans s3,?_⟩⟩;rw[z.2,<-UJ,L2,N]
   rfl
  .intro T S p z hp
   refine⟨p,(List.range Y.length).map fun j=>((r[j]?).getD .non).beq ((O[j]?).getD .non),rfl,Z1 (by rw[YY,z.2,List.map_map];rfl),?_⟩
   have e:((List.range Y.length).map fun j=>((r[j]?).getD .non).beq ((O[j]?).getD .non)).all id=(Dat.lst r).beq (Dat.lst O):=by
    rw[PF,<-T6 (by rw[<-l1,<-l2];exact el),l1]
   rw[e];exact q _ (z.1.trans (Yb hp _))
theorem Eg:Yo P w K mg base CX0 0 f fd ["found","due"] (Xt 0):=by
 have J:∀Y H Q E,¬Xt 0 Y H Q E:=fun Y H Q E h=>by
  obtain⟨x,y,N,M,_,_,_,L,_⟩:=h;omega
 exact⟨fun Y H Q E h=>Zp h (J Y H Q E),fun A Z s H args G Y Q E _ _ _ _ h=>Zp h (J Y H Q E)⟩
theorem Dl(B:Blt mg)(F:Fun K "_law_same" "_law_same" Do f fd)(Z:Binds K fd ["found","due"] [])(Y:mg "_law_same"=some (.ref f)):∀n:Nat,Yo P w K mg base CX0 n f fd ["found","due"] (Xt n)
 |0=>Eg
 |n+1=>OQ B F (Dl B F Z Y n) Z Y
end
end K4
namespace L2
open PySem
inductive W where
 |non|tag (x:Str)|pair (a b:W)
def W.dat:W->Dat
 |.non=>.non
 |.tag x=>.str x
 |.pair a b=>.tup [a.dat,b.dat]
theorem K8(h:Has H v (W.pair a b).dat):∃p x y,v=.ref p/\H p=some (.tup [x,y])/\Has H x a.dat/\Has H y b.dat:=by
 unfold W.dat Has at h;obtain⟨p,G,rfl,L,Y⟩:=h
 match G,Y with
 |[x,y],Y=>
  unfold HasL at Y;obtain⟨M,Z⟩:=Y;unfold HasL at Z;exact⟨p,x,y,rfl,L,M,Z.1⟩
 |[],Y=>unfold HasL at Y;exact Y.elim
 |[x],Y=>unfold HasL at Y;obtain⟨_,Z⟩:=Y;unfold HasL at Z;exact Z.elim
 |_::_::_::_,Y=>
  unfold HasL at Y;obtain⟨_,Z⟩:=Y;unfold HasL at Z;obtain⟨_,J⟩:=Z;unfold HasL at J;exact J.elim
theorem EC:Has H .non W.non.dat:=by unfold W.dat Has;rfl
theorem FI{ws:List Int}(h:(ws.map V.int)[i]?=some x):∃n r,x=.int n/\ws.drop i=n::r/\ws.drop (i+1)=r/\n∈ws:=by
 rw[ZG]at h
 cases e:ws[i]? with
 |none=>rw[e]at h;cases h
 |some n=>
  rw[e]at h;cases h;obtain⟨Y,q⟩:=ZE.mp e;exact⟨n,ws.drop (i+1),rfl,by rw[List.drop_eq_getElem_cons Y,q],rfl,ZH e⟩
def UB(ws:List Int):Dat:=.tup (ws.map Dat.int)
def W.dep:W->Nat
 |.non=>0
 |.tag _=>0
 |.pair a b=>1+max a.dep b.dep
theorem NL:∀{ws:List Int}{xs:List V},HasL H xs (ws.map Dat.int)->xs=ws.map V.int
 |[],[],_=>rfl
 |[],_::_,h=>by unfold HasL at h;exact h.elim
 |_::_,[],h=>by rw[ZT]at h;unfold HasL at h;exact h.elim
 |n::ws,x::xs,h=>by
  rw[ZT]at h;unfold HasL at h;obtain⟨Y,Z⟩:=h;unfold Has at Y;rw[Y,NL Z];rfl
theorem NH:∀(ws:List Int),HasL H (ws.map V.int) (ws.map Dat.int)
 |[]=>Z4
 |n::ws=>Z2 (by unfold Has;rfl) (NH ws)
theorem Gj(h:Has H v (UB ws)):∃a,v=.ref a/\H a=some (.tup (ws.map V.int)):=by
 unfold UB Has at h;obtain⟨a,J,rfl,Y,Z⟩:=h;rw[NL Z]at Y;exact⟨a,rfl,Y⟩
theorem X5(h:H a=some (.tup (ws.map V.int))):Has H (.ref a) (UB ws):=by
 unfold UB Has;exact⟨a,_,rfl,h,NH ws⟩
theorem Jd(h:Has H v (.lst ds)):∃a xs,v=.ref a/\H a=some (.lst xs)/\HasL H xs ds:=by unfold Has at h;exact h
theorem JD(h:H a=some (.lst xs))(t:HasL H xs ds):Has H (.ref a) (.lst ds):=by unfold Has;exact⟨a,xs,rfl,h,t⟩
def VE(H:Hp)(p:Addr):Prop:=∃(a:Int)(b:Bool)(c d:Int),H p=some (.lst [.int a,.bl b,.int c,.int d])
def But(p:Addr)(H H':Hp):Prop:=∀b,b≠p->H' b=H b
theorem But.trans(a:But p H H1)(b:But p H1 H2):But p H H2:=fun c h=>(b c h).trans (a c h)
theorem But.upd{p:Addr}{H:Hp}(o:HO):But p H (upd H p o):=fun _ h=>Ya h
end L2
namespace K4
open PySem L2
theorem Qr:Yr ["script","k"] ["script","k"] (Yh IN):=Y7
theorem MG:Yr ["cell","k","number"] ["cell","k"] (Yh BL):=Y7
theorem Fp:Yr ["cell"] ["cell"] (Yh MI):=Y7
section
variable{K:W.Frag}
def Fj(K:W.Frag):Sp:=fun vs H Q _=>∃(a:Addr)(ns:List Int)(k:Int),vs=[.ref a,.int k]/\SqL K H a (ns.map V.int)/\0<=k/\∀c:Int,Q (.int c) H
theorem Od(B:Blt mg)(F:Fun K "_law_cell" "_law_cell" IN f fd):Yo P w K mg base CX0 (n+1) f fd ["script","k"] (Fj K):=by
 refine F.oq Qr fun N A Z s H O Q E R h=>?_;obtain⟨a,Y,k,rfl,J,L,q⟩:=h;refine⟨_,YW (Yx (Yi M8 (pv 1) (Y0 Yu rfl B.len Zs (pa1 (pv 0))) (Yq _)) (YZ (Yf (Yd Yv (pv 0) (pv 1) (fun _ _=>rfl)))) Yl) (YZ (Yf YX)),?_⟩;show let a:=_;let b:=_;Yj (Y9 _ b _) a _ _ _
 intros
 refine⟨a,_,rfl,.inl J,_,rfl,?_⟩;refine Vq (fun c=>?_) (fun c=>?_)
 .have c':k<((Y.map V.int).length:Nat):=Zr c
  rw[ZA]at c';have G:k.toNat<Y.length:=by omega
  have M:k=((k.toNat:Nat):Int):=by exact U1 L
  have e:atI (Y.map V.int) ((k.toNat:Nat):Int)=some (.int Y[k.toNat]):=Y3 (by rw[ZG,ZC G];rfl);rw[<-M]at e;exact⟨_,_,J,e,q _⟩
 .exact q _
def Dc:Sp:=fun vs H Q _=>∃(c k:Int),vs=[.int c,.int k]/\∀r:Int,0<=r->r<2147483563->Q (.int r) H
theorem KZ(F:Fun K "_law_mixed" "_law_mixed" BL f fd):Yo P w K mg base CX0 (n+1) f fd ["cell","k"] Dc:=by
 refine F.oq MG fun Z A Y s H N Q E T h=>?_;obtain⟨c,k,rfl,q⟩:=h;refine⟨_,YW (Yp 2 MG.nd (Y2 UM (Y2 Vo (Y2 Vo (Y2 Jl (Y2 UM (pv 0) YX) YX) (Y2 Jl YX (pv 1))) YX) YX))
  (YW (Yp 2 MG.nd (Y2 UM (Y2 Vo (Y2 Vo (Y2 Jl (pv 2) (pv 2)) (Y2 Jl YX (pv 1))) YX) YX))
  (YZ (Yf (Y2 UM (Y2 Jl (pv 2) (Y2 Vo (pv 2) YX)) YX)))),?_⟩
 show let a:=_;let b:=Yj _ a;Yj _ b _ _ _
 intros
 have R:=Int.emod_nonneg c (show(2147483647:Int)≠0 by decide);have O:=Int.emod_lt_of_pos c (show(0:Int)<2147483647 by decide);refine⟨(by show(0:Int)<_;decide),.inl ⟨by omega,by omega⟩,.inl ⟨by decide,by decide⟩,(by show(0:Int)<_;decide),?_⟩;generalize hx:(c % 2147483647*48271+69621*k+7919) % 2147483629=x;have M:0<=x:=by rw[<-hx];exact Int.emod_nonneg _ (by decide)
 have L:x<2147483629:=by rw[<-hx];exact Int.emod_lt_of_pos _ (by decide)
 refine⟨.inl ⟨by omega,by omega⟩,.inl ⟨by decide,by decide⟩,(by show(0:Int)<_;decide),?_⟩;generalize hy:(x*x+31*k+5) % 2147483587=y;have G:0<=y:=by rw[<-hy];exact Int.emod_nonneg _ (by decide)
 have J:y<2147483587:=by rw[<-hy];exact Int.emod_lt_of_pos _ (by decide)
 refine⟨.inl ⟨by omega,by omega⟩,(by show(0:Int)<_;decide),?_⟩;exact q _ (Int.emod_nonneg _ (by decide)) (Int.emod_lt_of_pos _ (by decide))
def Gy:Sp:=fun vs H Q _=>∃(c:Int),vs=[.int c]/\∀p H',H p=none->But p H H'->VE H' p->Q (.ref p) H'
theorem RV(F:Fun K "_law_stream" "_law_stream" MI f fd):Yo P w K mg base CX0 (n+1) f fd ["cell"] Gy:=by
 refine F.oq Fp fun G A Y s H L Q E M h=>?_;obtain⟨c,rfl,q⟩:=h;refine⟨_,YZ (Yf (VD (pa4 (pv 0) (AA (Vs QL (pv 0) (Y2 KL YX YX) (Yq _)) (Up (Vs XD (pv 0) (M3 Gs (Y2 KL YX YX)) (Yq _)))) YX (Y2 UM (pv 0) YX)))),?_⟩;have J:za 10 18:=⟨by decide,by decide,by decide⟩;refine⟨J,_,rfl,?_⟩;refine Vq (fun _=>?_) (fun _=>?_)
 .refine ⟨(by show(0:Int)<_;decide),sl 4,fun p Z=>?_⟩
  exact q p _ Z (But.upd _) ⟨_,_,_,_,YY⟩
 .refine ⟨J,_,rfl,?_⟩
  refine⟨(by show(0:Int)<_;decide),sl 4,fun p Z=>?_⟩;exact q p _ Z (But.upd _) ⟨_,_,_,_,YY⟩
def JE:Sp:=fun vs H Q _=>∃(p:Addr)(many:Int),vs=[.ref p,.int many]/\VE H p/\0<many/\many<1073741824/\∀(r:Int)(H':Hp),0<=r->r<many->But p H H'->VE H' p->Q (.int r) H'
theorem OM(F:Fun K "_law_take" "_law_take" Fx f fd)(G:Yo P w K mg base CX0 n g gd ["cell","k"] Dc)(S:Binds K gd ["cell","k"] [])(T:W.keepIn K (.ref g)=true)(O:mg "_law_mixed"=some (.ref g)):
  Yo P w K mg base CX0 (n+1) f fd ["stream","many"] JE:=by
 refine F.oq Fm fun I A N s H U Q E B h=>?_;obtain⟨p,many,rfl,⟨a,b,c,d,J⟩,Y,R,q⟩:=h;refine⟨_,YW (Yx (V9 (Yd Yv (pv 0) YX))
   (YW (Yp 2 Fm.nd (Y2 UM (Yd Yv (pv 0) YX) (pv 1)))
   (YW (Je (Y2 D8 (Yd Yv (pv 0) YX) (pv 1)) (Tg (pv 0) YX set_list))
   (YW (Je (UV (Vs Xq (Yd Yv (pv 0) YX) YX (Yq _)) (Up (Vs Xq (Yd Yv (pv 0) YX) (M3 Gs YX) (Yq _)))) (Tg (pv 0) YX set_list))
   (YZ (Yf (pv 2)))))) Yl)
  (YW (Je (Y2 Vo (Yd Yv (pv 0) YX) YX) (Tg (pv 0) YX set_list))
  (YZ (Yf (Y2 UM (Y2 D8 (Va G B rfl O T S .nil VH (pa2 (Yd Yv (pv 0) YX) (Yd Yv (pv 0) YX))) YX) (pv 1))))),?_⟩
 show let a:=_;let b:=Yj _ a;let c:=_;let d:=Yj _ c;let e:=Yj _ d;let f:=Yj _ e;Yj (Y9 _ f _) b _ _ _
 intros
 refine⟨_,_,Z1 J,rfl,_,rfl,?_⟩;refine Vq (fun D=>?_) (fun D=>?_)
 .refine ⟨_,_,Z1 J,rfl,Y,?_⟩
  refine⟨_,_,Z1 J,rfl,⟨Y,R⟩,p,_,0,0,rfl,rfl,J,rfl,?_⟩;have Z:upd H p (.lst [.int (a / many),.bl b,.int c,.int d]) p=some (.lst [.int (a / many),.bl b,.int c,.int d]):=YY;refine⟨_,_,Z1 Z,rfl,rfl,_,rfl,?_⟩;have M:=Int.emod_nonneg a (show many≠0 by exact D5 Y);have L:=Int.emod_lt_of_pos a Y;refine Vq (fun _=>?_) (fun _=>?_)
  .refine ⟨_,_,Z1 Z,rfl,_,rfl,rfl,p,_,1,1,rfl,rfl,Z,rfl,?_⟩
   exact q _ _ M L ((But.upd _).trans (But.upd _)) ⟨_,_,_,_,YY⟩
  .refine ⟨p,_,1,1,rfl,rfl,Z,rfl,?_⟩
   exact q _ _ M L ((But.upd _).trans (But.upd _)) ⟨_,_,_,_,YY⟩
 .refine ⟨_,_,Z1 J,rfl,p,_,2,2,rfl,rfl,J,rfl,?_⟩
  have Z:upd H p (.lst [.int a,.bl b,.int (c+1),.int d]) p=some (.lst [.int a,.bl b,.int (c+1),.int d]):=YY;refine⟨_,_,Z1 Z,rfl,_,_,Z1 Z,rfl,_,_,rfl,fun r M L=>?_⟩;refine⟨⟨by decide,by decide⟩,Y,?_⟩;exact q _ _ (Int.emod_nonneg _ (by exact D5 Y)) (Int.emod_lt_of_pos _ Y) (But.upd _) ⟨_,_,_,_,YY⟩
end
end K4
namespace L2
open PySem
def alpha(o:Nat):Str:=⟨((List.range 26).map (o + ·)).toArray⟩
def one(c:Nat):Str:=⟨#[c]⟩
def txt(cs:List Nat):Str:=⟨cs.toArray⟩
theorem Ws(o:Nat):(alpha o).length=26:=by show((List.range 26).map (o + ·)).toArray.size=26;simp
theorem Nb(o:Nat)(j:Int)(Y:0<=j)(Z:j<26):atI (alpha o).cps.toList j=some (o+j.toNat):=by
 obtain⟨n,rfl⟩:∃n:Nat,j=n:=⟨j.toNat,by exact U1 Y⟩;refine Y3 ?_;show(((List.range 26).map (o + ·)).toArray.toList)[n]?=_;rw[List.toList_toArray,ZG,List.getElem?_range (by omega)]
 rfl
theorem Kp(J:o=97\/o=65)(h:o<=c/\c<o+26):∃i rest,Builtin.Str.occurrences (alpha o) (one c) 0 (alpha o).length 1=i::rest:=by
 have Z:∀j<26,(Builtin.Str.occurrences (alpha 97) (one (97+j)) 0 26 1).isEmpty=false/\(Builtin.Str.occurrences (alpha 65) (one (65+j)) 0 26 1).isEmpty=false:=by decide +kernel
 rw[Ws]
 have Y:(Builtin.Str.occurrences (alpha o) (one c) 0 26 1).isEmpty=false:=by
  have a:=Z (c-o) (by omega);rcases J with rfl|rfl
  .have e:97+(c-97)=c:=by exact AT h
   rw[e]at a;exact a.1
  .have e:65+(c-65)=c:=by exact AS h
   rw[e]at a;exact a.2
 cases q:Builtin.Str.occurrences (alpha o) (one c) 0 26 1 with
 |nil=>rw[q]at Y;cases Y
 |cons i r=>exact⟨i,r,rfl⟩
theorem EG{Y:List Nat}(h:Y.length=8):∃a b c d e f g i,Y=[a,b,c,d,e,f,g,i]:=by
 match Y,h with
 |[a,b,c,d,e,f,g,i],_=>exact⟨a,b,c,d,e,f,g,i,rfl⟩
theorem zO(h:cs.length=8):Txt.join (Str.ofString "") (cs.map one)=txt cs:=by
 obtain⟨a,b,c,d,e,f,g,i,rfl⟩:=EG h
 rfl
theorem Mh(h:cs.length=8)(j:Nat)(Y:j<=8):Txt.slice (txt cs) none (some (j:Int))=txt (cs.take j):=by
 obtain⟨a,b,c,d,e,f,g,i,rfl⟩:=EG h
 match j,Y with
 |0,_|1,_|2,_|3,_|4,_|5,_|6,_|7,_|8,_=>rfl
theorem LP(h:cs.length=8)(j:Nat)(Y:j<=8):Txt.slice (txt cs) (some (j:Int)) none=txt (cs.drop j):=by
 obtain⟨a,b,c,d,e,f,g,i,rfl⟩:=EG h
 match j,Y with
 |0,_|1,_|2,_|3,_|4,_|5,_|6,_|7,_|8,_=>
  unfold Txt.slice;rw[show(txt [a,b,c,d,e,f,g,i]).length=8 from rfl]
  first
   |(rw[Zn (by decide +kernel)];rfl)
   |(rw[Zo (by decide +kernel)];rfl)
theorem Ro(a b:List Nat):txt a++ txt b=txt (a++ b):=by
 show(⟨a.toArray++ b.toArray⟩:Str)=⟨(a++ b).toArray⟩;simp
theorem Le(h:txt a=txt b):a=b:=by
 have q:a.toArray=b.toArray:=congrArg Str.cps h;simpa using q
theorem Rn(a:List Nat):(txt a).length=a.length:=by show a.toArray.size=a.length;simp
def wd(o:Nat)(cs:List Nat)(at' way i k:Nat):List Nat:=
 if way=0 then cs.take at'++[o+(i+5*k) % 26]++ cs.drop (at'+1)
 else if way=1 then[o+(i+5*k) % 26]++ cs.take ((3*k+at') % 8)
 else if way=2 then cs.take (k % 8+1)
 else cs.take (8-k % 8)
theorem Li(Y:k<l)(h:l<24):(i+5*k) % 26≠(i+5*l) % 26:=fun e=>by
 have q:=Nat.sub_mod_eq_zero_of_mod_eq e.symm;have f:∀d:Fin 24,d.val≠0->5*d.val % 26≠0:=by decide
 refine f ⟨l-k,by exact AR h⟩ (by show l-k≠0;exact AQ Y) ?_;show 5*(l-k) % 26=0;rw[Nat.mul_sub,<-Nat.add_sub_add_left i (5*l) (5*k)];exact q
theorem Sk(N:cs.length=8)(J:at'<8)(M:way<2/\l<24\/l<8)(Y:k<l):wd o cs at' way i k≠wd o cs at' way i l:=by
 intro e;have d:=Li (i:=i) Y (M.elim (·.2) fun z=>Nat.lt_trans z (by decide));unfold wd at e
 by_cases w0:way=0
 .rw [Zn w0,Zn w0]at e
  have G:(cs.take at').length=at':=by rw[ZL,N];exact Nat.min_eq_left (Zf J)
  have q:=congrArg (fun x:List Nat=>x[at']?) e
  have g:∀x:Nat,(cs.take at'++[x]++ cs.drop (at'+1))[at']?=some x:=fun x=>by
   rw[List.append_assoc,List.getElem?_append_right (Nat.le_of_eq G),G];simp
  exact d (Nat.add_left_cancel (ZP ((g _).symm.trans (q.trans (g _)))))
 rw[Zo w0,Zo w0]at e
 by_cases w1:way=1
 .rw [Zn w1,Zn w1]at e
  exact d (Nat.add_left_cancel (List.cons.inj e).1)
 rw[Zo w1,Zo w1]at e;have Z:l<8:=M.elim (fun z=>by omega) id;have L:=Nat.lt_trans Y Z;rw[Nat.mod_eq_of_lt Z,Nat.mod_eq_of_lt L]at e
 have q:∀{a b:Nat},cs.take a=cs.take b->a<=8->b<=8->a=b:=fun z J O=>by
  have:=congrArg List.length z;rw[ZL,ZL,N,Nat.min_eq_left J,Nat.min_eq_left O]at this;exact this
 by_cases w2:way=2
 .rw [Zn w2,Zn w2]at e
  exact Zp (Nat.succ.inj (q e L Z)) (Zc Y)
 rw[Zo w2,Zo w2]at e;have:=q e (Nat.sub_le _ _) (Nat.sub_le _ _);omega
theorem QV(Z:cs.length=8)(J:at'<8):1<=(wd o cs at' way i k).length/\(wd o cs at' way i k).length<=8:=by
 have t:∀{n:Nat},n<=8->(cs.take n).length=n:=fun h=>by rw[ZL,Z];exact Nat.min_eq_left h
 unfold wd
 split
 .rw [ZJ,ZJ,t (Zf J),List.length_drop,Z,List.length_singleton];omega
 split
 .rw [ZJ,t (Zf (Nat.mod_lt _ (by decide))),List.length_singleton]
  have:=Nat.mod_lt (3*k+at') (show 8 > 0 by decide);omega
 have Y:=Nat.mod_lt k (show 8 > 0 by decide)
 split
 .rw [t Y];exact⟨Nat.succ_pos _,Y⟩
 .rw [t (Nat.sub_le _ _)];exact⟨Nat.sub_pos_of_lt Y,Nat.sub_le _ _⟩
theorem Sl(Y:∀c∈cs,o<=c/\c<o+26):∀c∈wd o cs at' way i k,o<=c/\c<o+26:=by
 have z:o<=o+(i+5*k) % 26/\o+(i+5*k) % 26<o+26:=by omega
 intro c h;unfold wd at h
 split at h
 .simp only[ZV,ZO]at h
  rcases h with(h|h)|h
  .exact Y c (Zi h)
  .rw [h];exact z
  .exact Y c (List.mem_of_mem_drop h)
 split at h
 .simp only[ZV,ZO]at h
  rcases h with h|h
  .rw [h];exact z
  .exact Y c (Zi h)
 split at h
 .exact Y c (Zi h)
 .exact Y c (Zi h)
structure Wds(o:Nat)(ys:List Str):Prop where
 nd:ys.Nodup
 len:∀y∈ys,1<=y.length/\y.length<=8
 abc:∀y∈ys,∀c∈y.cps.toList,o<=c/\c<o+26
theorem QU(L:cs.length=8)(G:at'<8)(R:way<2/\m<=24\/m<=8)(M:∀c∈cs,o<=c/\c<o+26):Wds o ((List.range m).map fun k=>txt (wd o cs at' way i k)):=by
 refine⟨?_,fun y Y=>?_,fun y Y c Z=>?_⟩
 .show List.Pairwise _ _
  rw[List.pairwise_map];refine List.Pairwise.imp_of_mem ?_ (List.pairwise_lt_range (n:=m));intro a b O N J e;exact Sk (i:=i) L G (by have:=List.mem_range.mp N;omega) J (Le e)
 .obtain ⟨k,_,rfl⟩:=ZU.mp Y
  rw[Rn];exact QV L G
 .obtain ⟨k,_,rfl⟩:=ZU.mp Y
  exact Sl M c (by simpa[txt]using Z)
def SameB(p:Addr)(H H':Hp):Prop:=∀b o,b≠p->H b=some o->H' b=some o
theorem SameB.refl(p:Addr)(H:Hp):SameB p H H:=fun _ _ _ h=>h
theorem SameB.trans(a:SameB p H H1)(b:SameB p H1 H2):SameB p H H2:=fun c o n h=>b c o n (a c o n h)
theorem But.sb(a:But p H H'):SameB p H H':=fun b o n h=>(a b n).trans h
theorem Same.sb(a:Same H H'):SameB p H H':=fun b o _ h=>a b o h
theorem SameB.free(a:SameB p H H')(n:r≠p)(h:H' r=none):H r=none:=by
 cases e:H r with
 |none=>rfl
 |some o=>rw[a r o n e]at h;cases h
theorem SameB.put(a:SameB p H H')(h:H r=none):SameB p H (upd H' r o):=fun b u n e=>by
 rw[Ya (Yc e h)];exact a b u n e
theorem VE.ne(s:VE H p)(h:H r=none):r≠p:=fun e=>by
 obtain⟨a,b,c,d,q⟩:=s;rw[<-e,h]at q;cases q
theorem VE.keep(s:VE H p)(e:H' p=H p):VE H' p:=by
 obtain⟨a,b,c,d,q⟩:=s;exact⟨a,b,c,d,e.trans q⟩
theorem Mv(a b:Str):(a++ b).length=a.length+b.length:=by
 show(a.cps++ b.cps).size=a.cps.size+b.cps.size;simp
theorem Sg(h:cs.length=8)(lo hi:Option Int):(Txt.slice (txt cs) lo hi).length<=8:=by
 have q:=Txt.slice_le (txt cs) lo hi;rw[Rn,h]at q;exact q
theorem S9{Z Y i k:Nat}(h:Y<4):atI [V.str (txt (cs.take Z++[o+(i+5*k) % 26]++ cs.drop (Z+1))),V.str (txt ([o+(i+5*k) % 26]++ cs.take ((3*k+Z) % 8))),V.str (txt (cs.take (k % 8+1))),V.str (txt (cs.take (8-k % 8)))] (Y:Int)=some (V.str (txt (wd o cs Z Y i k))):=by
 match Y,h with
 |0,_|1,_|2,_|3,_=>rfl
end L2
namespace K4
open PySem L2
theorem UP:Yr ["stream","many","letters","ways","k","base","at","way","words","sign","some"] ["stream","many","letters","ways"] (Yh N9):=Y7
theorem SH:List.Nodup [("k":Str),"letters","stream"]:=by decide +kernel
section
def GD:Sp:=fun vs H Q _=>∃(p:Addr)(many:Nat)(o:Nat)(ways:Nat),vs=[.ref p,.int many,.str (alpha o),.int ways]/\VE H p/\(o=97\/o=65)/\0<ways/\(ways<=2/\many<=24\/ways<=4/\many<=8)/\
 ∀(r:Addr)(ys:List Str)(H':Hp),SameB p H H'->VE H' p->H r=none->r≠p->H' r=some (.lst (ys.map V.str))->ys.length=many->Wds o ys->Q (.ref r) H'
theorem KM(B:Blt mg)(F:Fun K "_law_words" "_law_words" N9 f fd)(G:Yo P w K mg base CX0 n g gd ["stream","many"] JE)(bG:Binds K gd ["stream","many"] [])(kG:W.keepIn K (.ref g)=true)(mG:mg "_law_take"=some (.ref g)):
  Yo P w K mg base CX0 (n+1) f fd ["stream","many","letters","ways"] GD:=by
 refine F.oq UP fun N4 A N0 s H u Q E hr h=>?_;obtain⟨p,many,o,D,rfl,hs,ho,hw,hm,q⟩:=h;refine⟨_,YW (Yp 5 UP.nd (UR PySem.F.plainAttrs_str PySem.F.slot_str_join PySem.F.type_str_join On Yn (pa1 (V6 ["k"] [2,0] (Ub rfl B.range (pa1 YX)) (Vl (i:=0) (by decide))
   (fun cl C fp s H=>Yk 0 SH rfl (Or.inl rfl) (Or.inr rfl)) (fun cl C fp s H=>Yd (r:=S8) Bv (pv 1) (Va G hr rfl mG kG bG .nil VH (pa2 (pv 2) YX)) (fun _ _=>rfl))))))
  (YW (Yp 6 UP.nd (Va G hr rfl mG kG bG .nil VH (pa2 (pv 0) YX)))
  (YW (Yp 7 UP.nd (Va G hr rfl mG kG bG .nil VH (pa2 (pv 0) (pv 3))))
  (YW (Yp 8 UP.nd (VD VT))
  (YW (Vu Zt rfl (Ub rfl B.range (pa1 (pv 1))) (Yk 4 UP.nd)
   (YW (Yp 9 UP.nd (Yd Bv (pv 2) (Y2 UM (Y2 Vo (UR PySem.F.plainAttrs_str PySem.F.slot_str_index PySem.F.type_str_index Ku (pv 2) (pa1 (Yd Bv (pv 5) (pv 6) (fun _ _=>rfl)))) (Y2 Jl YX (pv 4))) YX) (fun _ _=>rfl)))
   (YW (Yp 10 UP.nd (VD (pa4 (Y2 Xz (Y2 Xz (VM G8 (pv 5) Vr (VY (pv 6))) (pv 9)) (VM G8 (pv 5) (VY (Y2 Vo (pv 6) YX)) Vr)) (Y2 Xz (pv 9) (VM G8 (pv 5) Vr (VY (Y2 UM (Y2 Vo (Y2 Jl YX (pv 4)) (pv 6)) YX)))) (VM G8 (pv 5) Vr (VY (Y2 Vo (Y2 UM (pv 4) YX) YX))) (VM G8 (pv 5) Vr (VY (Y2 Jv YX (Y2 UM (pv 4) YX)))))))
   (YZ (JB (UR Zx Zy Zz JK (pv 8) (pa1 (Yd Yv (pv 10) (pv 7) (fun _ _=>rfl)))))))))
  (YZ (Yf (pv 8))))))),?_⟩
 show let a:=_;let b:=_;let c:=Yj _ b;let d:=Yj _ c;let e:=Yj (UE _ _ d) a;let f:=Yj _ e;let g:=Yj _ f;let h:=Yj _ g;Yj _ h _ _ _
 intros
 have em:((many:Nat):Int).toNat=many:=Int.toNat_natCast _;refine⟨rfl,8,rfl,by decide,by decide,?_⟩;refine VR 8 (Ye (by decide)) (fun i u L=>SameB p H L/\VE L p/\∃Z:List Nat,u=Z.map (fun c=>V.str (one c))/\Z.length=i/\∀c∈Z,o<=c/\c<o+26) ⟨SameB.refl _ _,hs,[],rfl,rfl,fun c h=>nomatch h⟩
  (fun i u L z=>by obtain⟨_,_,Z,e,l,_⟩:=z;rw[e,ZA,l]) (fun i u L O z=>O) (fun u L z=>ZF _) ?_ ?_
 .intro i u L x H'' R O z yl hR
  obtain⟨rfl,rfl⟩:=yl;obtain⟨j,T,Z,rfl,zl,zc⟩:=z;refine⟨p,26,rfl,T,by decide,by decide,fun r H3 r0 r1 b s3=>?_⟩;refine⟨alpha o,r,o+r.toNat,rfl,rfl,by rw[Ws];decide,Nb o r r0 r1,hR _ _ ⟨j.trans b.sb,s3,Z++[o+r.toNat],by rw[ZI];rfl,by rw[ZJ,zl];rfl,fun c hc=>?_⟩⟩;rcases ZV.mp hc with h|h
  .exact zc c h
  .rw [ZO.mp h];omega
 intro u H1 pl z G1;obtain⟨j,T,Z,rfl,M,zc⟩:=z;have N1:pl≠p:=T.ne G1;have e1:Z.map (fun c=>V.str (one c))=(Z.map one).map V.str:=by rw[List.map_map];rfl
 refine⟨_,pl,Z.map one,rfl,rfl,Z1 (by rw[YY,e1]),?_,?_⟩
 .obtain ⟨a,b,c,d,e,f,g,i,rfl⟩:=EG M
  show(8:Nat)+8*0<=16777216
  decide
 rw[zO M];have s1:VE (upd H1 pl (.lst (Z.map fun c=>V.str (one c)))) p:=T.keep (Ya (Zq N1));have b1:SameB p H (upd H1 pl (.lst (Z.map fun c=>V.str (one c)))):=j.trans (Yb G1 _).sb;generalize upd H1 pl (.lst (Z.map fun c=>V.str (one c)))=H2 at s1 b1;refine⟨p,8,rfl,s1,by decide,by decide,fun L2 H3 a0 a1 b3 s3=>?_⟩;refine⟨p,D,rfl,s3,by exact Ij hw,by omega,fun Z8 H4 w0 w1 b4 s4=>?_⟩;refine⟨sl 0,fun y J2=>?_⟩;have b5:SameB p H H4:=(b1.trans b3.sb).trans b4.sb;have N:y≠p:=s4.ne J2;have v:H y=none:=b5.free N J2;obtain⟨Y,rfl⟩:∃n:Nat,L2=n:=⟨L2.toNat,by exact U1 a0⟩;obtain⟨S,rfl⟩:∃n:Nat,Z8=n:=⟨Z8.toNat,by exact U1 w0⟩;have N2:Y<8:=by omega
 obtain⟨c0,G3⟩:∃c0,Z[Y]?=some c0:=⟨Z[Y],ZC (by omega)⟩;obtain⟨J,rest,G2⟩:=Kp ho (zc c0 (ZH G3));refine⟨many,rfl,by exact KF,by omega,?_⟩
 let I:Nat->St->Hp->Prop:=fun i U L=>SameB p H L/\VE L p/\L y=some (.lst (((List.range i).map fun k=>txt (wd o Z Y S J k)).map V.str))/\
  ∃j T z3,U=[some (.ref p),some (.int many),some (.str (alpha o)),some (.int D),j,some (.str (txt Z)),some (.int Y),some (.int S),some (.ref y),T,z3]
 refine WN (n:=((many:Nat):Int).toNat) I ?_ ?_ ?_
 .exact ⟨b5.put v,s4.keep (Ya (Zq N)),YY,_,_,_,rfl⟩
 .rintro BB RR i U L O ⟨y1,y2,y3,j,T,z3,rfl⟩
  rw[em]at O;have tl:(txt Z).length<=sizeLine:=by rw[Rn,M];decide
  have e0:((J:Int)+5*(0+(i:Int))) % 26=(((J+5*i) % 26:Nat):Int):=by rw[show(J:Int)+5*(0+(i:Int))=((J+5*i:Nat):Int) by omega];rfl
  have X:(0:Int)<=((J:Int)+5*(0+(i:Int))) % 26/\((J:Int)+5*(0+(i:Int))) % 26<26:=by rw[e0];exact⟨Int.natCast_nonneg _,Int.ofNat_lt.mpr (Nat.mod_lt _ (by decide))⟩
  have N3:(((J:Int)+5*(0+(i:Int))) % 26).toNat=(J+5*i) % 26:=by rw[e0];rfl
  refine⟨rfl,txt Z,Y,c0,rfl,rfl,tl,Y3 (by simpa[txt]using G3),_,_,J,rest,rfl,rfl,G2,.inl ⟨by decide,by decide⟩,(by show(0:Int)<_;decide),?_⟩;refine⟨alpha o,_,_,rfl,rfl,by rw[Ws];decide,Nb o _ X.1 X.2,?_⟩;rw[N3];have sg:(⟨#[o+(J+5*i) % 26]⟩:Str)=txt [o+(J+5*i) % 26]:=rfl;rw[sg]
  have eA:Txt.slice (txt Z) none (some (Y:Int))++ txt [o+(J+5*i) % 26]++ Txt.slice (txt Z) (some ((Y:Int)+1)) none=txt (Z.take Y++[o+(J+5*i) % 26]++ Z.drop (Y+1)):=by
   have z:((Y:Int)+1)=((Y+1:Nat):Int):=by omega
   rw[z,Mh M Y (by omega),LP M (Y+1) (by omega),Ro,Ro]
  have eB:txt [o+(J+5*i) % 26]++ Txt.slice (txt Z) none (some ((3*(0+(i:Int))+(Y:Int)) % 8))=txt ([o+(J+5*i) % 26]++ Z.take ((3*i+Y) % 8)):=by
   have z:(3*(0+(i:Int))+(Y:Int)) % 8=(((3*i+Y) % 8:Nat):Int):=by rw[show 3*(0+(i:Int))+(Y:Int)=((3*i+Y:Nat):Int) by omega];rfl
   rw[z,Mh M _ (Zf (Nat.mod_lt _ (by decide))),Ro]
  have eC:Txt.slice (txt Z) none (some ((0+(i:Int)) % 8+1))=txt (Z.take (i % 8+1)):=by
   have z:(0+(i:Int)) % 8+1=((i % 8+1:Nat):Int):=by rw[Int.zero_add];rfl
   rw[z,Mh M _ (by exact AO)]
  have eD:Txt.slice (txt Z) none (some (8-(0+(i:Int)) % 8))=txt (Z.take (8-i % 8)):=by
   have z:8-(0+(i:Int)) % 8=((8-i % 8:Nat):Int):=by exact AN
   rw[z,Mh M _ (by exact AM)]
  have small:∀m:Nat,m<=100->m<=sizeLine:=fun m h=>Zf (Ye (by exact WG h));have k1:∀lo O,(Txt.slice (txt Z) lo O).length<=8:=fun lo O=>Sg M lo O;have x1:(txt [o+(J+5*i) % 26]).length=1:=rfl;refine⟨_,rfl,txt Z,rfl,tl,_,_,rfl,rfl,small _ (by have:=k1 none (some (Y:Int));exact AL x1 this),_,rfl,txt Z,rfl,tl,_,_,rfl,rfl,small _ (by have:=k1 none (some (Y:Int));have:=k1 (some ((Y:Int)+1)) none;rw[Mv];omega),?_⟩;refine⟨.inl ⟨by decide,by decide⟩,(by show(0:Int)<_;decide),_,rfl,txt Z,rfl,tl,_,_,rfl,rfl,small _ (by have:=k1 none (some ((3*(0+(i:Int))+(Y:Int)) % 8));exact AJ x1 this),?_⟩;refine⟨(by show(0:Int)<_;decide),_,rfl,txt Z,rfl,tl,?_⟩;refine⟨(by show(0:Int)<_;decide),_,rfl,txt Z,rfl,tl,sl 4,fun t ht=>?_⟩;rw[eA,eB,eC,eD];have nt:t≠p:=y2.ne ht;have Z9:y≠t:=Yc y3 ht;refine⟨.inl ⟨rfl,_,Z1 ((Ya Z9).trans y3)⟩,_,_,Z1 YY,S9 (by omega),y,_,_,rfl,rfl,(Ya Z9).trans y3,?_,?_⟩
  .rw [ZA,ZA,List.length_range]
   exact Ye (by exact AI O hm)
  .have ft:H t=none:=y1.free nt ht
   refine⟨(y1.put ft).put v,y2.keep ((Ya (Zq N)).trans (Ya (Zq nt))),?_,_,_,_,rfl⟩;rw[YY,<-UJ,ZI]
   rfl
 .rintro U L ⟨y1,y2,y3,j,T,z3,rfl⟩
  rw[em]at y3;refine q y _ L y1 y2 v N y3 (by simp) (QU M N2 ?_ zc);omega
end
end K4
namespace L2
open PySem PySem.Spec PyProof.Rows SeqAt
mutual
def Dat.pq:Dat->Dat->Bool
 |.non,.non=>true
 |.bl a,.bl b=>a==b
 |.bl a,.int b=>(if a then 1 else 0)==b
 |.int a,.bl b=>a==(if b then 1 else 0)
 |.int a,.int b=>a==b
 |.str a,.str b=>a==b
 |.tup a,.tup b=>Dat.pqs a b
 |.lst a,.lst b=>Dat.pqs a b
 |_,_=>false
def Dat.pqs:List Dat->List Dat->Bool
 |[],[]=>true
 |a::as,b::bs=>Dat.pq a b && Dat.pqs as bs
 |_,_=>false
end
mutual
theorem Dat.pq_self:∀a:Dat,a.pq a=true
 |.non=>by unfold Dat.pq;rfl
 |.bl b=>by unfold Dat.pq;exact beq_self_eq_true b
 |.int i=>by unfold Dat.pq;exact beq_self_eq_true i
 |.str x=>by unfold Dat.pq;exact beq_self_eq_true x
 |.tup ds=>by unfold Dat.pq;exact Dat.pqs_self ds
 |.lst ds=>by unfold Dat.pq;exact Dat.pqs_self ds
theorem Dat.pqs_self:∀a:List Dat,Dat.pqs a a=true
 |[]=>by unfold Dat.pqs;rfl
 |a::as=>by unfold Dat.pqs;rw[Dat.pq_self a,Dat.pqs_self as];rfl
end
theorem Gb:∀(as bs:List Dat),((List.range (min as.length bs.length)).all (fun i=>((as[i]?).getD .non).pq ((bs[i]?).getD .non)) && as.length==bs.length)=Dat.pqs as bs
 |[],[]=>by unfold Dat.pqs;rfl
 |[],_::_=>by unfold Dat.pqs;simp
 |_::_,[]=>by unfold Dat.pqs;simp
 |a::as,b::bs=>by
  have ih:=Gb as bs;have e:min (a::as).length (b::bs).length=min as.length bs.length+1:=by simp only[Zd];exact yH
  rw[e,List.range_succ_eq_map,List.all_cons,List.all_map];unfold Dat.pqs;rw[<-ih];have Y:((a::as).length==(b::bs).length)=(as.length==bs.length):=by simp
  rw[Y,Bool.and_assoc]
  rfl
theorem L4(h:as.length=bs.length):(List.range as.length).all (fun i=>((as[i]?).getD .non).pq ((bs[i]?).getD .non))=Dat.pqs as bs:=by
 rw[<-Gb as bs,h];simp
theorem Qv(h:as.length≠bs.length):Dat.pqs as bs=false:=by
 rw[<-Gb as bs];simp[h]
theorem Um{s:Shared}(Z:HOk P w H s.heap)(h:H a=some (.tup xs)):∃Y:List Value,Vals xs Y/\s.heap.IsTuple a Y.toArray:=by
 obtain⟨_,Y,r,p⟩:=(show Vf P w H s.heap a (.tup xs)from Z a _ h);exact⟨Y,r,p.is⟩
theorem Us{s:Shared}(Z:HOk P w H s.heap)(h:H a=some (.lst xs)):∃Y:List Value,Vals xs Y/\s.heap.IsList a Y.toArray:=by
 obtain⟨_,Y,n,r,p⟩:=(show Vf P w H s.heap a (.lst xs)from Z a _ h);exact⟨Y,r,_,p,rfl,n,rfl⟩
structure Cmp(A:Around)(s:Shared)(u v:Value)(b:Bool):Prop where
 eq:EqAt A s u v b
 rc:RcAt A s u v b
 ne:RcNeAt A s u v (!b)
theorem EM{A:Around}{ds C:List Dat}{xs ys:List V}{Z Y:List Value}(ih:∀(E X:Dat){x y:V}{u v:Value},E.dep<=m->Has H x E->Has H y X->RelV x u->RelV y v->EqAt A s u v (E.pq X))(f:Dat.deps ds<=m)(M:HasL H xs ds)(L:HasL H ys C)(r:Vals xs Z)(F:Vals ys Y):∀j (D:j<Z.toArray.size) (B:j<Y.toArray.size),EqAt A s Z.toArray[j] Y.toArray[j] ((fun i=>((ds[i]?).getD .non).pq ((C[i]?).getD .non)) j):=by
 intro j D B;have t:=r.length;have q:=F.length;rw[ZM]at D B;have S:j<xs.length:=by exact W3 D t
 have I:j<ys.length:=by exact W3 B q
 obtain⟨d,U,p⟩:=M.get (ZC S);obtain⟨c,T,R⟩:=L.get (ZC I);obtain⟨Q,O,G⟩:=r.get (ZC S);obtain⟨P,N,J⟩:=F.get (ZC I);have k:Z.toArray[j]=Q:=by have z:=(ZE.mp O).2;simpa using z
 have g:Y.toArray[j]=P:=by have z:=(ZE.mp N).2;simpa using z
 dsimp only;rw[k,g,U,T];have w:=Dat.deps_get U;exact ih d c (by omega) p R G J
theorem NZ(I:HOk P w H s.heap)(n:Nat)(ih:∀m,n=m+1->∀(S F:Dat)(A:Around){x y:V}{u v:Value},S.dep<=m->Has H x S->Has H y F->RelV x u->RelV y v->V7 (m+1) A->Cmp A s u v (S.pq F))(S F:Dat)(A:Around){x y:V}{u v:Value}(l:S.dep<=n)(hx:Has H x S)(Y:Has H y F)(X:RelV x u)(G:RelV y v)(hr:V7 (n+1) A):Cmp A s u v (S.pq F):=by
 have J:=hr.units0
 cases S with
 |non=>
  unfold Has at hx;subst hx;cases X
  cases F with
  |non=>unfold Has at Y;subst Y;cases G;unfold Dat.pq;exact⟨.same _,.none_none,.none_none⟩
  |bl b=>unfold Has at Y;subst Y;cases G;unfold Dat.pq;exact⟨.none_bool _,.none_bool _,.none_bool _⟩
  |int b=>unfold Has at Y;subst Y;obtain⟨C,rfl⟩:=G;unfold Dat.pq;exact⟨.none_int _ _,.none_int _ _,.none_int _ _⟩
  |str b=>unfold Has at Y;subst Y;obtain⟨C,rfl⟩:=G;unfold Dat.pq;exact⟨.none_str _ _,.none_str _ _,.none_str _ _⟩
  |tup N=>unfold Has at Y;obtain⟨p,U,rfl,O,_⟩:=Y;cases G;obtain⟨M,r,Z⟩:=Um I O;unfold Dat.pq;exact⟨.none_tuple Z J,.none_tuple Z J,.none_tuple Z J⟩
  |lst N=>unfold Has at Y;obtain⟨p,U,rfl,O,_⟩:=Y;cases G;obtain⟨M,r,Z⟩:=Us I O;unfold Dat.pq;exact⟨.none_list Z J,.none_list Z J,.none_list Z J⟩
 |bl a=>
  unfold Has at hx;subst hx;cases X
  cases F with
  |non=>unfold Has at Y;subst Y;cases G;unfold Dat.pq;exact⟨.bool_none _,.bool_none _,.bool_none _⟩
  |bl b=>unfold Has at Y;subst Y;cases G;unfold Dat.pq;exact⟨.bool_bool _ _,.bool_bool _ _,.bool_bool _ _⟩
  |int b=>unfold Has at Y;subst Y;obtain⟨C,rfl⟩:=G;unfold Dat.pq;exact⟨.bool_int _ _ _,.bool_int _ _ _,.bool_int _ _ _⟩
  |str b=>unfold Has at Y;subst Y;obtain⟨C,rfl⟩:=G;unfold Dat.pq;exact⟨.bool_str _ _ _,.bool_str _ _ _,.bool_str _ _ _⟩
  |tup N=>unfold Has at Y;obtain⟨p,U,rfl,O,_⟩:=Y;cases G;obtain⟨M,r,Z⟩:=Um I O;unfold Dat.pq;exact⟨.bool_tuple _ Z J,.bool_tuple _ Z J,.bool_tuple _ Z J⟩
  |lst N=>unfold Has at Y;obtain⟨p,U,rfl,O,_⟩:=Y;cases G;obtain⟨M,r,Z⟩:=Us I O;unfold Dat.pq;exact⟨.bool_list _ Z J,.bool_list _ Z J,.bool_list _ Z J⟩
 |int a=>
  unfold Has at hx;subst hx;obtain⟨t,rfl⟩:=X
  cases F with
  |non=>unfold Has at Y;subst Y;cases G;unfold Dat.pq;exact⟨.int_none _ _,.int_none _ _,.int_none _ _⟩
  |bl b=>unfold Has at Y;subst Y;cases G;unfold Dat.pq;exact⟨.int_bool _ _ _,.int_bool _ _ _,.int_bool _ _ _⟩
  |int b=>unfold Has at Y;subst Y;obtain⟨C,rfl⟩:=G;unfold Dat.pq;exact⟨.int_int _ _ _ _,.int_int _ _ _ _,.int_int _ _ _ _⟩
  |str b=>unfold Has at Y;subst Y;obtain⟨C,rfl⟩:=G;unfold Dat.pq;exact⟨.int_str _ _ _ _,.int_str _ _ _ _,.int_str _ _ _ _⟩
  |tup N=>unfold Has at Y;obtain⟨p,U,rfl,O,_⟩:=Y;cases G;obtain⟨M,r,Z⟩:=Um I O;unfold Dat.pq;exact⟨.int_tuple _ _ Z J,.int_tuple _ _ Z J,.int_tuple _ _ Z J⟩
  |lst N=>unfold Has at Y;obtain⟨p,U,rfl,O,_⟩:=Y;cases G;obtain⟨M,r,Z⟩:=Us I O;unfold Dat.pq;exact⟨.int_list _ _ Z J,.int_list _ _ Z J,.int_list _ _ Z J⟩
 |str a=>
  unfold Has at hx;subst hx;obtain⟨t,rfl⟩:=X
  cases F with
  |non=>unfold Has at Y;subst Y;cases G;unfold Dat.pq;exact⟨.str_none _ _,.str_none _ _,.str_none _ _⟩
  |bl b=>unfold Has at Y;subst Y;cases G;unfold Dat.pq;exact⟨.str_bool _ _ _,.str_bool _ _ _,.str_bool _ _ _⟩
  |int b=>unfold Has at Y;subst Y;obtain⟨C,rfl⟩:=G;unfold Dat.pq;exact⟨.str_int _ _ _ _,.str_int _ _ _ _,.str_int _ _ _ _⟩
  |str b=>unfold Has at Y;subst Y;obtain⟨C,rfl⟩:=G;unfold Dat.pq;exact⟨.str_str _ _ _ _,.str_str _ _ _ _,.str_str _ _ _ _⟩
  |tup N=>unfold Has at Y;obtain⟨p,U,rfl,O,_⟩:=Y;cases G;obtain⟨M,r,Z⟩:=Um I O;unfold Dat.pq;exact⟨.str_tuple _ _ Z J,.str_tuple _ _ Z J,.str_tuple _ _ Z J⟩
  |lst N=>unfold Has at Y;obtain⟨p,U,rfl,O,_⟩:=Y;cases G;obtain⟨M,r,Z⟩:=Us I O;unfold Dat.pq;exact⟨.str_list _ _ Z J,.str_list _ _ Z J,.str_list _ _ Z J⟩
 |tup T=>
  unfold Has at hx;obtain⟨p,xs,rfl,O,D⟩:=hx;cases X;obtain⟨M,r,Z⟩:=Um I O
  cases F with
  |non=>unfold Has at Y;subst Y;cases G;unfold Dat.pq;exact⟨.tuple_none Z J,.tuple_none Z J,.tuple_none Z J⟩
  |bl b=>unfold Has at Y;subst Y;cases G;unfold Dat.pq;exact⟨.tuple_bool _ Z J,.tuple_bool _ Z J,.tuple_bool _ Z J⟩
  |int b=>unfold Has at Y;subst Y;obtain⟨C,rfl⟩:=G;unfold Dat.pq;exact⟨.tuple_int _ _ Z J,.tuple_int _ _ Z J,.tuple_int _ _ Z J⟩
  |str b=>unfold Has at Y;subst Y;obtain⟨C,rfl⟩:=G;unfold Dat.pq;exact⟨.tuple_str _ _ Z J,.tuple_str _ _ Z J,.tuple_str _ _ Z J⟩
  |lst N=>unfold Has at Y;obtain⟨q,U,rfl,hq,_⟩:=Y;cases G;obtain⟨R,Q,L⟩:=Us I hq;unfold Dat.pq;exact⟨.tuple_list Z L J,.tuple_list Z L J,.tuple_list Z L J⟩
  |tup N=>
   unfold Has at Y;obtain⟨k,U,rfl,E,B⟩:=Y;cases G;obtain⟨R,Q,L⟩:=Um I E;have l1:=D.length;have l2:=B.length;have h:=r.length;have i:=Q.length;have f:Dat.deps T+1<=n:=by unfold Dat.dep at l;exact AH l
   obtain⟨m,rfl⟩:∃m,n=m+1:=⟨n-1,by exact AG f⟩;have d:=EM (A:=A.in1) (fun S F {x y u v} z hx Y X G=>(ih m rfl S F A.in1 z hx Y X G hr.in1).eq) (show Dat.deps T<=m by exact AE f) D B r Q;have j:M.toArray.size=T.length:=by rw[ZM];exact OD l1 h
   have c:R.toArray.size=N.length:=by rw[ZM];exact OD l2 i
   have q:=RcAt.tuples (A:=A) Z L J d;have g:=RcNeAt.tuples (A:=A) Z L J d;rw[j,c,Gb]at q g;have e0:(Dat.tup T).pq (Dat.tup N)=Dat.pqs T N:=by conv=>lhs;unfold Dat.pq
   rw[e0];refine⟨?_,q,g⟩
   by_cases e:p=k
   .subst e
    rw[O]at E;cases E;rw[HasL.inj T N D B,Dat.pqs_self];exact EqAt.same _
   .exact EqAt.of_refs e q
 |lst T=>
  unfold Has at hx;obtain⟨p,xs,rfl,O,D⟩:=hx;cases X;obtain⟨M,r,Z⟩:=Us I O
  cases F with
  |non=>unfold Has at Y;subst Y;cases G;unfold Dat.pq;exact⟨.list_none Z J,.list_none Z J,.list_none Z J⟩
  |bl b=>unfold Has at Y;subst Y;cases G;unfold Dat.pq;exact⟨.list_bool _ Z J,.list_bool _ Z J,.list_bool _ Z J⟩
  |int b=>unfold Has at Y;subst Y;obtain⟨C,rfl⟩:=G;unfold Dat.pq;exact⟨.list_int _ _ Z J,.list_int _ _ Z J,.list_int _ _ Z J⟩
  |str b=>unfold Has at Y;subst Y;obtain⟨C,rfl⟩:=G;unfold Dat.pq;exact⟨.list_str _ _ Z J,.list_str _ _ Z J,.list_str _ _ Z J⟩
  |tup N=>unfold Has at Y;obtain⟨q,U,rfl,hq,_⟩:=Y;cases G;obtain⟨R,Q,L⟩:=Um I hq;unfold Dat.pq;exact⟨.list_tuple Z L J,.list_tuple Z L J,.list_tuple Z L J⟩
  |lst N=>
   unfold Has at Y;obtain⟨k,U,rfl,E,B⟩:=Y;cases G;obtain⟨R,Q,L⟩:=Us I E;have l1:=D.length;have l2:=B.length;have h:=r.length;have i:=Q.length;have f:Dat.deps T+1<=n:=by unfold Dat.dep at l;exact AH l
   obtain⟨m,rfl⟩:∃m,n=m+1:=⟨n-1,by exact AG f⟩;have d:=EM (A:=A.in1) (fun S F {x y u v} z hx Y X G=>(ih m rfl S F A.in1 z hx Y X G hr.in1).eq) (show Dat.deps T<=m by exact AE f) D B r Q;have j:M.toArray.size=T.length:=by rw[ZM];exact OD l1 h
   have c:R.toArray.size=N.length:=by rw[ZM];exact OD l2 i
   have e0:(Dat.lst T).pq (Dat.lst N)=Dat.pqs T N:=by conv=>lhs;unfold Dat.pq
   rw[e0]
   have o:RcAt A s (.ref p) (.ref k) (Dat.pqs T N)/\RcNeAt A s (.ref p) (.ref k) (!Dat.pqs T N):=by
    by_cases e:T.length=N.length
    .have q:=RcAt.lists (A:=A) Z L (by exact AD j c e) J d
     have g:=RcNeAt.lists (A:=A) Z L (by exact AD j c e) J d;rw[j,L4 e]at q g;exact⟨q,g⟩
    .have z:(M.toArray.size !=R.toArray.size)=true:=by rw[j,c];simp[e]
     rw[Qv e];exact⟨RcAt.lists_lengths (A:=A) Z L z J,RcNeAt.lists_lengths (A:=A) Z L z J⟩
   refine⟨?_,o.1,o.2⟩
   by_cases e:p=k
   .subst e
    rw[O]at E;cases E;rw[HasL.inj T N D B,Dat.pqs_self];exact EqAt.same _
   .exact EqAt.of_refs e o.1
theorem Gq(J:HOk P w H s.heap):∀(n:Nat)(Y Z:Dat)(A:Around){x y:V}{u v:Value},Y.dep<=n->Has H x Y->Has H y Z->RelV x u->RelV y v->V7 (n+1) A->Cmp A s u v (Y.pq Z)
 |0,Y,Z,A,_,_,_,_,hn,hx,hy,ru,rv,hr=>NZ J 0 (fun _ e=>nomatch e) Y Z A hn hx hy ru rv hr
 |n+1,Y,Z,A,_,_,_,_,hn,hx,hy,ru,rv,hr=>NZ J (n+1) (fun _ e Y Z A {_ _ _ _}=>by cases e;exact Gq J n Y Z A) Y Z A hn hx hy ru rv hr
section
def zw(k:Nat):R2:=fun x y H Q=>∃d e,Has H x d/\Has H y e/\d.dep<=k/\Q (.bl (d.pq e)) H
def zt(k:Nat):R2:=fun x y H Q=>∃d e,Has H x d/\Has H y e/\d.dep<=k/\Q (.bl (!d.pq e)) H
theorem Xy(G:V7 (k+1) X.A):OpR X (compareOp .Eq) (zw k):=by
 intro Y s U H x y v u Q I J Z h;obtain⟨d,e,N,M,L,q⟩:=h;exact(Gq I.hok k d e X.A L N M J Z G).rc _ _ _ _ ⟨.bl _,H,I,rfl,q⟩
theorem MV(G:V7 (k+1) X.A):OpR X (compareOp .NotEq) (zt k):=by
 intro Y s U H x y v u Q I J Z h;obtain⟨d,e,N,M,L,q⟩:=h;exact(Gq I.hok k d e X.A L N M J Z G).ne _ _ _ _ ⟨.bl _,H,I,rfl,q⟩
end
end L2
namespace L2
open PySem PySem.Spec PyProof.Rows
mutual
def Dat.st:Dat->Bool
 |.str _=>true
 |.tup ds=>Dat.sts ds
 |_=>false
def Dat.sts:List Dat->Bool
 |[]=>true
 |d::ds=>d.st && Dat.sts ds
end
theorem Dat.sts_get:∀{ds:List Dat}{i:Nat}{d:Dat},Dat.sts ds=true->ds[i]?=some d->d.st=true
 |[],i,d,_,e=>by simp at e
 |a::ds,0,d,h,e=>by
  have Y:some a=some d:=e;cases Y;unfold Dat.sts at h;exact(Bool.and_eq_true_iff.mp h).1
 |a::ds,i+1,d,h,e=>by
  unfold Dat.sts at h;exact Dat.sts_get (i:=i) (Bool.and_eq_true_iff.mp h).2 e
mutual
theorem PP:∀(a b:Dat),a.st=true->b.st=true->a.pq b=a.beq b
 |.str _,b,_,k=>by cases b <;> first|(unfold Dat.pq Dat.beq;rfl)|(unfold Dat.st at k;cases k)
 |.tup ds,b,h,k=>by
  unfold Dat.st at h
  cases b with
  |tup Y=>unfold Dat.st at k;unfold Dat.pq Dat.beq;exact Da ds Y h k
  |str _=>unfold Dat.pq Dat.beq;rfl
  |_=>unfold Dat.st at k;cases k
 |.non,_,h,_|.bl _,_,h,_|.int _,_,h,_|.lst _,_,h,_=>by unfold Dat.st at h;cases h
theorem Da:∀(a b:List Dat),Dat.sts a=true->Dat.sts b=true->Dat.pqs a b=Dat.beqs a b
 |[],b,_,_=>by cases b <;> (unfold Dat.pqs Dat.beqs;rfl)
 |_::_,[],_,_=>by unfold Dat.pqs Dat.beqs;rfl
 |a::as,b::bs,h,k=>by
  unfold Dat.sts at h k;rw[ZX]at h k;unfold Dat.pqs Dat.beqs;rw[PP a b h.1 k.1,Da as bs h.2 k.2]
end
def zu(K:W.Frag):R2:=fun x y H Q=>∃(p:Addr)(xs:List V)(ds:List Dat)(d:Dat),y=.ref p/\SqL K H p xs/\HasL H xs ds/\Has H x d/\Dat.sts ds=true/\d.st=true/\Dat.deps ds<=4/\Q (.bl (ds.any fun e=>e.beq d)) H
theorem W1:∀{xs:List V}{us:List Value}{ds:List Dat}(e:Value->Bool),Vals xs us->HasL H xs ds->(∀(i:Nat)(u:Value)(c:Dat),us[i]?=some u->ds[i]?=some c->e u=c.beq d)->us.any e=ds.any fun c=>c.beq d
 |[],_,ds,e,r,h,_=>by
  cases r
  cases ds with
  |nil=>rfl
  |cons _ _=>unfold HasL at h;exact h.elim
 |x::xs,_,ds,e,r,h,hz=>by
  cases r with
  |cons L Y=>
   cases ds with
   |nil=>unfold HasL at h;exact h.elim
   |cons c ds=>
    unfold HasL at h;rw[List.any_cons,List.any_cons,hz 0 _ c rfl rfl,W1 e Y h.2 fun i u G J Z=>hz (i+1) u G J Z]
theorem En(hr:V7 (k+6) X.A):OpR X (compareOp .In) (zu X.K):=by
 intro g s U H x y v u Q I rx a h;obtain⟨p,N,t,d,rfl,hq,D,hd,A,F,dp,q⟩:=h;cases a;obtain⟨Y,r,pl,hz⟩:=I.list hq;have P:V7 5 X.A.in1:=(hr.mono (by exact KE:6<=k+6)).in1
 let e:Value->Bool:=fun u=> @decide (∃(i:Nat)(c:Dat),Y[i]?=some u/\t[i]?=some c/\c.beq d=true) (Classical.propDecidable _)
 have C:∀(i:Nat)(u:Value)(c:Dat),Y[i]?=some u->t[i]?=some c->∀(E:V),RelV E u->Has H E c->SeqAt.EqAt X.A.in1 s u v (c.beq d):=fun i u c L B E r1 h1=>by
  have:=Dat.deps_get B;rw[<-PP c d (Dat.sts_get A B) F];exact(Gq I.hok 4 c d X.A.in1 (by exact QK this dp) h1 hd r1 rx P).eq
 have one:∀(i:Nat)(u:Value)(c:Dat),Y[i]?=some u->t[i]?=some c->e u=c.beq d:=fun i u c L B=>by
  have O:i<Y.length:=(ZE.mp L).1;have l:=r.length;obtain⟨n,Z,M⟩:=r.get (ZC (show i<N.length by exact W3 O l));rw[L]at Z;cases Z;obtain⟨m,J,G⟩:=D.get (ZC (show i<N.length by exact W3 O l));rw[B]at J;cases J
  by_cases b:c.beq d=true
  .rw [b]
   exact @decide_eq_true _ (Classical.propDecidable _) ⟨i,c,L,B,b⟩
  .have b':c.beq d=false:=by simpa using b
   rw[b'];refine @decide_eq_false _ (Classical.propDecidable _) ?_;rintro⟨j,c',o,f2,f3⟩;have f:j<Y.length:=(ZE.mp o).1;obtain⟨u2,R,S⟩:=r.get (ZC (show j<N.length by exact W3 f l));rw[o]at R;cases R;obtain⟨c2,T,z⟩:=D.get (ZC (show j<N.length by exact W3 f l));rw[f2]at T;cases T;have ev:=RelV.inj M S;rw[ev]at G;rw[Has.inj c c' G z,f3]at b';cases b'
 refine SeqAt.in_listAt e pl.isList (fun w hw=>?_) ⟨.bl _,H,I,rfl,?_⟩
 .obtain ⟨i,O,ei⟩:=List.mem_iff_getElem.mp (show w∈Y by simpa using hw)
  have l:=r.length;obtain⟨n,Z,M⟩:=r.get (ZC (show i<N.length by exact W3 O l));have L:Y[i]?=some w:=by rw[ZC O,ei]
  rw[L]at Z;cases Z;obtain⟨m,J,G⟩:=D.get (ZC (show i<N.length by exact W3 O l));rw[one i w m L J];exact C i w m L J _ M G
 .rw [show Y.toArray.any e=Y.any e by simp,W1 e r D one]
  exact q
inductive Shp where
 |tags (ts:List Str)
 |pair (a b:Str)
def Shp.dat:Shp->Dat
 |.tags ts=>.tup [.str "tags",.tup (ts.map Dat.str)]
 |.pair a b=>.tup [.str "pair",.str a,.str b]
theorem Mt:∀ts:List Str,Dat.sts (ts.map Dat.str)=true
 |[]=>by unfold Dat.sts;rfl
 |t::ts=>by rw[ZT];unfold Dat.sts;rw[Mt ts];unfold Dat.st;rfl
theorem RJ:∀ts:List Str,Dat.deps (ts.map Dat.str)=0
 |[]=>by unfold Dat.deps;rfl
 |t::ts=>by rw[ZT];unfold Dat.deps;rw[RJ ts];unfold Dat.dep;rfl
theorem Shp.st:∀s:Shp,s.dat.st=true
 |.tags ts=>by simp[Shp.dat,Dat.st,Dat.sts,Mt]
 |.pair a b=>by simp[Shp.dat,Dat.st,Dat.sts]
theorem Shp.dep:∀s:Shp,s.dat.dep<=2
 |.tags ts=>by simp[Shp.dat,Dat.dep,Dat.deps,RJ]
 |.pair a b=>by simp[Shp.dat,Dat.dep,Dat.deps]
theorem G9:∀Y:List Shp,Dat.sts (Y.map Shp.dat)=true
 |[]=>by unfold Dat.sts;rfl
 |t::ts=>by rw[ZT];unfold Dat.sts;rw[G9 ts,Shp.st];rfl
theorem RM:∀Y:List Shp,Dat.deps (Y.map Shp.dat)<=2
 |[]=>by unfold Dat.deps;decide
 |t::ts=>by rw[ZT];unfold Dat.deps;exact Nat.max_le.mpr ⟨Shp.dep t,RM ts⟩
theorem VN(s:VE H p)(h:H a=some (.tup xs)):a≠p:=fun e=>by
 obtain⟨_,_,_,_,q⟩:=s;rw[<-e,h]at q;cases q
mutual
theorem SW{H H':Hp}{p:Addr}(b:SameB p H H')(s:VE H p):∀(d:Dat){v:V},d.st=true->Has H v d->Has H' v d
 |.str _,_,_,h=>by unfold Has at h |-;exact h
 |.tup ds,_,t,h=>by
  unfold Has at h |-;obtain⟨a,Z,G,Y,J⟩:=h;unfold Dat.st at t;exact⟨a,Z,G,b _ _ (VN s Y) Y,Ts b s ds t J⟩
 |.non,_,t,_=>by unfold Dat.st at t;cases t
 |.bl _,_,t,_=>by unfold Dat.st at t;cases t
 |.int _,_,t,_=>by unfold Dat.st at t;cases t
 |.lst _,_,t,_=>by unfold Dat.st at t;cases t
theorem Ts{H H':Hp}{p:Addr}(b:SameB p H H')(s:VE H p):∀(ds:List Dat){xs:List V},Dat.sts ds=true->HasL H xs ds->HasL H' xs ds
 |[],[],_,h=>Z4
 |[],_::_,_,h=>by unfold HasL at h;exact h.elim
 |_::_,[],_,h=>by unfold HasL at h;exact h.elim
 |d::ds,x::xs,t,h=>by
  unfold HasL at h;unfold Dat.sts at t;have Y:=Bool.and_eq_true_iff.mp t;exact Z2 (SW b s d Y.1 h.1) (Ts b s ds Y.2 h.2)
end
theorem Ov{Y:List Shp}(b:SameB p H H')(s:VE H p)(h:HasL H xs (Y.map Shp.dat)):HasL H' xs (Y.map Shp.dat):=Ts b s _ (G9 Y) h
def Nums(H:Hp)(d:Addr)(ys:List Str)(lo hi:Nat):Prop:=∃kvs,H d=some (.dK kvs)/\kvs.length<=ys.length/\∀y∈ys,∃n:Nat,Y8 kvs (Sum.inr y)=some (.int n)/\lo<=n/\n<=hi
end L2
namespace K4
open PySem L2
theorem Ln:Yr ["stream","many"] ["stream","many"] (Yh BE):=Y7
theorem MF:Yr ["stream","names","counts","depths","taken","top","one","other","deep"] ["stream","names","counts","depths","taken","top"] (Yh F0):=Y7
theorem RL:(Str.ofString "abcdefghijklmnopqrstuvwxyz")=alpha 97:=by decide +kernel
theorem RZ:(Str.ofString "ABCDEFGHIJKLMNOPQRSTUVWXYZ")=alpha 65:=by decide +kernel
section
variable{K:W.Frag}
def XX:Sp:=fun vs H Q _=>∃(p:Addr)(many:Nat),vs=[.ref p,.int many]/\VE H p/\many<=8/\
 ∀(r:Addr)(ys:List Str)(H':Hp),SameB p H H'->VE H' p->H r=none->r≠p->H' r=some (.lst (ys.map V.str))->ys.length=many->Wds 97 ys->Q (.ref r) H'
theorem KO(F:Fun K "_law_small" "_law_small" BE f fd)(G:Yo P w K mg base CX0 n g gd ["stream","many","letters","ways"] GD)(R:Binds K gd ["stream","many","letters","ways"] [])(J:W.keepIn K (.ref g)=true)(Z:mg "_law_words"=some (.ref g)):
  Yo P w K mg base CX0 (n+1) f fd ["stream","many"] XX:=by
 refine F.oq Ln fun O A Y s H T Q E M h=>?_;obtain⟨p,many,rfl,L,N,q⟩:=h;refine⟨_,YZ (Yf (Va G M rfl Z J R .nil VH (pa4 (pv 0) (pv 1) Yn YX))),?_⟩;refine⟨p,many,97,4,?_,L,.inl rfl,by decide,.inr ⟨by decide,N⟩,q⟩;rw[<-RL];rfl
def Nr(K:W.Frag):Sp:=fun vs H Q _=>∃(p nm cn dp tk:Addr)(top:Nat)(ys:List Str)(ss:List Shp),vs=[.ref p,.ref nm,.ref cn,.ref dp,.ref tk,.int top]/\VE H p/\H nm=some (.lst (ys.map V.str))/\0<ys.length/\ys.length<=8/\
 Nums H cn ys 0 1000/\Nums H dp ys 0 1000/\Has H (.ref tk) (.lst (ss.map Shp.dat))/\nm≠p/\cn≠p/\dp≠p/\tk≠p/\
 ∀(v:V)(H':Hp),SameB p H H'->VE H' p->(v=.non \/ ∃(a b:Str)(r:Addr)(ca cb da db:Nat),a∈ys/\b∈ys/\v=.ref r/\H r=none/\H' r=some (.tup [.str "pair",.str a,.str b])/\
  (∀kvs,H cn=some (.dK kvs)->Y8 kvs (Sum.inr a)=some (.int ca)/\Y8 kvs (Sum.inr b)=some (.int cb))/\(∀kvs,H dp=some (.dK kvs)->Y8 kvs (Sum.inr a)=some (.int da)/\Y8 kvs (Sum.inr b)=some (.int db))/\
  1+max da db<=2/\1+ca*cb<=top/\Shp.pair a b∉ss)->Q v H'
theorem OT(B:Blt mg)(F:Fun K "_law_pair" "_law_pair" F0 f fd)(G:Yo P w K mg base CX0 (n+6) g gd ["stream","many"] JE)(bG:Binds K gd ["stream","many"] [])(kG:W.keepIn K (.ref g)=true)(mG:mg "_law_take"=some (.ref g)):
  Yo P w K mg base CX0 (n+6+1) f fd ["stream","names","counts","depths","taken","top"] (Nr K):=by
 refine F.oq MF fun R1 A G3 s H vs Q E hr h=>?_;obtain⟨p,O,cn,dp,tk,top,L,ss,rfl,hs,hn,y0,y8,hc,hd,ht,n1,n2,n3,n4,q⟩:=h;have hu:=V1 hr;refine⟨_,YW (Yp 6 MF.nd (Yd Yv (pv 1) (Va G hr rfl mG kG bG .nil VH (pa2 (pv 0) (Y0 Yu rfl B.len Zs (pa1 (pv 1))))) (fun _ _=>rfl)))
  (YW (Yp 7 MF.nd (Yd Yv (pv 1) (Va G hr rfl mG kG bG .nil VH (pa2 (pv 0) (Y0 Yu rfl B.len Zs (pa1 (pv 1))))) (fun _ _=>rfl)))
  (YW (Yp 8 MF.nd (Y2 Vo YX (Y0 (Xo rfl) rfl B.max Uk (pa2 (Yz hu (pv 3) (pv 6) (fun _ _=>rfl)) (Yz hu (pv 3) (pv 7) (fun _ _=>rfl))))))
  (YW (Yx (PW.pt (UK (Yi XE (pv 8) YX (Yq _)) (UK (Yi XE (Y2 Vo YX (Y2 Jl (Yz hu (pv 2) (pv 6) (fun _ _=>rfl)) (Yz hu (pv 2) (pv 7) (fun _ _=>rfl)))) (pv 5) (Yq _))
    (Js (Yi (En hr) (Yw (pa3 Yn (pv 6) (pv 7))) (pv 4) rfl))))) (YZ (Yf VZ)) Yl)
  (YZ (Yf (Yw (pa3 Yn (pv 6) (pv 7)))))))),?_⟩
 show let a:=_;let b:=_;let c:=Yj (Y9 _ b _) a;let d:=Yj _ c;let e:=Yj _ d;Yj _ e _ _ _
 intros
 have x:(L.map V.str).length=L.length:=ZA _
 have at_of:∀r:Int,0<=r->r<((L.map V.str).length:Nat)->∃a,a∈L/\atI (L.map V.str) r=some (.str a):=fun r r0 r1=>by
  obtain⟨m,rfl⟩:∃m:Nat,r=m:=⟨r.toNat,by exact U1 r0⟩;have hm:m<L.length:=by omega
  exact⟨L[m],List.getElem_mem hm,Y3 (by rw[ZG,ZC hm];rfl)⟩
 refine⟨O,_,rfl,.inl (Z1 hn),p,_,rfl,hs,by exact Wx x y0,by exact Pd x y8,fun r1 H1 G2 G1 b1 s1=>?_⟩;obtain⟨a,ha,ea⟩:=at_of r1 G2 G1;have N:H1 O=some (.lst (L.map V.str)):=(b1 O n1).trans hn;refine⟨_,_,Z1 N,ea,?_⟩;refine⟨O,_,rfl,.inl (Z1 N),p,_,rfl,s1,by exact Wx x y0,by exact Pd x y8,fun r2 J J2 Z9 b2 i=>?_⟩;obtain⟨b,hb,eb⟩:=at_of r2 J2 Z9;have N0:J O=some (.lst (L.map V.str)):=(b2 O n1).trans N;refine⟨_,_,Z1 N0,eb,?_⟩;have M:SameB p H J:=b1.sb.trans b2.sb;obtain⟨kc,U,_,fc⟩:=hc;obtain⟨kd,S,_,u⟩:=hd;obtain⟨l,y,_,N6⟩:=fc a ha;obtain⟨v,j,_,R3⟩:=fc b hb;obtain⟨da,X,_,N8⟩:=u a ha;obtain⟨db,C,_,N7⟩:=u b hb;have D:=M _ _ n2 U;have T:=M _ _ n3 S;have N3:VP J dp (.str a) (some (.int da)):=by rw[<-X];exact VP.k (k:=Sum.inr a) T
 have N2:VP J dp (.str b) (some (.int db)):=by rw[<-C];exact VP.k (k:=Sum.inr b) T
 have N5:VP J cn (.str a) (some (.int l)):=by rw[<-y];exact VP.k (k:=Sum.inr a) D
 have N4:VP J cn (.str b) (some (.int v)):=by rw[<-j];exact VP.k (k:=Sum.inr b) D
 refine⟨_,N3,_,N2,_,_,rfl,?_⟩;have Y:Q .non J:=q _ _ M i (.inl rfl);refine⟨_,rfl,?_⟩;refine Vq (fun c1=>VJ rfl Y) (fun c1=>?_);refine⟨_,N5,_,N4,.inl ⟨by exact oq7,by exact D7 N6⟩,_,rfl,?_⟩;refine Vq (fun c2=>VJ rfl Y) (fun c2=>?_);refine⟨sl 3,fun t I=>?_⟩;have o:=Yb I (.tup [.str "pair",.str a,.str b]);have nt:t≠p:=i.ne I
 have L2:Has J (.ref tk) (.lst (ss.map Shp.dat)):=by
  obtain⟨_,xs,er,hx,hl⟩:=Jd ht;cases er;exact JD (M _ _ n4 hx) (Ov M hs hl)
 obtain⟨_,xs,er,hx,hl⟩:=Jd (L2.mono o);cases er
 have N1:Has (upd J t (.tup [.str "pair",.str a,.str b])) (.ref t) (Shp.pair a b).dat:=by
  unfold Shp.dat Has;refine⟨t,_,rfl,YY,Z2 ?_ (Z2 ?_ (Z2 ?_ Z4))⟩ <;> (unfold Has;rfl)
 refine⟨tk,xs,_,(Shp.pair a b).dat,rfl,Z1 hx,hl,N1,G9 ss,Shp.st _,by have:=RM ss;omega,_,rfl,?_⟩;refine Vq (fun c3=>?_) (fun c3=>?_)
 .exact q _ _ (M.trans o.sb) (i.keep (Ya (Zq nt))) (.inl rfl)
 .refine ⟨sl 3,fun t2 Z=>?_⟩
  have Z8:=Yb Z (.tup [.str "pair",.str a,.str b]);have s3:VE (upd J t (.tup [.str "pair",.str a,.str b])) p:=i.keep (Ya (Zq nt));have R:t2≠p:=s3.ne Z;refine q _ _ ((M.trans o.sb).trans Z8.sb) (s3.keep (Ya (Zq R))) (.inr ⟨a,b,t2,l,v,da,db,ha,hb,rfl,((M.trans o.sb).free R Z),YY,?_,?_,?_,?_,?_⟩)
  .intro kvs e
   rw[U]at e;cases e;exact⟨y,j⟩
  .intro kvs e
   rw[S]at e;cases e;exact⟨X,C⟩
  .have c1':¬((2:Int)<1+(if(db:Int) > da then(db:Int)else da)):=fun z=>c1 (decide_eq_true z)
   split at c1' <;> omega
  .have c2':¬((top:Int)<1+(l:Int)*v):=fun z=>c2 (decide_eq_true z)
   have e:((l*v:Nat):Int)=(l:Int)*v:=by push_cast;rfl
   omega
  .intro hm
   exact c3 (List.any_eq_true.mpr ⟨_,ZU.mpr ⟨_,hm,rfl⟩,Dat.beq_self _⟩)
end
end K4
namespace L2
open PySem
def TK(H H':Hp):Prop:=∀b xs,H b=some (.tup xs)->H' b=some (.tup xs)
theorem SameB.tk(a:SameB p H H')(s:VE H p):TK H H':=fun b Y h=>a b _ (VN s h) h
theorem Ni(h:H a=some u)(Y:∀xs,u≠.tup xs):TK H (upd H a o):=fun b xs e=>by
 rw[Ya (Vv e h fun z=>Y xs z.symm)];exact e
mutual
theorem VF{H H':Hp}(b:TK H H'):∀(d:Dat){v:V},d.st=true->Has H v d->Has H' v d
 |.str _,_,_,h=>by unfold Has at h |-;exact h
 |.tup ds,_,t,h=>by
  unfold Has at h |-;obtain⟨a,Y,G,J,Z⟩:=h;unfold Dat.st at t;exact⟨a,Y,G,b _ _ J,VG b ds t Z⟩
 |.non,_,t,_=>by unfold Dat.st at t;cases t
 |.bl _,_,t,_=>by unfold Dat.st at t;cases t
 |.int _,_,t,_=>by unfold Dat.st at t;cases t
 |.lst _,_,t,_=>by unfold Dat.st at t;cases t
theorem VG{H H':Hp}(b:TK H H'):∀(ds:List Dat){xs:List V},Dat.sts ds=true->HasL H xs ds->HasL H' xs ds
 |[],[],_,h=>Z4
 |[],_::_,_,h=>by unfold HasL at h;exact h.elim
 |_::_,[],_,h=>by unfold HasL at h;exact h.elim
 |d::ds,x::xs,t,h=>by
  unfold HasL at h;unfold Dat.sts at t;have Y:=Bool.and_eq_true_iff.mp t;exact Z2 (VF b d Y.1 h.1) (VG b ds Y.2 h.2)
end
def Jf(k:Str×Shp):Dat:=.tup [.str k.1,k.2.dat]
theorem Vt:∀ks:List (Str×Shp),Dat.sts (ks.map Jf)=true
 |[]=>by unfold Dat.sts;rfl
 |k::ks=>by
  rw[ZT];unfold Dat.sts;rw[Vt ks];have e:=Shp.st k.2;simp[Jf,Dat.st,Dat.sts,e]
def KK1(top:Nat)(c d:Str->Nat)(ahead:List Str)(y:Str):Shp->Prop
 |.tags ts=>1<=ts.length/\ts.length<=4/\c y=1+ts.length/\d y=0/\ts.Nodup
 |.pair a b=>a∈ahead/\b∈ahead/\c y=1+c a*c b/\c y<=top/\d y=1+max (d a) (d b)/\d y<=2
def KK(top:Nat)(c d:Str->Nat)(ks:List (Str×Shp)):Prop:=∀(i:Nat)(y:Str)(s:Shp),ks[i]?=some (y,s)->KK1 top c d ((ks.take i).map (·.1)) y s
theorem KK1.of(h:KK1 top c d ahead y s)(G:∀z,z∈ahead\/z=y->c' z=c z)(J:∀z,z∈ahead\/z=y->d' z=d z):KK1 top c' d' ahead y s:=by
 cases s with
 |tags R=>
  obtain⟨Z,Y,N,M,L⟩:=h;exact⟨Z,Y,(G y (.inr rfl)).trans N,(J y (.inr rfl)).trans M,L⟩
 |pair a b=>
  obtain⟨Z,Y,N,M,L,O⟩:=h;refine⟨Z,Y,?_,?_,?_,?_⟩
  .rw [G y (.inr rfl),G a (.inl Z),G b (.inl Y)];exact N
  .rw [G y (.inr rfl)];exact M
  .rw [J y (.inr rfl),J a (.inl Z),J b (.inl Y)];exact L
  .rw [J y (.inr rfl)];exact O
theorem KK.snoc(h:KK top c d ks)(M:(ks.map (·.1)++[y]).Nodup)(O:KK1 top (fun z=>if z=y then n else c z) (fun z=>if z=y then m else d z) (ks.map (·.1)) y s):KK top (fun z=>if z=y then n else c z) (fun z=>if z=y then m else d z) (ks++[(y,s)]):=by
 have L:∀z∈ks.map (·.1),z≠y:=fun z Y e=>by
  have q:=List.nodup_append.mp M;exact q.2.2 z Y y (by simp) e
 intro i Z G e
 by_cases hi:i<ks.length
 .rw [List.getElem?_append_left hi]at e
  rw[List.take_append_of_le_length (Zf hi)];have N:Z∈ks.map (·.1):=ZU.mpr ⟨(Z,G),ZH e,rfl⟩
  have J:∀z,z∈(ks.take i).map (·.1)\/z=Z->z≠y:=fun z Y=>by
   rcases Y with Y|Y
   .obtain ⟨k,hk,rfl⟩:=ZU.mp Y
    exact L _ (ZU.mpr ⟨k,Zi hk,rfl⟩)
   .rw [Y];exact L _ N
  exact(h i Z G e).of (fun z Y=>Zo (J z Y)) (fun z Y=>Zo (J z Y))
 .have hl:i=ks.length:=by
   have:=(ZE.mp e).1;rw[ZJ,List.length_singleton]at this;exact P6 this hi
  subst hl;rw[List.getElem?_append_right (ZF _),Nat.sub_self]at e;have R:some (y,s)=some (Z,G):=e;cases R;rw[List.take_left];exact O
structure KJ(H:Hp)(p nm tg cn dp kl:Addr)(top:Nat)(ys tgs:List Str)(i:Nat)(kc kd:List (Key×V))(ks:List (Str×Shp))(c d:Str->Nat)(xs:List V)(H':Hp):Prop where
 sb:SameB p H H'
 st:VE H' p
 nms:H' nm=some (.lst (ys.map V.str))
 tgS:H' tg=some (.lst (tgs.map V.str))
 cns:H' cn=some (.dK kc)
 dps:H' dp=some (.dK kd)
 kls:H' kl=some (.lst xs)
 lc:kc.length<=i
 ld:kd.length<=i
 vc:∀y∈ys.take i,Y8 kc (Sum.inr y)=some (.int (c y))/\c y<=1000
 vd:∀y∈ys.take i,Y8 kd (Sum.inr y)=some (.int (d y))/\d y<=1000
 nk:ks.map (·.1)=ys.take i
 kk:KK top c d ks
 hs:HasL H' xs (ks.map Jf)
 tq:∀(i':Nat)(y:Str)(ts:List Str),ks[i']?=some (y,.tags ts)->∃r,r<4/\ts=(tgs.drop (4*i')).take (1+r)
 pq:∀(i1 i2:Nat)(y1 y2 a b:Str),ks[i1]?=some (y1,.pair a b)->ks[i2]?=some (y2,.pair a b)->i1=i2
structure KG(ks:List (Str×Shp)):Prop where
 nm:Wds 97 (ks.map (·.1))
 tg:∃tgs,Wds 65 tgs/\∀(i':Nat)(y:Str)(ts:List Str),ks[i']?=some (y,.tags ts)->∃r,r<4/\ts=(tgs.drop (4*i')).take (1+r)
 pr:∀(i1 i2:Nat)(y1 y2 a b:Str),ks[i1]?=some (y1,.pair a b)->ks[i2]?=some (y2,.pair a b)->i1=i2
theorem KG.tags(g:KG ks)(h:(y,Shp.tags ts)∈ks):Wds 65 ts:=by
 obtain⟨Y,w,q⟩:=g.tg;obtain⟨i,G,e⟩:=List.mem_iff_getElem.mp h;obtain⟨r,_,rfl⟩:=q i y ts (by rw[ZC G,e]);have Z:∀z,z∈(Y.drop (4*i)).take (1+r)->z∈Y:=fun z J=>List.mem_of_mem_drop (Zi J);exact⟨w.nd.sublist ((List.take_sublist _ _).trans (List.drop_sublist _ _)),fun z J=>w.len z (Z z J),fun z J=>w.abc z (Z z J)⟩
structure KA(H:Hp)(p nm tg cn dp kl:Addr):Prop where
 fn:H nm=none
 ft:H tg=none
 fc:H cn=none
 fd:H dp=none
 fk:H kl=none
 nmp:nm≠p
 tgp:tg≠p
 cnp:cn≠p
 dpp:dp≠p
 klp:kl≠p
 cd:cn≠dp
 nkl:nm≠kl
 tkl:tg≠kl
theorem take_snoc{α:Type}{l:List α}{a:α}(h:l[i]?=some a):l.take (i+1)=l.take i++[a]:=by
 have Y:=(ZE.mp h).1;rw[List.take_succ_eq_append_getElem Y,(ZE.mp h).2]
theorem KJ.step(j:KJ H p nm tg cn dp kl top ys tgs i kc kd ks c d xs H1)(a:KA H p nm tg cn dp kl)(nd:ys.Nodup)(R:ys[i]?=some y)(hv:Has H1 v s.dat)(hn:n<=1000)(hm:m<=1000)(k1:KK1 top (fun z=>if z=y then n else c z) (fun z=>if z=y then m else d z) (ks.map (·.1)) y s)(g1:∀ts,s=.tags ts->∃r,r<4/\ts=(tgs.drop (4*i)).take (1+r))(g2:∀a b,s=.pair a b->s∉ks.map (·.2))(T:upd (upd H1 cn (.dK (putK kc (Sum.inr y) (.int n)))) dp (.dK (putK kd (Sum.inr y) (.int m))) t=none):
  KJ H p nm tg cn dp kl top ys tgs (i+1) (putK kc (Sum.inr y) (.int n)) (putK kd (Sum.inr y) (.int m)) (ks++[(y,s)]) (fun z=>if z=y then n else c z) (fun z=>if z=y then m else d z) (xs++[.ref t])
   (upd (upd (upd (upd H1 cn (.dK (putK kc (Sum.inr y) (.int n)))) dp (.dK (putK kd (Sum.inr y) (.int m)))) t (.tup [.str y,v])) kl (.lst (xs++[.ref t]))):=by
 have tc:t≠cn:=fun e=>by rw[e,Ya a.cd,YY]at T;cases T
 have td:t≠dp:=fun e=>by rw[e,YY]at T;cases T
 have D:H1 t=none:=by rw[Ya td,Ya tc]at T;exact T
 have J:∀b o,H1 b=some o->b≠t:=fun b o e=>Yc e D;have u:kl≠cn:=Vv j.kls j.cns (fun z=>nomatch z);have f:kl≠dp:=Vv j.kls j.dps (fun z=>nomatch z);have k:=J _ _ j.kls
 have G:∀b,b≠cn->b≠dp->b≠t->b≠kl->(upd (upd (upd (upd H1 cn (.dK (putK kc (Sum.inr y) (.int n)))) dp (.dK (putK kd (Sum.inr y) (.int m)))) t (.tup [.str y,v])) kl (.lst (xs++[.ref t]))) b=H1 b:=fun b b1 b2 b3 b4=>by
  rw[Ya b4,Ya b3,Ya b2,Ya b1]
 have tk:TK H1 (upd (upd (upd (upd H1 cn (.dK (putK kc (Sum.inr y) (.int n)))) dp (.dK (putK kd (Sum.inr y) (.int m)))) t (.tup [.str y,v])) kl (.lst (xs++[.ref t]))):=fun b zs e=>
  (G b (Vv e j.cns (fun z=>nomatch z)) (Vv e j.dps (fun z=>nomatch z)) (J _ _ e) (Vv e j.kls (fun z=>nomatch z))).trans e
 have g:nm≠cn:=Vv j.nms j.cns (fun z=>nomatch z);have Q:nm≠dp:=Vv j.nms j.dps (fun z=>nomatch z);have P:tg≠cn:=Vv j.tgS j.cns (fun z=>nomatch z);have X:tg≠dp:=Vv j.tgS j.dps (fun z=>nomatch z);have tp:t≠p:=j.st.ne D
 have F:∀z∈ys.take i,z≠y:=fun z N e=>by
  have q:(ys.take i++[y]).Nodup:=by rw[<-take_snoc R];exact nd.sublist (List.take_sublist _ _)
  exact(List.nodup_append.mp q).2.2 z N y (by simp) e
 have lk:ks.length=i:=by
  have z1:=congrArg List.length j.nk;have z2:=(ZE.mp R).1;rw[ZA,ZL]at z1;exact Iy z2 z1
 have M:∀(Y:Nat)(Z:Str)(L:Shp),(ks++[(y,s)])[Y]?=some (Z,L)->ks[Y]?=some (Z,L)\/(Y=i/\L=s):=fun Y Z L e=>by
  by_cases hi:Y<ks.length
  .rw [List.getElem?_append_left hi]at e;exact .inl e
  .have hl:Y=ks.length:=by
    have z:=(ZE.mp e).1;rw[ZJ,List.length_singleton]at z;exact P6 z hi
   subst hl;rw[List.getElem?_append_right (ZF _),Nat.sub_self]at e;have e':some (y,s)=some (Z,L):=e;cases e';exact .inr ⟨lk,rfl⟩
 refine⟨fun b o hb e=>?_,?_,?_,?_,?_,?_,YY,?_,?_,?_,?_,?_,?_,?_,fun Y Z ts e=>?_,fun w I C A x l U e2=>?_⟩
 .have U:=j.sb b o hb e
  exact(G b (Yc e a.fc) (Yc e a.fd) (J _ _ U) (Yc e a.fk)).trans U
 .exact j.st.keep (G p (Zq a.cnp) (Zq a.dpp) (Zq tp) (Zq a.klp))
 .exact (G nm g Q (J _ _ j.nms) a.nkl).trans j.nms
 .exact (G tg P X (J _ _ j.tgS) a.tkl).trans j.tgS
 .rw [Ya (Zq u),Ya (Zq tc),Ya a.cd,YY]
 .rw [Ya (Zq f),Ya (Zq td),YY]
 .have:=Vp kc (Sum.inr y) (.int n);have:=j.lc;omega
 .have:=Vp kd (Sum.inr y) (.int m);have:=j.ld;omega
 .intro z N
  rw[take_snoc R]at N;rw[Jg];rcases ZV.mp N with h|h
  .have e:¬(Sum.inr z:Key)=Sum.inr y:=fun q=>F z h (by injection q)
   show(if(Sum.inr z:Key)=Sum.inr y then _ else _)=some (V.int ((if z=y then n else c z:Nat):Int))/\(if z=y then n else c z)<=1000;rw[Zo e,Zo (F z h)];exact j.vc z h
  .rw [ZO.mp h]
   show(if(Sum.inr y:Key)=Sum.inr y then _ else _)=some (V.int ((if y=y then n else c y:Nat):Int))/\(if y=y then n else c y)<=1000;rw[Zn rfl,Zn rfl];exact⟨rfl,hn⟩
 .intro z N
  rw[take_snoc R]at N;rw[Jg];rcases ZV.mp N with h|h
  .have e:¬(Sum.inr z:Key)=Sum.inr y:=fun q=>F z h (by injection q)
   show(if(Sum.inr z:Key)=Sum.inr y then _ else _)=some (V.int ((if z=y then m else d z:Nat):Int))/\(if z=y then m else d z)<=1000;rw[Zo e,Zo (F z h)];exact j.vd z h
  .rw [ZO.mp h]
   show(if(Sum.inr y:Key)=Sum.inr y then _ else _)=some (V.int ((if y=y then m else d y:Nat):Int))/\(if y=y then m else d y)<=1000;rw[Zn rfl,Zn rfl];exact⟨rfl,hm⟩
 .rw [ZI,j.nk,take_snoc R];rfl
 .exact j.kk.snoc (by rw[j.nk,<-take_snoc R];exact nd.sublist (List.take_sublist _ _)) k1
 .rw [ZI]
  refine Z5 (VG tk _ (Vt ks) j.hs) (Z3 ?_);show Has _ (.ref t) (Jf (y,s));unfold Jf Has;refine⟨t,[.str y,v],rfl,?_,Z2 (by unfold Has;rfl) (Z2 (VF tk _ (Shp.st s) hv) Z4)⟩;rw[Ya (Zq k),YY]
 .rcases M Y Z _ e with h|⟨rfl,h⟩
  .exact j.tq Y Z ts h
  .exact g1 ts h.symm
 .have mem:∀(Y:Nat)(Z:Str)(L:Shp),ks[Y]?=some (Z,L)->L∈ks.map (·.2):=fun Y Z L e=>ZU.mpr ⟨(Z,L),ZH e,rfl⟩
  rcases M w C _ U with S|⟨S,E⟩
  .rcases M I A _ e2 with B|⟨B,O⟩
   .exact j.pq w I C A x l S B
   .exact Zp (O ▸ mem w C _ S) (g2 x l O.symm)
  .rcases M I A _ e2 with B|⟨B,O⟩
   .exact Zp (E ▸ mem I A _ B) (g2 x l E.symm)
   .rw [S,B]
theorem LT(h:u D (U.set k (some v)) H):Yj (EY (tC v) (JG k)) u D U H:=h
theorem NW(xs:List V)(k:Nat)(h:k<=xs.length):Jp xs none (some (k:Int))=xs.take k:=by
 unfold Jp;rw[HT.sIx_none,HT.sIx_nat,List.drop_zero,Nat.sub_zero,Nat.min_eq_left h]
theorem O8(xs:List V)(a b:Nat)(Y:a<=b)(h:b<=xs.length):Jp xs (some (a:Int)) (some (b:Int))=(xs.drop a).take (b-a):=by
 unfold Jp;rw[HT.sIx_nat,HT.sIx_nat,Nat.min_eq_left h,Nat.min_eq_left (ZZ Y h)]
theorem Mu:∀ts:List Str,HasL H (ts.map V.str) (ts.map Dat.str)
 |[]=>Z4
 |t::ts=>Z2 (by unfold Has;rfl) (Mu ts)
theorem WK(h:Has H x (Jf (y,s))):∃a v,x=.ref a/\H a=some (.tup [.str y,v])/\Has H v s.dat:=by
 unfold Jf Has at h;obtain⟨a,L,rfl,M,Y⟩:=h
 match L,Y with
 |[u,v],Y=>
  unfold HasL at Y;obtain⟨G,Z⟩:=Y;unfold HasL at Z;unfold Has at G;subst G;exact⟨a,v,rfl,M,Z.1⟩
 |[],Y=>unfold HasL at Y;exact Y.elim
 |[x],Y=>unfold HasL at Y;obtain⟨_,Z⟩:=Y;unfold HasL at Z;exact Z.elim
 |_::_::_::_,Y=>unfold HasL at Y;obtain⟨_,Z⟩:=Y;unfold HasL at Z;obtain⟨_,J⟩:=Z;unfold HasL at J;exact J.elim
theorem VQ(Y:St->Hp->Prop)(G:∀Z J,Y Z J->u D Z J)(main:∀N:St->Hp->Prop,(∀Z J,Y Z J->N Z J)->t {D with nx:=N} U H):Yj t u D U H:=main _ G
theorem KJ.sameB(j:KJ H p nm tg cn dp kl top ys tgs i kc kd ks c d xs H1)(a:KA H p nm tg cn dp kl)(b:SameB p H1 H2)(s:VE H2 p):KJ H p nm tg cn dp kl top ys tgs i kc kd ks c d xs H2:=
 ⟨j.sb.trans b,s,b _ _ a.nmp j.nms,b _ _ a.tgp j.tgS,b _ _ a.cnp j.cns,b _ _ a.dpp j.dps,b _ _ a.klp j.kls,j.lc,j.ld,j.vc,j.vd,j.nk,j.kk,VG (b.tk j.st) _ (Vt ks) j.hs,j.tq,j.pq⟩
end L2
namespace K4
open PySem L2
theorem Jx:Yr ["stream","most","top","names","tags","counts","depths","kinds","k","shape"] ["stream","most","top"] (Yh BN):=Y7
theorem Om:List.Nodup [("kind":Str)]:=by decide +kernel
section
def Ns(H:Hp)(cn:Addr)(ks:List (Str×Shp))(c:Str->Nat):Prop:=∃kc,H cn=some (.dK kc)/\∀y∈ks.map (·.1),Y8 kc (Sum.inr y)=some (.int (c y:Nat))
def Rv:Sp:=fun vs H Q _=>∃(p:Addr)(most top:Nat),vs=[.ref p,.int most,.int top]/\VE H p/\0<most/\most<=6/\top<=1000/\
 ∀(r kl cn:Addr)(ks:List (Str×Shp))(c d:Str->Nat)(xs:List V)(H':Hp),SameB p H H'->VE H' p->H r=none->r≠p->H' r=some (.tup [.ref kl,.ref cn])->H kl=none->kl≠p->H' kl=some (.lst xs)->HasL H' xs (ks.map Jf)->
  KK top c d ks->(ks.map (·.1)).Nodup->0<ks.length->ks.length<=6->KG ks->H cn=none->cn≠p->Ns H' cn ks c->Q (.ref r) H'
theorem Kf(B:Blt mg)(F:Fun K "_law_kinds" "_law_kinds" BN f fd)(GT:Yo P w K mg base CX0 n gt td ["stream","many"] JE)(bT:Binds K td ["stream","many"] [])(kT:W.keepIn K (.ref gt)=true)(mT:mg "_law_take"=some (.ref gt))(GS:Yo P w K mg base CX0 n gs sd ["stream","many"] XX)(bS:Binds K sd ["stream","many"] [])(kS:W.keepIn K (.ref gs)=true)(mS:mg "_law_small"=some (.ref gs))(GW:Yo P w K mg base CX0 n gw wdd ["stream","many","letters","ways"] GD)(bW:Binds K wdd ["stream","many","letters","ways"] [])(kW:W.keepIn K (.ref gw)=true)(mW:mg "_law_words"=some (.ref gw))(GP:Yo P w K mg base CX0 n gp pd ["stream","names","counts","depths","taken","top"] (Nr K))(bP:Binds K pd ["stream","names","counts","depths","taken","top"] [])(kP:W.keepIn K (.ref gp)=true)(mP:mg "_law_pair"=some (.ref gp)):
  Yo P w K mg base CX0 (n+1) f fd ["stream","most","top"] Rv:=by
 refine F.oq Jx fun cdv A outer s H vs Q E hr h=>?_;obtain⟨p,most,top,rfl,hs,m0,m6,t3,q⟩:=h;have hu:=V1 hr;refine⟨_,YW (Yp 3 Jx.nd (Va GS hr rfl mS kS bS .nil VH (pa2 (pv 0) (Y2 Vo YX (Va GT hr rfl mT kT bT .nil VH (pa2 (pv 0) (pv 1)))))))
  (YW (Yp 4 Jx.nd (Va GW hr rfl mW kW bW .nil VH (pa4 (pv 0) (Y2 Jl YX (Y0 Yu rfl B.len Zs (pa1 (pv 3)))) Yn YX)))
  (YW (Yp 5 Jx.nd JC)
  (YW (Yp 6 Jx.nd JC)
  (YW (Yp 7 Jx.nd (VD VT))
  (YW (Vu Zt rfl (Ub rfl B.range (pa1 (Y0 Yu rfl B.len Zs (pa1 (pv 3))))) (Yk 8 Jx.nd)
   (YW (Yp 9 Jx.nd VZ)
   (YW (Yx (PW.pt (JU (Yi XE (pv 8) YX (Yq _)) (JH (Yi VB (Va GT hr rfl mT kT bT .nil VH (pa2 (pv 0) YX)) YX (Yq _)))))
    (YZ (Yp 9 Jx.nd (Va GP hr rfl mP kP bP .nil VH (pa6 (pv 0) (VM Xd (pv 3) Vr (VY (pv 8))) (pv 5) (pv 6) (V6 ["kind"] [] (V5 (pv 7)) (Vl (i:=0) (by decide)) (fun cl C fp s H=>Yk 0 Om rfl (Or.inl rfl) (Or.inr rfl)) (fun cl C fp s H=>Yd (r:=Ta K) Yg (pv 0) YX)) (pv 2))))) Yl)
   (YW (Yx (Yi Xx (pv 9) VZ (Yq _))
    (YW (Yp 9 Jx.nd (Yw (pa2 Yn (Y4 Vm rfl B.tuple Ve (pa1 (VM Xd (pv 4) (VY (Y2 Jl YX (pv 8)))
      (VY (Y2 Vo (Y2 Vo (Y2 Jl YX (pv 8)) YX) (Va GT hr rfl mT kT bT .nil VH (pa2 (pv 0) YX))))))))))
     (YW (VW hu (pv 5) (Yd Yv (pv 3) (pv 8) (fun _ _=>rfl)) (Y2 Vo YX (Y0 Yu rfl B.len Zs (pa1 (Yd Yg (pv 9) YX)))) rfl)
     (YZ (VW hu (pv 6) (Yd Yv (pv 3) (pv 8) (fun _ _=>rfl)) YX rfl))))
    (YW (VW hu (pv 5) (Yd Yv (pv 3) (pv 8) (fun _ _=>rfl)) (Y2 Vo YX (Y2 Jl (Yz hu (pv 5) (Yd Yg (pv 9) YX) (fun _ _=>rfl)) (Yz hu (pv 5) (Yd Yg (pv 9) YX) (fun _ _=>rfl)))) rfl)
     (YZ (VW hu (pv 6) (Yd Yv (pv 3) (pv 8) (fun _ _=>rfl)) (Y2 Vo YX (Y0 (Xo rfl) rfl B.max Uk (pa2 (Yz hu (pv 6) (Yd Yg (pv 9) YX) (fun _ _=>rfl)) (Yz hu (pv 6) (Yd Yg (pv 9) YX) (fun _ _=>rfl))))) rfl))))
   (YZ (JB (UR Zx Zy Zz JK (pv 7) (pa1 (Yw (pa2 (Yd Yv (pv 3) (pv 8) (fun _ _=>rfl)) (pv 9))))))))))
  ) (YZ (Yf (Yw (pa2 (pv 7) (pv 5)))))))))),?_⟩
 show let a:=_;let b:=_;let c:=_;let d:=Yj _ c;let e:=Yj _ d;let f:=_;let g:=Yj _ f;let h:=Yj (Y9 _ e g) b;let i:=_;let j:=Yj (Y9 _ i _) h;let k:=Yj _ j;let l:=Yj (UE _ _ k) a;let m:=Yj _ l;let n:=Yj _ m;let o:=Yj _ n;let p:=Yj _ o;Yj _ p _ _ _
 intros
 refine⟨p,most,rfl,hs,by exact Ij m0,by omega,fun r M r0 r1 b1 s1=>?_⟩;obtain⟨rn,rfl⟩:∃m:Nat,r=m:=⟨r.toNat,by exact U1 r0⟩;refine⟨p,1+rn,(by show[V.ref p,V.int (1+(rn:Int))]=[V.ref p,V.int ((1+rn:Nat):Int)];push_cast;rfl),s1,by omega,fun u Y H2 b2 s2 f2 R5 F9 hly N2=>?_⟩;have lm:(Y.map V.str).length=Y.length:=ZA _;refine⟨u,_,rfl,.inl (Z1 F9),.inl ⟨by decide,by decide⟩,p,4*Y.length,65,2,(by rw[<-RZ,lm];show[V.ref p,V.int (4*(Y.length:Int)),_,V.int 2]=[V.ref p,V.int ((4*Y.length:Nat):Int),_,V.int 2];push_cast;rfl),s2,.inr rfl,by decide,.inl ⟨by decide,by omega⟩,fun tg L H3 b3 s3 f3 F3 N5 hlt D0=>?_⟩;intro G N0 N N8;refine⟨sl 0,fun D J2=>?_⟩;have bH:SameB p H H3:=(b1.sb.trans b2).trans b3;have Z9:=b3 _ _ R5 F9;have cd:G≠N:=fun e=>by rw[<-e,YY]at N8;cases N8
 have X:H3 N=none:=by rw[Ya (Zq cd)]at N8;exact N8
 have N4:D≠G:=fun e=>by rw[e,Ya cd,YY]at J2;cases J2
 have R7:D≠N:=fun e=>by rw[e,YY]at J2;cases J2
 have S:H3 D=none:=by rw[Ya R7,Ya N4]at J2;exact J2
 have a:KA H p u tg G N D:=⟨b1.sb.free R5 f2,(b1.sb.trans b2).free F3 f3,bH.free (s3.ne N0) N0,bH.free (s3.ne X) X,bH.free (s3.ne S) S,R5,F3,s3.ne N0,s3.ne X,s3.ne S,cd,Yc Z9 S,Yc N5 S⟩;have G1:u≠G:=Yc Z9 N0;have F4:u≠N:=Yc Z9 X;have I9:tg≠G:=Yc N5 N0;have I8:tg≠N:=Yc N5 X;have R1:upd (upd (upd H3 G (.dK [])) N (.dK [])) D (.lst []) u=some (.lst (Y.map V.str)):=by rw[Ya a.nkl,Ya F4,Ya G1];exact Z9
 refine⟨u,_,rfl,.inl (Z1 R1),_,rfl,by exact KF,by omega,?_⟩
 let I:Nat->St->Hp->Prop:=fun i U H'=>∃kc kd T c d xs,KJ H p u tg G N D top Y L i kc kd T c d xs H'/\
  ∃z1 z2,U=[some (.ref p),some (.int most),some (.int top),some (.ref u),some (.ref tg),some (.ref G),some (.ref N),some (.ref D),z1,z2]
 refine WN (n:=(((Y.map V.str).length:Nat):Int).toNat) I ?_ ?_ ?_
 .refine ⟨[],[],[],fun _=>0,fun _=>0,[],⟨?_,?_,R1,?_,?_,?_,YY,ZF _,ZF _,fun y hy=>by simp at hy,fun y hy=>by simp at hy,rfl,fun i y s e=>by simp at e,Z4,fun i y s e=>by simp at e,fun i j y z a b e=>by simp at e⟩,_,_,rfl⟩
  .exact (((bH.put a.fc)).put a.fd).put a.fk
  .exact s3.keep (by rw[Ya (Zq a.klp),Ya (Zq a.dpp),Ya (Zq a.cnp)])
  .rw [Ya a.tkl,Ya I8,Ya I9];exact N5
  .rw [Ya (Zq N4),Ya cd,YY]
  .rw [Ya (Zq R7),YY]
 .rintro BB RR i U H' hi ⟨kc,kd,T,c,d,xs,j,z1,z2,rfl⟩
  have Z:i<Y.length:=by exact Cb hi lm
  obtain⟨y,hy⟩:∃y,Y[i]?=some y:=⟨Y[i],ZC Z⟩;have i0:(0+(i:Int))=(i:Int):=by exact P5
  have N1:atI (Y.map V.str) (0+(i:Int))=some (.str y):=by rw[i0];exact Y3 (by rw[ZG,hy];rfl)
  have ltop:i<=Y.length:=Zf Z;have Z8:Y.length<=6:=by omega
  refine LT ?_;refine VQ (fun s1 M=>∃v,KJ H p u tg G N D top Y L i kc kd T c d xs M/\s1=[some (.ref p),some (.int most),some (.int top),some (.ref u),some (.ref tg),some (.ref G),some (.ref N),some (.ref D),some (.int (0+(i:Int))),some v]/\
   (v=.non \/ ∃(e g:Str)(r:Addr),v=.ref r/\M r=some (.tup [.str "pair",.str e,.str g])/\e∈Y.take i/\g∈Y.take i/\1+max (d e) (d g)<=2/\1+c e*c g<=top/\Shp.pair e g∉T.map (·.2))) ?_ ?_
  .rintro s1 M ⟨v,J,rfl,hv⟩
   refine VQ (fun s2 H2=>∃(M:Hp)(s:Shp)(v:V)(n m:Nat),KJ H p u tg G N D top Y L i kc kd T c d xs M/\Has M v s.dat/\n<=1000/\m<=1000/\
    KK1 top (fun z=>if z=y then n else c z) (fun z=>if z=y then m else d z) (T.map (·.1)) y s/\(∀O,s=.tags O->∃r,r<4/\O=(L.drop (4*i)).take (1+r))/\(∀a b,s=.pair a b->s∉T.map (·.2))/\H2=upd (upd M G (.dK (putK kc (Sum.inr y) (.int n)))) N (.dK (putK kd (Sum.inr y) (.int m)))/\
    s2=[some (.ref p),some (.int most),some (.int top),some (.ref u),some (.ref tg),some (.ref G),some (.ref N),some (.ref D),some (.int (0+(i:Int))),some v]) ?_ ?_
   .rintro s2 H2 ⟨M,s,v,n',m',J,hv,hn',hm',k1,g1,g2,rfl,rfl⟩
    have kc1:D≠G:=N4;have nm1:u≠G:=G1;have T0:upd (upd M G (.dK (putK kc (Sum.inr y) (.int n')))) N (.dK (putK kd (Sum.inr y) (.int m'))) D=some (.lst xs):=by rw[Ya R7,Ya N4];exact J.kls
    have hn2:upd (upd M G (.dK (putK kc (Sum.inr y) (.int n')))) N (.dK (putK kd (Sum.inr y) (.int m'))) u=some (.lst (Y.map V.str)):=by rw[Ya F4,Ya G1];exact J.nms
    refine⟨.inl ⟨rfl,_,Z1 T0⟩,_,_,Z1 hn2,N1,sl 2,fun t ht=>?_⟩;have ktt:D≠t:=Yc T0 ht;refine⟨D,xs,_,rfl,rfl,(Ya ktt).trans T0,?_,_,_,_,_,_,_,J.step a N2.nd hy hv hn' hm' k1 g1 g2 ht,_,_,rfl⟩;have lx:=J.hs.length;rw[ZA]at lx
    have lk:T.length=i:=by
     have:=congrArg List.length J.nk;rw[ZA,ZL]at this;exact Iy Z this
    exact Ye (by exact P4 Z lx lk Z8)
   .intro NX K2
    have ny:y∉Y.take i:=fun hm=>by
     have q':(Y.take i++[y]).Nodup:=by rw[<-take_snoc hy];exact N2.nd.sublist (List.take_sublist _ _)
     exact(List.nodup_append.mp q').2.2 y hm y (by simp) rfl
    refine⟨rfl,_,rfl,?_⟩;rcases hv with rfl|⟨e,g,r,rfl,G2,he,hg,G3,R3,I1⟩
    .refine VJ rfl ?_
     refine⟨.inl ⟨by decide,by decide⟩,_,rfl,.inl ⟨by decide,by decide⟩,p,4,rfl,J.st,by decide,by decide,fun r H2 r0 r1 b2 s2=>?_⟩;obtain⟨rn,rfl⟩:∃m:Nat,r=m:=⟨r.toNat,by exact U1 r0⟩;have j2:=J.sameB a b2.sb s2;refine⟨_,rfl,tg,_,rfl,Z1 j2.tgS,fun q1 N7=>⟨q1,_,rfl,.inl ⟨Z1 YY,fun l hl=>⟨sl 2,fun t ht=>?_⟩⟩⟩⟩;have e1:(4*(0+(i:Int)))=((4*i:Nat):Int):=by omega
     have e2:(4*(0+(i:Int))+1+(rn:Int))=((4*i+1+rn:Nat):Int):=by omega
     have lt:(L.map V.str).length=L.length:=ZA _
     have ec:Jp (L.map V.str) (some (4*(0+(i:Int)))) (some (4*(0+(i:Int))+1+(rn:Int)))=(((L.drop (4*i)).take (1+rn)).map V.str):=by
      rw[e2,e1,O8 _ _ _ (by exact Ca) (by omega),List.map_take,List.map_drop]
      congr 1
      omega
     rw[ec]at hl ht |-;generalize hts:(L.drop (4*i)).take (1+rn)=O at hl ht |-;have I7:O.Nodup:=by rw[<-hts];exact List.Pairwise.sublist ((List.take_sublist _ _).trans (List.drop_sublist _ _)) D0.nd
     have R6:O.length=1+rn:=by rw[<-hts,ZL,List.length_drop];exact CZ Z hlt r1
     have st1:=Yb N7 (.lst (O.map V.str));have S2:=Yb hl (.tup (O.map V.str));have F1:=Yb ht (.tup [.str "tags",.ref l]);have st:=(st1.trans S2).trans F1
     have s5:VE (upd (upd (upd H2 q1 (.lst (O.map V.str))) l (.tup (O.map V.str))) t (.tup [.str "tags",.ref l])) p:=by
      obtain⟨a1,a2,a3,a4,a5⟩:=j2.st;exact⟨a1,a2,a3,a4,st _ _ a5⟩
     have j5:=j2.sameB a st.sb s5;have R8:=F1 _ _ (YY (H:=upd H2 q1 (.lst (O.map V.str))) (a:=l) (o:=.tup (O.map V.str)));generalize hH5:upd (upd (upd H2 q1 (.lst (O.map V.str))) l (.tup (O.map V.str))) t (.tup [.str "tags",.ref l])=H5 at j5 R8 |-;have F7:H5 t=some (.tup [.str "tags",.ref l]):=by rw[<-hH5,YY]
     have en:(1:Int)+(((O.map V.str).length:Nat):Int)=((1+O.length:Nat):Int):=by rw[ZA];push_cast;rfl
     refine⟨_,_,Z0 F7,rfl,l,_,rfl,.inr (Z0 R8),?_⟩;dsimp only[rI0,rI,J9];rw[en];have lc:=j5.lc;have ld:=j5.ld;refine⟨_,_,Z1 j5.nms,N1,_,Ja.k (k:=Sum.inr y) j5.cns (Ye (by exact D6 Z lc Z8)),?_⟩;refine⟨_,_,Z1 ((Ya G1).trans j5.nms),N1,_,Ja.k (k:=Sum.inr y) ((Ya (Zq cd)).trans j5.dps) (Ye (by exact D6 Z ld Z8)),?_⟩;refine K2 _ _ ⟨H5,.tags O,.ref t,1+O.length,0,j5,?_,by exact CY R6 r1,by decide,⟨by exact CW R6,by exact CV R6 r1,Zn rfl,Zn rfl,I7⟩,fun ts' e=>⟨rn,by exact CU r1,by cases e;exact hts.symm⟩,(fun _ _ e=>nomatch e),rfl,rfl⟩;unfold Shp.dat Has;refine⟨t,_,rfl,F7,Z2 (by unfold Has;rfl) (Z2 ?_ Z4)⟩;unfold Has;exact⟨l,_,rfl,R8,Mu O⟩
    .refine Y1 (by simp) ?_
     have lc:=J.lc;have ld:=J.ld;obtain⟨I6,ce1⟩:=J.vc e he;obtain⟨I5,cg1⟩:=J.vc g hg;obtain⟨I4,de1⟩:=J.vd e he;obtain⟨I3,dg1⟩:=J.vd g hg;have gce:VP M G (.str e) (some (.int (c e))):=by rw[<-I6];exact VP.k (k:=Sum.inr e) J.cns
     have gcg:VP M G (.str g) (some (.int (c g))):=by rw[<-I5];exact VP.k (k:=Sum.inr g) J.cns
     have en:(1:Int)+(c e:Int)*(c g:Int)=((1+c e*c g:Nat):Int):=by push_cast;rfl
     refine⟨_,_,Z0 G2,rfl,_,gce,_,_,Z0 G2,rfl,_,gcg,.inl ⟨by exact oq7,by exact D7 ce1⟩,?_⟩;dsimp only[rI0,rI,J9];rw[en];refine⟨_,_,Z1 J.nms,N1,_,Ja.k (k:=Sum.inr y) J.cns (Ye (by exact D6 Z lc Z8)),?_⟩;have N6:upd M G (.dK (putK kc (Sum.inr y) (.int ((1+c e*c g:Nat):Int)))) r=some (.tup [.str "pair",.str e,.str g]):=(Ya (Vv G2 J.cns (fun z=>nomatch z))).trans G2;have T2:upd M G (.dK (putK kc (Sum.inr y) (.int ((1+c e*c g:Nat):Int)))) N=some (.dK kd):=(Ya (Zq cd)).trans J.dps;have gde:VP (upd M G (.dK (putK kc (Sum.inr y) (.int ((1+c e*c g:Nat):Int))))) N (.str e) (some (.int (d e))):=by rw[<-I4];exact VP.k (k:=Sum.inr e) T2
     have gdg:VP (upd M G (.dK (putK kc (Sum.inr y) (.int ((1+c e*c g:Nat):Int))))) N (.str g) (some (.int (d g))):=by rw[<-I3];exact VP.k (k:=Sum.inr g) T2
     have em:(1:Int)+(if(d g:Int) > (d e:Int)then(d g:Int)else(d e:Int))=((1+max (d e) (d g):Nat):Int):=by
      split <;> omega
     refine⟨_,_,Z0 N6,rfl,_,gde,_,_,Z0 N6,rfl,_,gdg,_,_,rfl,?_⟩;dsimp only[rI0,rI,J9];rw[em];refine⟨_,_,Z1 ((Ya G1).trans J.nms),N1,_,Ja.k (k:=Sum.inr y) T2 (Ye (by exact D6 Z ld Z8)),?_⟩;have F6:e≠y:=fun z=>ny (z ▸ he);have F5:g≠y:=fun z=>ny (z ▸ hg);refine K2 _ _ ⟨M,.pair e g,.ref r,1+c e*c g,1+max (d e) (d g),J,?_,by exact CT t3 R3,by exact CQ G3,⟨by rw[J.nk];exact he,by rw[J.nk];exact hg,?_,?_,?_,?_⟩,(fun _ e=>nomatch e),(fun _ _ _=>I1),rfl,rfl⟩
     .unfold Shp.dat Has
      refine⟨r,_,rfl,G2,Z2 ?_ (Z2 ?_ (Z2 ?_ Z4))⟩ <;> (unfold Has;rfl)
     .show (if y=y then _ else _)=1+(if e=y then _ else c e)*(if g=y then _ else c g)
      rw[Zn rfl,Zo F6,Zo F5]
     .show (if y=y then _ else _)<=top
      rw[Zn rfl];exact R3
     .show (if y=y then _ else _)=1+max (if e=y then _ else d e) (if g=y then _ else d g)
      rw[Zn rfl,Zo F6,Zo F5]
     .show (if y=y then _ else _)<=2
      rw[Zn rfl];exact G3
  .intro NX K1
   refine⟨_,rfl,?_⟩;refine Vq (fun c0=>?_) (fun c0=>?_)
   .refine ⟨p,2,rfl,j.st,by decide,by decide,fun r M r0 r1 b1 s1=>?_⟩
    have J:=j.sameB a b1.sb s1;refine⟨rfl,_,rfl,?_⟩;refine Vq (fun c1=>?_) (fun c1=>?_)
    .have ec:Jp (Y.map V.str) none (some (0+(i:Int)))=(Y.take i).map V.str:=by
      rw[i0,NW _ _ (by exact CP Z lm),List.map_take]
     refine⟨_,rfl,u,_,rfl,Z1 J.nms,fun q1 N7=>?_⟩;rw[ec];have sq:=Yb N7 (.lst ((Y.take i).map V.str));have F2:q1≠p:=s1.ne N7;have jq:=J.sameB a sq.sb (s1.keep (Ya (Zq F2)));have F8:upd M q1 (.lst ((Y.take i).map V.str)) q1=some (.lst ((Y.take i).map V.str)):=YY;generalize upd M q1 (.lst ((Y.take i).map V.str))=Hq at jq F8;have lx:=jq.hs.length;rw[ZA]at lx
     have lk:T.length=i:=by
      have:=congrArg List.length jq.nk;rw[ZA,ZL]at this;exact Iy Z this
     refine⟨⟨_,Z1 jq.kls⟩,?_⟩;refine VR xs.length (Ye (by exact P4 Z lx lk Z8)) (fun m vs H'=>H'=Hq/\vs.length=m/\HasL Hq vs (((T.map (·.2)).map Shp.dat).take m)) ⟨rfl,rfl,by rw[List.take_zero];exact Z4⟩ (fun m vs H' z=>z.2.1) ?_ ?_ ?_ ?_
     .rintro m vs H' hm ⟨rfl,_⟩
      exact⟨xs,xs[m],Z1 jq.kls,by simp[hm]⟩
     .rintro vs H' ⟨rfl,_⟩
      exact⟨xs,Z1 jq.kls,ZF _⟩
     .rintro m vs H' x H'' R hm ⟨rfl,z2,z3⟩ yl hR
      obtain⟨rfl,y'⟩:=yl;have e1:=y' xs (Z1 jq.kls);obtain⟨d1,L2,hx1⟩:=jq.hs.get e1;rw[ZG]at L2
      cases hk:T[m]? with
      |none=>rw[hk]at L2;cases L2
      |some I2=>
       rw[hk]at L2;obtain⟨y1,s1'⟩:=I2;cases L2;obtain⟨a1,v1,rfl,ha1,hv1⟩:=WK hx1;refine⟨_,_,Z0 ha1,rfl,hR _ _ ⟨rfl,by rw[ZJ,z2];rfl,?_⟩⟩;have e2:((T.map (·.2)).map Shp.dat)[m]?=some s1'.dat:=by rw[ZG,ZG,hk];rfl
       rw[take_snoc e2];exact Z5 z3 (Z3 hv1)
     .rintro vs H' tk ⟨rfl,z2,z3⟩ htk
      have z4:HasL H' vs ((T.map (·.2)).map Shp.dat):=by
       rw[Ze (by rw[ZA,ZA];exact oq9 lx)]at z3;exact z3
      have R4:=Yb htk (.lst vs);have D3:tk≠p:=jq.st.ne htk;have sc:VE (upd H' tk (.lst vs)) p:=jq.st.keep (Ya (Zq D3));have jc:=jq.sameB a R4.sb sc
      have hi0:0<i:=by
       have z:(0:Int)<0+(i:Int):=Zr c0;exact CO z
      have N3:(Y.take i).length=i:=by rw[ZL];exact CN Z
      refine⟨p,q1,G,N,tk,top,Y.take i,T.map (·.2),rfl,sc,R4 _ _ F8,by exact CM N3 hi0,by exact CL Z N3 Z8,⟨kc,jc.cns,by rw[N3];exact jc.lc,fun z hz=>⟨c z,(jc.vc z hz).1,Za _,(jc.vc z hz).2⟩⟩,⟨kd,jc.dps,by rw[N3];exact jc.ld,fun z hz=>⟨d z,(jc.vd z hz).1,Za _,(jc.vd z hz).2⟩⟩,JD YY (z4.mono R4),F2,a.cnp,a.dpp,D3,fun v H2 b2 s2 hv=>?_⟩;refine K1 _ _ ⟨v,jc.sameB a b2 s2,rfl,?_⟩;rcases hv with hv|⟨e,g,r',ca,cb,da,db,he,hg,rfl,_,N6,hcc,hdd,h1,h2,h3⟩
      .exact .inl hv
      .refine .inr ⟨e,g,r',rfl,N6,he,hg,?_,?_,h3⟩
       .obtain ⟨d1,d2⟩:=hdd kd jc.dps
        rw[(jc.vd e he).1]at d1;rw[(jc.vd g hg).1]at d2;injection d1 with d1;injection d1 with d1;injection d2 with d2;injection d2 with d2;have x1:d e=da:=by exact RQ d1
        have x2:d g=db:=by exact RQ d2
        rw[x1,x2];exact h1
       .obtain ⟨d1,d2⟩:=hcc kc jc.cns
        rw[(jc.vc e he).1]at d1;rw[(jc.vc g hg).1]at d2;injection d1 with d1;injection d1 with d1;injection d2 with d2;injection d2 with d2;have x1:c e=ca:=by exact RQ d1
        have x2:c g=cb:=by exact RQ d2
        rw[x1,x2];exact h2
    .exact K1 _ _ ⟨.non,J,rfl,.inl rfl⟩
   .exact Y1 (by simp) (K1 _ _ ⟨.non,j,rfl,.inl rfl⟩)
 .rintro U H' ⟨kc,kd,T,c,d,xs,j,z1,z2,rfl⟩
  have en:((((Y.map V.str).length:Nat):Int).toNat)=Y.length:=by exact CJ lm
  rw[en]at j;refine⟨sl 2,fun t ht=>?_⟩;have st:=Yb ht (.tup [.ref D,.ref G]);have tp:=j.st.ne ht;have nk:=j.nk;rw[List.take_length]at nk;have lk:T.length=Y.length:=by rw[<-nk,ZA]
  exact q t D G T c d xs _ (j.sb.trans st.sb) (j.st.keep (Ya (Zq tp))) (j.sb.free tp ht) tp YY a.fk a.klp (st _ _ j.kls) (j.hs.mono st) j.kk (by rw[nk];exact N2.nd) (by exact QD lk hly) (by omega) ⟨by rw[nk];exact N2,⟨L,D0,j.tq⟩,j.pq⟩ a.fc a.cnp ⟨kc,st _ _ j.cns,fun y hy=>(j.vc y (by rw[List.take_length,<-nk];exact hy)).1⟩
end
end K4
namespace L2
open PySem
def Vd(ks:List (Str×Shp))(y:Str):Option Shp:=(ks.find? fun k=>decide (k.1=y)).map (·.2)
def VA(ks:List (Str×Shp)):Nat->Str->List W
 |0,_=>[]
 |n+1,y=>match Vd ks y with
  |none=>[]
  |some (.tags ts)=>.non::ts.map W.tag
  |some (.pair a b)=>.non::(VA ks n a).flatMap fun u=>(VA ks n b).map fun v=>.pair u v
theorem XA(h:Vd ks y=some s):(y,s)∈ks:=by
 unfold Vd at h
 cases e:ks.find? fun k=>decide (k.1=y)with
 |none=>rw[e]at h;cases h
 |some k=>
  rw[e]at h;have Y:k.2=s:=ZP h;have q:=List.find?_some e;have m:=List.mem_of_find?_eq_some e;have z:k.1=y:=Zr q;rw[<-Y,<-z];exact m
theorem Vw(h:y∈ks.map (·.1)):∃s,Vd ks y=some s:=by
 obtain⟨k,Y,rfl⟩:=ZU.mp h;unfold Vd
 cases e:ks.find? fun z=>decide (z.1=k.1)with
 |none=>
  have q:=List.find?_eq_none.mp e k Y;simp at q
 |some z=>exact⟨z.2,rfl⟩
theorem KK.at(h:KK top c d ks)(e:Vd ks y=some s):KK1 top c d (ks.map (·.1)) y s:=by
 obtain⟨i,G,L⟩:=List.mem_iff_getElem.mp (XA e);have q:=h i y s (by rw[ZC G,L])
 have Y:∀z,z∈(ks.take i).map (·.1)->z∈ks.map (·.1):=fun z Z=>by
  obtain⟨k,J,rfl⟩:=ZU.mp Z;exact ZU.mpr ⟨k,Zi J,rfl⟩
 cases s with
 |tags M=>exact q
 |pair a b=>exact⟨Y a q.1,Y b q.2.1,q.2.2⟩
theorem NQ{α:Type}(f:α->List W)(k:Nat):∀(l:List α),(∀a∈l,(f a).length=k)->(l.flatMap f).length=l.length*k
 |[],_=>by simp
 |a::l,h=>by
  rw[List.flatMap_cons,ZJ,h a (by simp),NQ f k l fun b Y=>h b (by simp[Y]),Zd,Nat.succ_mul,Nat.add_comm]
theorem UY(h:KK top c d ks):∀(n:Nat)(y:Str),y∈ks.map (·.1)->d y<n->(VA ks n y).length=c y/\0<c y/\∀u∈VA ks n y,u.dep<=d y
 |0,y,_,hd=>Zp hd (Zu _)
 |n+1,y,hy,hd=>by
  obtain⟨s,M⟩:=Vw hy;have L:=h.at M;unfold VA;rw[M]
  cases s with
  |tags G=>
   obtain⟨R,O,Z,S,_⟩:=L;refine⟨?_,by exact PX Z,fun u J=>?_⟩
   .show (W.non::G.map W.tag).length=c y
    rw[Zd,ZA];exact PV Z
   .have Y:u=.non\/u∈G.map W.tag:=Zb.mp J
    rcases Y with rfl|Y
    .exact Za _
    .obtain ⟨x,_,rfl⟩:=ZU.mp Y
     exact Za _
  |pair a b=>
   obtain⟨R,O,Z,S,N,Q⟩:=L;have E:=Nat.le_max_left (d a) (d b);have D:=Nat.le_max_right (d a) (d b);obtain⟨A,P,C⟩:=UY h n a R (by exact RT hd N);obtain⟨F,X,U⟩:=UY h n b O (by exact RS hd N);refine⟨?_,by exact PX Z,fun u J=>?_⟩
   .show (W.non::(VA ks n a).flatMap fun u=>(VA ks n b).map fun v=>.pair u v).length=c y
    rw[Zd,NQ _ (c b) _ (fun a _=>by rw[ZA,F]),A];exact PV Z
   .have Y:u=.non\/u∈(VA ks n a).flatMap fun u=>(VA ks n b).map fun v=>.pair u v:=Zb.mp J
    rcases Y with rfl|Y
    .exact Za _
    .obtain ⟨x,hx,hu2⟩:=List.mem_flatMap.mp Y
     obtain⟨z,I,rfl⟩:=ZU.mp hu2;have B:=C x hx;have T:=U z I;show 1+max x.dep z.dep<=d y;have:=Nat.max_le.mpr ⟨ZZ B E,ZZ T D⟩;omega
theorem UO(h:KK top c d ks):∀(n m:Nat)(y:Str),y∈ks.map (·.1)->d y<n->d y<m->VA ks n y=VA ks m y
 |0,_,_,_,h1,_=>Zp h1 (Zu _)
 |_+1,0,_,_,_,h2=>Zp h2 (Zu _)
 |n+1,m+1,y,hy,h1,h2=>by
  obtain⟨s,Z⟩:=Vw hy;have L:=h.at Z;unfold VA;rw[Z]
  cases s with
  |tags M=>rfl
  |pair a b=>
   obtain⟨G,J,R,O,Y,N⟩:=L;have B:=Nat.le_max_left (d a) (d b);have T:=Nat.le_max_right (d a) (d b);show(W.non::_)=(W.non::_);rw[UO h n m a G (by exact RT h1 Y) (by exact RT h2 Y),UO h n m b J (by exact RS h1 Y) (by exact RS h2 Y)]
theorem RI:∀{ts:List Str}{Y:List V},HasL H Y (ts.map Dat.str)->Y=ts.map V.str
 |[],[],_=>rfl
 |[],_::_,h=>by rw[List.map_nil]at h;unfold HasL at h;exact h.elim
 |_::_,[],h=>by rw[ZT]at h;unfold HasL at h;exact h.elim
 |t::ts,z::Y,h=>by
  rw[ZT]at h;unfold HasL at h;obtain⟨Z,J⟩:=h;unfold Has at Z;rw[Z,RI J];rfl
def wOf(ks:List (Str×Shp))(n:Nat):Shp->List W
 |.tags ts=>.non::ts.map W.tag
 |.pair a b=>.non::(VA ks n a).flatMap fun u=>(VA ks n b).map fun v=>.pair u v
theorem XT(h:Vd ks y=some s):VA ks (n+1) y=wOf ks n s:=by
 conv=>lhs;unfold VA
 rw[h];cases s <;> rfl
theorem FG{α:Type}(f:α->List W){l:List α}{a:α}(h:l[i]?=some a):(l.take (i+1)).flatMap f=(l.take i).flatMap f++ f a:=by
 rw[take_snoc h,List.flatMap_append];simp
theorem JO(h:Has H v (Shp.tags ts).dat):∃p l,v=.ref p/\H p=some (.tup [.str "tags",.ref l])/\H l=some (.tup (ts.map V.str)):=by
 unfold Shp.dat Has at h;obtain⟨p,O,rfl,R,Y⟩:=h
 match O,Y with
 |[u,v],Y=>
  unfold HasL at Y;obtain⟨M,Z⟩:=Y;unfold HasL at Z;unfold Has at M;subst M;have J:=Z.1;unfold Has at J;obtain⟨l,N,rfl,L,G⟩:=J;have e:N=ts.map V.str:=RI G;rw[e]at L;exact⟨p,l,rfl,R,L⟩
 |[],Y=>unfold HasL at Y;exact Y.elim
 |[x],Y=>unfold HasL at Y;obtain⟨_,Z⟩:=Y;unfold HasL at Z;exact Z.elim
 |_::_::_::_,Y=>unfold HasL at Y;obtain⟨_,Z⟩:=Y;unfold HasL at Z;obtain⟨_,J⟩:=Z;unfold HasL at J;exact J.elim
theorem V2(h:Has H v (Shp.pair a b).dat):∃p,v=.ref p/\H p=some (.tup [.str "pair",.str a,.str b]):=by
 unfold Shp.dat Has at h;obtain⟨p,M,rfl,N,Y⟩:=h
 match M,Y with
 |[u,v,w],Y=>
  unfold HasL at Y;obtain⟨L,Z⟩:=Y;unfold HasL at Z;obtain⟨Z,J⟩:=Z;unfold HasL at J;have J:=J.1;unfold Has at L Z J;subst L Z J;exact⟨p,rfl,N⟩
 |[],Y=>unfold HasL at Y;exact Y.elim
 |[x],Y=>unfold HasL at Y;obtain⟨_,Z⟩:=Y;unfold HasL at Z;exact Z.elim
 |[x,y],Y=>unfold HasL at Y;obtain⟨_,Z⟩:=Y;unfold HasL at Z;obtain⟨_,J⟩:=Z;unfold HasL at J;exact J.elim
 |_::_::_::_::_,Y=>unfold HasL at Y;obtain⟨_,Z⟩:=Y;unfold HasL at Z;obtain⟨_,J⟩:=Z;unfold HasL at J;obtain⟨_,G⟩:=J;unfold HasL at G;exact G.elim
theorem Ms:∀ts:List Str,HasL H (ts.map V.str) ((ts.map W.tag).map W.dat)
 |[]=>Z4
 |t::ts=>Z2 (by show Has H (.str t) (W.dat (.tag t));unfold W.dat Has;rfl) (Ms ts)
end L2
namespace L2
open PySem PySem.Spec PyProof.Rows
section
def My(K:W.Frag):R2:=fun x y H Q=>∃a b ys,x=.ref a/\y=.ref b/\SqT K H a []/\SqT K H b ys/\Q (.ref b) H
theorem OJ:OpR X (binaryOp .Add) (My X.K):=by
 intro N s U H x y v u Q I D B h;obtain⟨a,b,t,rfl,rfl,j,P,q⟩:=h;cases D;cases B;obtain⟨C,E,A,_⟩:=I.tuple j;obtain⟨Y,m,F,_⟩:=I.tuple P;cases E;obtain⟨⟨k,z,data,sl⟩,O,T,n,R⟩:=id A;obtain⟨⟨g,M,data2,L⟩,Z,G,S,J⟩:=id F;simp only at T R G J;subst T R G J;exact concat_meets ⟨_,O,rfl⟩ ⟨_,Z,rfl⟩ noFill_tuple_add seq_tuple_add PySem.F.slot_tuple_add PySem.F.entry_tuple_add (PySem.F.args_tuple_add_2 _ _)
  (tuple_addW0 a b _ Y.toArray n S z M sl L rfl) ⟨O,Z,.ref b,H,I,rfl,q⟩
theorem Xi:OpR X (binaryOp .Add) (fun x y H Q=>My X.K x y H Q\/Wv X.K x y H Q):=OJ.or Xh
end
theorem XN:plainId "dict.update.loop"=true:=by decide +kernel
theorem NT:entryFor table "dict.update.loop"=some Builtin.«dict.update.loop»:=entryFor_of_fast (by kernel_rfl)
theorem O4:typeLookup (.type "list") (Str.ofString "keys")=pure none:=am_miss_of_fast (by decide +kernel)
section
theorem O5(pl:PlainL s.heap a its)(B:A.handled=none)(h:∀h' tk,(∀b o,s.heap.get? b=some o->h'.get? b=some o)->Q none {s with heap:=h',toks:=tk}):
  wpAny (model prog w) A (getAttr? (.ref a) (Str.ofString "keys")) Q E s:=by
 obtain⟨⟨c,U,C,sl⟩,k,J,L,G,hdat⟩:=pl;simp only at L hdat G;subst L hdat G;obtain⟨D,I,S,tk,O⟩:=s;have Y:=F.slot_list_getattribute;have T:=Y.lookup;have X:=Y.bind (.ref a);have R:=am_list_getattr_none;have P:=sub_AttributeError;have M:∀n,(Shared.mk D I S n O).TypeIs (.ref a) "list":=fun n=>⟨_,J,rfl⟩;simp only[getAttr?,getAttrBy?,getAttrBy]
 repeat (any_goals (first|assumption|exact M _|((with_reducible show wpAny _ _ (call (Value.builtin "list.__getattribute__") _ _) _ _ _);refine call_meets F.slot_list_getattribute (M _) am_entry_list_getattribute (F.args_list_getattribute_2 _ _) (meets_getattribute_miss_list a its k sl (Str.ofString "keys") _ O4 (by decide +kernel) (by size_fits)) ⟨J,B,fun h' N e Z=>?_⟩)|wp_step))
 have there:=Z.there;obtain⟨_,_,j⟩:=there;refine(?_:wpAny _ _ (getattributeRaised _ _ _ _ _ _ _) _ _ _);simp only[getattributeRaised]
 repeat any_goals first|assumption|wp_step
 exact h _ _ Z.keeps
end
def yj{prog:Program}{w:World}(h₀:Heap)(vs:List (Key×Value))(i:Nat)(v:Value):Prop:=
 ∃a k ku vu,v=.ref a/\vs[i]?=some (k,vu)/\h₀.IsTuple a #[ku,vu]/\(VC prog w).is k ku=true
theorem FJ(vs:List (Key×Value))(R:(vs.map (·.1)).Nodup)(e:vs[i]?=some (k,u)):stored (vs.take i) k u=vs.take (i+1):=by
 obtain⟨E,D⟩:=ZE.mp e
 have J:(vs.take i).any (fun Z=>decide (Z.1=k))=false:=by
  rw[Bool.eq_false_iff];intro Y;obtain⟨Z,T,B⟩:=List.any_eq_true.mp Y;have G:Z.1=k:=Zr B;obtain⟨j,N,O⟩:=List.mem_iff_getElem.mp T;rw[ZL]at N;rw[List.getElem_take]at O;have L:j<(vs.map (·.1)).length:=by rw[ZA];omega
  have M:i<(vs.map (·.1)).length:=by rw[ZA];omega
  have q:(vs.map (·.1))[j]=(vs.map (·.1))[i]:=by
   rw[List.getElem_map,List.getElem_map,O,D,G]
  exact List.pairwise_iff_getElem.mp R j i L M (by exact OC N) q
 unfold stored;rw[J,List.take_add_one,e]
 rfl
section
variable{St:Nat->Heap->Prop}
theorem EH(W:Walks prog w A.in1 I fp wr n P St)(O:vs.length=n)(hsz:vs.length<=sizeLine)(hn:(vs.map (·.1)).Nodup)(hP:∀i v,P i v->yj (prog:=prog) (w:=w) h₀ vs i v)(d:Addr)(D:d∉fp)(hw:∀b o,h₀.get? b=some o->b∉wr/\b≠d)(res:Value):
  ∀(k i:Nat)(s:Shared)(j:Int)(t:Tok),n-i=k->i<=n->St i s.heap->s.heap.DictOf (VC prog w) d (vs.take i)->(∀b o,h₀.get? b=some o->s.heap.get? b=some o)->
  (∀h' tk,h'.DictOf (VC prog w) d vs->(∀b o,b∉wr->b≠d->s.heap.get? b=some o->h'.get? b=some o)->R (.ok (.ret res)) {s with heap:=h',toks:=tk})->
  codeAny (model prog w) A (.builtin "dict.update.loop" ⟨[.ref d,.ref I,.int j t,res],[]⟩) R s:=by
 have B:d∉wr:=fun h=>D (W.sub _ h);intro k
 induction k with
 |zero=>
  intro i s j t hk hi Z U h0 c;have q:i=n:=by omega
  subst q;refine codeAny_builtin NT ?_;rw[Around.under_plainId XN _];refine Zj (m:=pyNext (.ref I)) (W.done s _ _ Z fun h' tk Y=>Zj (Zk (Zk ?_)));refine c h' tk ?_ fun b o G _ e=>Y b o G e;rw[<-O,List.take_length]at U;obtain⟨o,u,r,Q,rest⟩:=U;exact⟨o,u,r,Y d o B Q,rest⟩
 |succ k ih=>
  intro i s j t hk hi Z U h0 c;have N:i<n:=by omega
  refine codeAny_builtin NT ?_;rw[Around.under_plainId XN _];refine Zj (m:=pyNext (.ref I)) (W.item i s _ _ N Z fun v h' tk f L Y=>?_);obtain⟨a,Z8,ku,l,rfl,ev,ht,T⟩:=hP i v f;have S:∀b o,h₀.get? b=some o->h'.get? b=some o:=fun b o e=>Y b o (hw b o e).1 (h0 b o e);obtain⟨o,Q,hc,m,hdat⟩:=ht;have M:=S a o Q;have hT:({s with heap:=h',toks:=tk}:Shared).TypeIs (.ref a) "tuple":=⟨o,M,hc⟩;refine Zj (wpAny_holding (Zj (wpAny_tryCatch ?_)));simp only[Builtin.Dict.pairItems];refine Zj (m:=typeOf (.ref a)) (wpAny_typeOf hT ?_);rw[Zn (by decide)];refine Zj (wpAny_seqItems M hdat (Zk ?_));show wpAny _ A.in1 (holding [ku,l] (dictSet d ku l)) _ _ _
  have p:Heap.DictOf (VC prog w) h' d (vs.take i):=by
   obtain⟨x,u,r,X,rest⟩:=U;exact⟨x,u,r,Y d x B X,rest⟩
  refine wpAny_holding (wpAny_dictSet_pairs (hsz:=by rw[ZL];omega) T p fun h2 E J=>?_);rw[FJ vs hn ev]at E;refine Zk ⟨plainId_quiet XN _,ih (i+1) _ (j+1) 0 (by omega) N (W.frame _ _ _ L fun b G o e=>?_) E (fun b o e=>?_) fun h3 C g y=>?_⟩
  .exact (J.2 b (fun z=>D (z ▸ G))).trans e
  .exact (J.2 b (hw b o e).2).trans (S b o e)
  .refine c h3 C g fun b o G F e=>y b o G F ((J.2 b F).trans (Y b o G e))
end
section
def T7(K:W.Frag)(H:Hp)(ts:List Addr)(kvs:List (Key×V)):Prop:=ts.length=kvs.length/\∀(i:Nat)(a:Addr)(k:Key)(y:V),ts[i]?=some a->kvs[i]?=some (k,y)->SqT K H a [kV k,y]
theorem Td(h:Heap):∀(ts:List Addr)(kvs:List (Key×V)),ts.length=kvs.length->(∀(i:Nat)(a:Addr)(k:Key)(y:V),ts[i]?=some a->kvs[i]?=some (k,y)->∃Z Y,h.IsTuple a #[Z,Y]/\RelV (kV k) Z/\RelV y Y)->
  ∃vs,KV kvs vs/\∀(i:Nat)(a:Addr),ts[i]?=some a->∃k Z Y,vs[i]?=some (k,Y)/\h.IsTuple a #[Z,Y]/\RelV (kV k) Z
 |[],[],_,_=>⟨[],.nil,fun i a e=>by simp at e⟩
 |[],_::_,e,_=>by simp at e
 |_::_,[],e,_=>by simp at e
 |t::ts,kv::kvs,e,hp=>by
  obtain⟨Z,Y,O,N,M⟩:=hp 0 t kv.1 kv.2 rfl rfl;obtain⟨vs,r,L⟩:=Td h ts kvs (by simpa using e) fun i a k y T R=>hp (i+1) a k y T R;refine⟨(kv.1,Y)::vs,.cons ⟨rfl,M⟩ r,fun i a G=>?_⟩
  cases i with
  |zero=>
   have J:some t=some a:=G;cases J;exact⟨kv.1,Z,Y,rfl,O,N⟩
  |succ i=>exact L i a G
theorem W7(hc:X.calm=true):Jb X (.type "dict") (fun xs H Q=>∃(p:Addr)(ts:List Addr)(kvs:List (Key×V)),xs=[.ref p]/\SqL X.K H p (ts.map V.ref)/\T7 X.K H ts kvs/\(kvs.map (·.1)).Nodup/\∀l,H l=none->Q (.ref l) (upd H l (.dK kvs))):=by
 intro Z9 s U H xs us Q I r h;obtain⟨p,ts,kvs,rfl,d,D,hn,q⟩:=h;obtain⟨u,rfl,P⟩:=vals1 r;cases P;obtain⟨Z,r',j,g⟩:=I.list d;rw[ZA]at g
 have L:Z.length=ts.length:=by
  have:=r'.length;rw[ZA]at this;exact this.symm
 have x:∀(i:Nat)(a:Addr),ts[i]?=some a->Z[i]?=some (Value.ref a):=fun i a e=>by
  obtain⟨u,hu,P⟩:=r'.get (show(ts.map V.ref)[i]?=some (V.ref a) by rw[ZG,e];rfl);rw[hu,show u=Value.ref a from P]
 obtain⟨vs,J,c⟩:=Td s.heap ts kvs D.1 fun i a k y e1 e2=>by
  obtain⟨J2,r2,p2,_⟩:=I.tuple (D.2 i a k y e1 e2)
  cases r2 with
  |cons r1 t1=>
   cases t1 with
   |cons r3 t3=>
    cases t3;exact⟨_,_,p2,r1,r3⟩
 have w:vs.length=Z.toArray.size:=by rw[ZM,L,D.1,<-J.length]
 have N:vs.map (·.1)=kvs.map (·.1):=by
  have Z8:∀{l:List (Key×V)}{m:List (Key×Value)},KV l m->m.map (·.1)=l.map (·.1):=by
   intro l m q
   induction q with
   |nil=>rfl
   |cons d t ih=>rw[ZT,ZT,ih,d.1]
  exact Z8 J
 have B:p<s.heap.objs.size:=by
  obtain⟨o,n,e,_⟩:=j;exact ZN e
 refine callType_codes (Q₁:=fun ob t=>ob=.ref s.heap.objs.size/\t={s with heap:=s.heap.push {cls:=.type "dict",data:=.dict #[]}}) F.kt_called_dict (F.kt_typeCall_dict_1 _) F.entry_dict_init (kt_code_dict_new _ ⟨rfl,rfl⟩) fun ob t C=>?_;obtain⟨rfl,rfl⟩:=C;have Y:(s.heap.push {cls:=.type "dict",data:=.dict #[]}).DictOf (VC X.prog X.w) s.heap.objs.size []:=Heap.DictOf.new s.heap;have k0:∀b o,s.heap.get? b=some o->(s.heap.push {cls:=.type "dict",data:=.dict #[]}).get? b=some o:=fun b o e=>ZD _ e;refine And.intro Y.typeIs (And.intro (F.args_dict_init_2 _ _) ?_);delta Builtin.«dict.__init__» Builtin.Dict.selfAndRest;refine Zj (Zj (wpAny_notOrdered_dict Y.typeIs (Zk (?_:wpAny _ _ (Builtin.Dict.updateFrom "dict.__init__" s.heap.objs.size (.ref p) [] .none) _ _ _))));delta Builtin.Dict.updateFrom;have M:=j.keeps k0;refine Zj (wpAny_typeOf M.isList.typeIs ?_);rw[Zn (by decide)];refine Zj (O5 M (I.ok.hd hc) fun R G1 G=>?_);simp only[Option.isNone_none,if_true];refine Zj (wpAny_rule ?_);refine Zj (wpAny_pyIter_list (M.keeps G).isList ?_)
 have S:s.heap.objs.size<R.objs.size:=by
  obtain⟨o,es,ep,f,_⟩:=Y;exact ZN (G _ _ f)
 have z:∀b o,s.heap.get? b=some o->(R.push {cls:=.type "list_iterator",data:=.fields #[.ref p,.int 0 0]}).get? b=some o:=fun b o e=>ZD _ (G b o (k0 b o e));refine Zk ⟨plainId_quiet XN _,EH (Walks.list (A:=X.A.in1.in1) (I.ok.hd hc) R.objs.size p (Zc (Nat.lt_trans B S)) Z.toArray) (h₀:=s.heap) (vs:=vs) w (by rw[<-J.length,<-D.1];exact g) (by rw[N];exact hn) ?_ s.heap.objs.size ?_ ?_ .none _ 0 _ 0 0 rfl (Za _) ?_ ?_ z ?_⟩
 .intro i v hv
  have hi:i<Z.length:=by
   have:=(Array.getElem?_eq_some_iff.mp hv).1
   rwa [ZM]at this
  have C:i<ts.length:=by exact El hi L
  obtain⟨k,ku,vu,e1,e2,e3⟩:=c i ts[i] (ZC C);refine⟨ts[i],k,ku,vu,?_,e1,e2,Xs e3⟩;have:=x i ts[i] (ZC C);have T:Z[i]?=some v:=by simpa using hv
  rw[this]at T;exact(ZP T).symm
 .intro E
  have two:s.heap.objs.size=R.objs.size\/s.heap.objs.size=p:=by simpa using E
  rcases two with e|e
  .exact Zp e (Zc S)
  .exact Zp e (Nat.ne_of_gt B)
 .intro b o e
  have O:=ZN e;refine⟨fun E=>?_,Zc O⟩;have e':b=R.objs.size:=by simpa using E
  rw[e']at O;exact Zp S (Nat.not_lt_of_lt O)
 .exact ⟨⟨_,ZW _ rfl,rfl,rfl⟩,(j.keeps z).isList⟩
 .obtain ⟨o,es,ep,f,rest⟩:=Y
  exact⟨o,es,ep,ZD _ (G _ _ f),rest⟩
 .intro h' tk hd' hk'
  refine⟨rfl,.ref s.heap.objs.size,_,I.laid (a:=s.heap.objs.size) (o:=.dK kvs) (fun b o e=>?_) (ZF _) (Tx (by rw[<-D.1];exact g) (beq_eq_false_iff_ne.mpr (Zq (Zc I.big))) J hd'),rfl,q _ (I.hok.fresh (ZF _))⟩;have O:=ZN e;refine hk' b o (fun E=>?_) (Zc O) (z b o e);have e':b=R.objs.size:=by simpa using E
  rw[e']at O;exact Zp S (Nat.not_lt_of_lt O)
end
end L2
namespace L2
open PySem
def Tb(K:W.Frag):List V->Hp->VK->Prop:=fun xs H Q=>∃(p:Addr)(ts:List Addr)(kvs:List (Key×V)),xs=[.ref p]/\SqL K H p (ts.map V.ref)/\T7 K H ts kvs/\(kvs.map (·.1)).Nodup/\∀l,H l=none->Q (.ref l) (upd H l (.dK kvs))
theorem Ux(Y:X.calm=true):Jb X (.type "dict") (Tb X.K):=W7 Y
theorem SameB.same(a:SameB p H H')(f:H p=none):Same H H':=fun b o e=>a b o (Yc e f) e
theorem Ue:∀{ks:List (Str×Shp)}{xs:List V},HasL H xs (ks.map Jf)->∃(ts:List Addr)(kvs:List (Key×V)),xs=ts.map V.ref/\T7 K H ts kvs/\kvs.map (·.1)=ks.map (fun k=>Sum.inr k.1)/\
  ∀y s,Vd ks y=some s->∃v,Y8 kvs (Sum.inr y)=some v/\Has H v s.dat
 |[],xs,h=>by
  have l:=h.length;rw[List.map_nil,List.length_nil]at l;have e:xs=[]:=List.length_eq_zero_iff.mp l;subst e;exact⟨[],[],rfl,⟨rfl,fun i a k y e=>by simp at e⟩,rfl,fun y s e=>by simp[Vd]at e⟩
 |(z,sh)::ks,xs,h=>by
  match xs,h with
  |[],h=>unfold HasL at h;exact h.elim
  |x::xs,h=>
   rw[ZT]at h;unfold HasL at h;obtain⟨B,T⟩:=h;obtain⟨a,v,rfl,R,N⟩:=WK B;obtain⟨ts,kvs,rfl,⟨M,L⟩,D,O⟩:=Ue (K:=K) T;refine⟨a::ts,(Sum.inr z,v)::kvs,rfl,⟨by simp[M],fun i b k y G J=>?_⟩,by rw[ZT,ZT,D],fun y s e=>?_⟩
   .cases i with
    |zero=>
     have Z:some a=some b:=G;have Y:some ((Sum.inr z:Key),v)=some (k,y):=J;cases Z;cases Y;exact Z0 R
    |succ i=>exact L i b k y G J
   .unfold Vd at e
    unfold Y8;rw[List.find?_cons]at e |-
    by_cases ez:z=y
    .subst ez
     simp only[decide_true]at e |-;have E:sh=s:=ZP e;subst E;exact⟨v,rfl,N⟩
    .have ez':¬(Sum.inr z:Key)=Sum.inr y:=fun q=>ez (Sum.inr.inj q)
     simp only[ez,ez',decide_false]at e |-;exact O y s e
theorem Gf{ks:List (Str×Shp)}{kvs:List (Key×V)}(e:kvs.map (·.1)=ks.map (fun k=>(Sum.inr k.1:Key)))(h:(ks.map (·.1)).Nodup):(kvs.map (·.1)).Nodup:=by
 rw[e];unfold List.Nodup at h |-;rw[List.pairwise_map]at h |-;exact h.imp fun Y q=>Y (Sum.inr.inj q)
theorem KK.small(h:KK 30 c d ks)(J:y∈ks.map (·.1)):d y<=2/\c y<=30:=by
 obtain⟨s,G⟩:=Vw J;have Y:=h.at G
 cases s with
 |tags R=>obtain⟨O,N,M,Z⟩:=Y;omega
 |pair a b=>obtain⟨O,N,M,Z,T,L⟩:=Y;exact⟨L,Z⟩
end L2
namespace L2
open PySem PySem.Spec PyProof.Rows
section
theorem O2{i:Nat}{Q:Value->Shared->Prop}(he:IsEnum s.heap e it i old)(z:SI tp s.heap it l i xs)(nl:l≠it)(hx:xs[i]?=some x)(Z:e≠it)(hQ:∀g,IsEnumOut g e it ((i:Int)+1) x s.heap.objs.size->SJ tp g it l (i+1)->g.get? s.heap.objs.size=some {cls:=.type "tuple",data:=.seq #[.int i s.toks,x]}->g.objs.size=s.heap.objs.size+1->
   (∀b o,b≠e->b≠it->s.heap.get? b=some o->g.get? b=some o)->Q (.ref s.heap.objs.size) {s with heap:=g,toks:=s.toks+1}):
  wpAny (model prog w) A (Builtin.«enumerate.__next__» ⟨[.ref e],[]⟩) (fun p s'=>∃v,p=.done (.ret v)/\Q v s') E s:=by
 obtain⟨Y,g,d,O,os⟩:=s;refine Zj (m:=field (.ref e) 2) (Zm he rfl (x:=.ref it) rfl ?_);refine Zj (GO z nl hx fun S h M=>?_);replace M:Heap.SameBut it Y S:=M;have P:IsEnum S e it i old:=(M.2 e Z).trans he;refine Zj (m:=field (.ref e) 3) (Zm P rfl (x:=rawInt i) rfl ?_);refine Zj (m:=field (.ref e) 4) (Zm P rfl (x:=.none) rfl ?_);refine Zj (m:=mkInt i) (wpAny_mkInt ?_);refine Zj (m:=setField (.ref e) 3 (rawInt ((i:Int)+1))) (wpAny_setField_rec P (by simp) fun I X L=>?_);replace L:Heap.SameBut e S I:=L;replace X:IsEnum I e it ((i:Int)+1) old:=X;refine Zj (m:=setField (.ref e) 4 .none) (wpAny_setField_rec X (by simp) fun N C G=>?_);replace G:Heap.SameBut e I N:=G;replace C:IsEnum N e it ((i:Int)+1) old:=C;refine Zj (m:=newTuple [.int i O,x]) (wpAny_newTuple ?_);have U:IsEnum (N.push {cls:=.type "tuple",data:=.seq #[.int i O,x]}) e it ((i:Int)+1) old:=ZD _ C;generalize q4:N.push {cls:=.type "tuple",data:=.seq #[.int i O,x]}=g4 at U;have R:N.objs.size=Y.objs.size:=by rw[G.1,L.1,M.1]
 have el:e<Y.objs.size:=ZN he;have a:g4.get? Y.objs.size=some {cls:=.type "tuple",data:=.seq #[.int i O,x]}:=by rw[<-q4,<-R];exact ZW _ rfl
 have n:g4.objs.size=Y.objs.size+1:=by rw[<-q4,Heap.size_push,R]
 have k4:∀b o,b≠e->b≠it->Y.get? b=some o->g4.get? b=some o:=fun b o J r y=>by
  rw[<-q4];exact ZD _ (G.extBut b o J (L.extBut b o J (M.extBut b o r y)))
 have j4:SJ tp g4 it l (i+1):=by
  rw[<-q4];exact h.sj.to fun o ho=>ZD _ (G.extBut _ o (Zq Z) (L.extBut _ o (Zq Z) ho))
 show wpAny _ _ (Builtin.SmallTypes.ownedTupleIsFree (.ref e) >>=_) _ _ ⟨g4,g,d,O+1,os⟩;rw[R];clear q4 C G X L P M h R N I S;refine Zj (m:=Builtin.SmallTypes.ownedTupleIsFree (.ref e)) (Zj (m:=field (.ref e) 0) (Zm U rfl (x:=.none) rfl (Zk ?_)));simp only[if_true];refine Zj (wpAny_rule (Zj (Zm U rfl (x:=old) rfl (Zj (wpAny_setField_rec U (by simp) fun k u D=>?_)))));replace D:Heap.SameBut e g4 k:=D;replace u:IsEnum k e it ((i:Int)+1) x:=u;refine Zj (m:=Builtin.SmallTypes.ownedTupleHandOut (.ref e) (.ref Y.objs.size)) ?_;simp only[Builtin.SmallTypes.ownedTupleHandOut];refine Zj (wpAny_setField_rec u (by simp) fun t f B=>?_);replace B:Heap.SameBut e k t:=B;replace f:IsEnumOut t e it ((i:Int)+1) x Y.objs.size:=f;refine wpAny_setField_rec f (by simp) fun F c T=>?_;replace T:Heap.SameBut e t F:=T;replace c:IsEnumOut F e it ((i:Int)+1) x Y.objs.size:=c;have j:∀b o,b≠e->g4.get? b=some o->F.get? b=some o:=fun b o J q=>T.extBut b o J (B.extBut b o J (D.extBut b o J q));refine Zj (wpAny_letGo (Zk ⟨_,rfl,hQ F c (j4.to fun o q=>j _ o (Zq Z) q) (j _ _ (Nat.ne_of_gt el) a) (by rw[T.1,B.1,D.1,n]) fun b o J r y=>j b o J (k4 b o J r y)⟩))
theorem Oj{i:Nat}(he:IsEnum s.heap e it i old)(z:SI tp s.heap it l i xs)(J:l≠it)(hx:xs[i]?=some x)(Y:e≠it)(G:∀g,IsEnumOut g e it ((i:Int)+1) x s.heap.objs.size->SJ tp g it l (i+1)->g.get? s.heap.objs.size=some {cls:=.type "tuple",data:=.seq #[.int i s.toks,x]}->g.objs.size=s.heap.objs.size+1->
   (∀b o,b≠e->b≠it->s.heap.get? b=some o->g.get? b=some o)->Q (some (.ref s.heap.objs.size)) {s with heap:=g,toks:=s.toks+1}):wpAny (model prog w) A (pyNext (.ref e)) Q E s:=by
 have Z:s.TypeIs (.ref e) "enumerate":=⟨_,he,rfl⟩;simp only[pyNext];exact Zj (wpAny_attempt (wpAny_callSpecial?_slot (name:=Str.ofString "__next__") Z F.slot_enumerate_next (wpAny_call_entry F.slot_enumerate_next Z F.entry_enumerate_next
   (O2 he z J hx Y fun g a b c d k=>Zk (G g a b c d k)) (F.args_enumerate_next_1 _))))
theorem Se{i:Nat}(J:A.handled=none)(he:IsEnum s.heap e it i old)(z:SI tp s.heap it l i xs)(hx:xs[i]?=none)(L:∀g,Heap.ExtBut it s.heap g->Q none {s with heap:=g}):wpAny (model prog w) A (pyNext (.ref e)) Q E s:=by
 have Y:s.TypeIs (.ref e) "enumerate":=⟨_,he,rfl⟩;simp only[pyNext];refine Zj (wpAny_attempt (wpAny_callSpecial?_slot (name:=Str.ofString "__next__") Y F.slot_enumerate_next (wpAny_call_entry F.slot_enumerate_next Y F.entry_enumerate_next ?_ (F.args_enumerate_next_1 _))));refine Zj (m:=field (.ref e) 2) (Zm he rfl (x:=.ref it) rfl (Zj (Nv J z hx fun g y M ⟨o,Z,G⟩=>?_)));exact Zj (wpAny_isInstance (T:="StopIteration") (b:=true) ⟨o,Z,G⟩ isSubtype_stop (Zk (L _ M)))
set_option tactic.hygienic true in
theorem FH(tp:Bool)(l:Addr)(xs:Array Value):Meets (Builtin.«enumerate.__new__» ⟨[.type "enumerate",.ref l],[]⟩) (fun _ R s=>Wk tp s.heap l xs/\
   R (.ok (.ret (.ref (s.heap.push (Jn tp l)).objs.size))) {s with heap:=(s.heap.push (Jn tp l)).push {cls:=.type "enumerate",data:=.fields #[.none,.bool false,.ref s.heap.objs.size,rawInt 0,.none,.none]}}):=
 .of_wp fun L w A R s h=>by
  obtain⟨O,g,d,B,D⟩:=s;obtain⟨J,h⟩:=h;have N:=sub_enumerate;have M:Wk tp (Shared.heap ⟨O,g,d,B,D⟩) l xs:=J
  obtain⟨Z,Y,E⟩:∃Z,O.get? l=some Z/\(∃T n,Z.data=.seq T n):=by
   cases tp with
   |false=>obtain⟨o,e,_,n,G⟩:=J;exact⟨o,e,_,n,G⟩
   |true=>obtain⟨o,e,_,n,G⟩:=J;exact⟨o,e,_,n,G⟩
  wp_walk using AutoSeq1.wpAny_loadPart' Y
  refine wpAny_stack_any fun F=>Zk ?_
  split
  .rename_i c _ _ _ _ _
   cases(c==Value.type "enumerate") <;> (wp_walk using AutoSeq1.wpAny_loadPart' Y,W8 M;exact⟨_,rfl,h⟩)
  .wp_walk using AutoSeq1.wpAny_loadPart' Y,W8 M
   exact⟨_,rfl,h⟩
theorem PB(G:Wk tp s.heap l xs)(h:∀g,IsEnum g (s.heap.objs.size+1) s.heap.objs.size 0 .none->SJ tp g s.heap.objs.size l 0->(∀c o,s.heap.get? c=some o->g.get? c=some o)->Q (.ref (s.heap.objs.size+1)) {s with heap:=g}):
  wpAny (model prog w) A (call (.type "enumerate") [.ref l]) Q E s:=by
 refine callType_new F.called_enumerate (by decide) (F.typeCall_enumerate_1 _) (F.newCall_enumerate_1 _) (fun Z=>F.args_object_init_2 Z _) F.entry_enumerate_new (FH tp l xs) ⟨G,?_⟩;have L:(s.heap.push (Jn tp l)).objs.size=s.heap.objs.size+1:=Heap.size_push ..;have Y:((s.heap.push (Jn tp l)).push {cls:=.type "enumerate",data:=.fields #[.none,.bool false,.ref s.heap.objs.size,rawInt 0,.none,.none]}).get? (s.heap.push (Jn tp l)).objs.size=some _:=ZW _ rfl;have J:SJ tp ((s.heap.push (Jn tp l)).push {cls:=.type "enumerate",data:=.fields #[.none,.bool false,.ref s.heap.objs.size,rawInt 0,.none,.none]}) s.heap.objs.size l 0:=(SJ.new tp s.heap l).to fun o q=>ZD _ q;show _/\_;rw[L]at Y |-;exact⟨⟨_,Y,rfl⟩,h _ Y J fun c o q=>ZD _ (ZD _ q)⟩
end
structure ER(h:Heap)(e it:Addr)(tp:Bool)(l:Addr)(k:Nat):Prop where
 enu:∃old,IsEnum h e it k old
 one:SJ tp h it l k
def Ite(K:W.Frag)(tp:Bool)(l:Addr):It:=
 ⟨fun i H=>∃xs x,Sq K tp H l xs/\xs[i]?=some x,fun i H v H'=>∃r x,v=.ref r/\H r=none/\H'=upd H r (.tup [.int (i:Nat),x])/\∀xs,Sq K tp H l xs->xs[i]?=some x,fun i H=>∃xs,Sq K tp H l xs/\xs.length<=i⟩
theorem Lf{P:Program}{w:World}{K:W.Frag}{O:List Expr}{x1}{pos:Pos}{e it l:Addr}{tp:Bool}(a:e≠it)(n2:l≠it):Turn P w K (.Tuple O x1 pos) (Ite K tp l) [e,it] e (fun i h=>ER h e it tp l i) where
 mem:=by simp
 obj:=fun i h Z b Y=>by
  have q:b=e\/b=it:=by simpa using Y
  rcases q with q|q <;> rw[q]
  .obtain ⟨G,N⟩:=Z.enu
   exact⟨_,N,fun v e=>nomatch e⟩
  .exact Z.one.obj
 keep:=fun i h h' Z k=>⟨let⟨G,N⟩:=Z.enu;⟨G,k e (by simp) _ N⟩,Z.one.to fun o q=>k it (by simp) o q⟩
 item:=by
  intro X u p r hc i J s U H E I L Z f;subst u p r;obtain⟨xs,x,T,hx⟩:=f;obtain⟨m,C,D⟩:=I.sq T;obtain⟨F,c,S⟩:=C.get hx;obtain⟨G,B⟩:=Z.enu;have R:e<s.heap.objs.size:=ZN B;refine Oj B (Z.one.si D) n2 (x:=F) (by simpa using c) a fun g ho hj ht sz t=>?_;have y:∀b o,b ∉ [e,it]->s.heap.get? b=some o->g.get? b=some o:=fun b o Y q=>t b o (fun z=>Y (by simp[z])) (fun z=>Y (by simp[z])) q;have I1:Inv X J U H {s with heap:=g,toks:=s.toks+1}:=I.turnedL (t':=s.toks+1) y L;have d:H s.heap.objs.size=none:=I.hok.fresh (ZF _);refine⟨_,rfl,?_⟩;refine wpAny_letOwnedTupleGo_enum (s:={s with heap:=g,toks:=s.toks+1}) ho fun n e2 A=>?_
  have I2:Inv X J U H {s with heap:=n,toks:=s.toks+1}:=I1.turnedL (s:={s with heap:=g,toks:=s.toks+1}) (t':=s.toks+1) (ch:=[e]) (fun b o Y q=>A.extBut b o (fun z=>Y (by simp[z])) q) fun b Y=>by
   have q:b=e:=by simpa using Y
   rw[q];exact L e (by simp)
  have Q:n.get? s.heap.objs.size=some {cls:=.type "tuple",data:=.seq #[.int i s.toks,F]}:=A.extBut _ _ (Nat.ne_of_gt R) ht;have I3:Inv X J U (upd H s.heap.objs.size (.tup [.int (i:Nat),x])) {s with heap:=n,toks:=s.toks+1}:=I2.retrack d (I.fpOk (ZF _) d) ⟨sl 2,[.int i s.toks,F],.cons ⟨_,rfl⟩ (.cons S .nil),⟨_,Q,rfl,rfl,_,rfl⟩⟩
  have j:∀b∈ [e,it],b<s.heap.objs.size:=fun b Y=>by
   have q:b=e\/b=it:=by simpa using Y
   rcases q with q|q <;> rw[q]
   .exact R
   .obtain ⟨o,q,_⟩:=Z.one.obj
    exact ZN q
  refine⟨.ref s.heap.objs.size,_,I3,rfl,⟨_,x,rfl,d,rfl,fun zs h=>by rw[I.sq_inj h T];exact hx⟩,?_,fun b Y=>?_⟩
  .exact ⟨⟨_,e2⟩,hj.to fun o q=>A.extBut _ o (Zq a) q⟩
  .rw [Ya (Zc (j b Y))]
   exact(L b Y).1
 done:=by
  intro X u p r hc i J s U H E I L Z f;subst u p r;obtain⟨xs,T,M⟩:=f;obtain⟨m,C,D⟩:=I.sq T;have e1:=C.length;obtain⟨G,B⟩:=Z.enu;refine Se (I.ok.hd hc) B (Z.one.si D) (by simp;exact Tj e1 M) fun g t=>⟨rfl,?_⟩
  exact I.turnedL (t':=s.toks) (ch:=[it]) (fun b o Y q=>t b o (fun z=>Y (by simp[z])) q) fun b Y=>L b (by
   have q:b=it:=by simpa using Y
   rw[q];simp)
 self:=fun _ _ _ _ _ Z h=>let⟨_,N⟩:=Z.enu;wpAny_pyIter_enum N h
theorem B6:bootBuiltins "enumerate"=some (.type "enumerate"):=by decide +kernel
def zQ(K:W.Frag)(ta:TA):TI:=fun U H R=>ta U H fun vs H1=>∃a tp xs,vs=[.ref a]/\Sq K tp H1 a xs/\R (Ite K tp a) H1
theorem WD(Q:Gl X "enumerate")(C:X.mg "enumerate"=none)(y:PA X [a] ta)(S:starEach [a] X.env=[(false,eval a X.env)]:=by rfl):PI X (.Tuple elts x1 tpos) (.Call (.Name "enumerate" p) [a] [] pos) (zQ X.K ta):=by
 intro Z s U H R I h;refine Call_ (Wh I Q C B6 (PyProof.Rows.callWith_type1 (thn (y pos Z s U H _ I h) fun c Y ⟨k,O,G,D,L⟩=>?_) (by rw[S];rfl) (by rfl)));obtain⟨l,d,m,e,L,q⟩:=L;subst e;obtain⟨u,rfl,T⟩:=vals1 D;cases T;obtain⟨A,B,M⟩:=G.sq L;have E:=M.lt;refine PB M fun g N P F=>?_;refine wpAny_pyIter_enum (s:={Y with heap:=g}) N ?_;have t:Inv X Z U O {Y with heap:=g}:=G.kept (t':=Y.toks) F;refine⟨_,[Y.heap.objs.size+1,Y.heap.objs.size],_,_,O,rfl,t,Lf (Nat.succ_ne_self _) (Zc E),⟨⟨_,N⟩,P⟩,fun b j=>?_,q⟩
 have J:Y.heap.objs.size<=b:=by
  have z:b=Y.heap.objs.size+1\/b=Y.heap.objs.size:=by simpa using j
  rcases z with z|z <;> rw[z] <;> first|exact ZF _|exact Nat.le_add_right _ _
 exact G.fpOk J (G.hok.fresh J)
end L2
namespace L2
open PySem PySem.Spec PyProof.Rows PySem.W PySem.Calls
end L2
namespace L2
open PySem PySem.Spec PyProof.Rows PySem.MeetsSeq
section
def L0:V->List V->Hp->VK->Prop:=fun x vs H Q=>∃(l:Addr)(ys:List Str)(y:Str)(j:Nat),x=.ref l/\vs=[.str y]/\H l=some (.lst (ys.map V.str))/\ys[j]?=some y/\(∀m,m<j->ys[m]?≠some y)/\Q .non (upd H l (.lst ((ys.eraseIdx j).map V.str)))
def Kz(y:Str):Value->Bool
 |.str x _=>x.cps.toList==y.cps.toList
 |_=>false
theorem Sm{x y:Str}:(x.cps.toList==y.cps.toList)=decide (x=y):=by
 by_cases h:x=y
 .subst h;simp
 .have:¬x.cps.toList=y.cps.toList:=fun e=>h (by cases x;cases y;simp_all [Array.ext'])
  rw[Zw h];exact beq_eq_false_iff_ne.mpr this
theorem E3:MtM X "list.remove" L0:=by
 intro P s U H x o v T Q I p c h;obtain⟨l,Z,y,j,rfl,rfl,k,g,S,q⟩:=h;cases p;obtain⟨u,rfl,d⟩:=c.one;obtain⟨t,rfl⟩:=d;obtain⟨z,Y,n,r,f,e⟩:=I.lstM k;have G:=r.length;rw[ZA]at G
 have M:∀m (L:m<Y.length),∃N J,Z[m]?=some N/\Y[m]=.str N J:=fun m L=>by
  have O:m<Z.length:=by exact W3 L G
  obtain⟨u,A,J,b⟩:=r.get (show(Z.map V.str)[m]?=some (.str Z[m]) by rw[ZG,ZC O];rfl);refine⟨Z[m],J,ZC O,?_⟩;rw[(ZE.mp A).2,b]
 have E:j<Y.length:=by have:=(ZE.mp g).1;exact El this G
 have w:∀u,u∈Y.toArray->EqGives u (.str y t) (Kz y u):=fun u A=>by
  obtain⟨m,L,C⟩:=List.mem_iff_getElem.mp (by simpa using A);obtain⟨N,J,_,R⟩:=M m L;rw[<-C,R];exact PySem.SeqRoads2.EqGives.str N y J t
 refine call_meets F.slot_list_remove ⟨_,e,rfl⟩ F.entry_list_remove (F.args_list_remove_2 _ _) (PySem.MeetsSeq.list_remove l Y.toArray n (.str y t) (Kz y) w j (by rw[ZM];exact E) ?_ ?_ (by rw[ZM];exact Tj f z)) ⟨e,?_⟩
 .obtain ⟨N,J,B,R⟩:=M j E
  rw[g]at B;cases B;show Kz y Y.toArray[j]=true;simp only[List.getElem_toArray,R,Kz,beq_self_eq_true]
 .intro m L hlt
  rw[ZM]at L;obtain⟨N,J,B,R⟩:=M m L;simp only[List.getElem_toArray,R,Kz];rw[Sm];exact Zw fun e=>S m hlt (by rw[B,e])
 refine⟨.non,_,I.lset (its':=Y.eraseIdx j) k e (by simp[Array.eraseIdxIfInBounds,E]) ?_ ?_,rfl,q⟩
 .have er:∀{D:List V}{T:List Value}(j:Nat),Vals D T->Vals (D.eraseIdx j) (T.eraseIdx j):=by
   intro D T j q
   induction q generalizing j with
   |nil=>exact .nil
   |cons h t ih=>
    cases j with
    |zero=>exact t
    |succ j=>exact .cons h (ih j)
  have C:∀(Z:List Str)(j:Nat),(Z.eraseIdx j).map V.str=(Z.map V.str).eraseIdx j:=by
   intro Z
   induction Z with
   |nil=>intro j;rfl
   |cons a t ih=>intro j;cases j with
    |zero=>rfl
    |succ j=>show V.str a::(t.eraseIdx j).map V.str=V.str a::(t.map V.str).eraseIdx j;rw[ih]
  rw[C];exact er j r
 .rw [ZA]
  have:=List.length_eraseIdx_le Z j;omega
end
end L2
namespace L2
open PySem PySem.Spec PyProof.Rows
def Its(x:Str):It:=⟨fun i _=>i<x.cps.size,fun i H v H'=>H'=H/\∃c,x.cps[i]?=some c/\v=.str ⟨#[c]⟩,fun i _=>x.cps.size<=i⟩
def SIt(it:Addr)(x:Str)(i:Nat)(h:Heap):Prop:=∃ty t,(ty="str_ascii_iterator" \/ ty="str_iterator")/\h.IsStrIter it ty x t i
theorem LA(h:Q () s):wpAny M A (letOwnedTupleGo tg it (.str y t)) Q E s:=by
 unfold letOwnedTupleGo;cases tg <;> cases it <;> exact Zk h
theorem Fc{P:Program}{w:World}{K:W.Frag}{n:Expr}(it:Addr)(x:Str):Turn P w K n (Its x) [it] it (SIt it x) where
 mem:=by simp
 obj:=fun i h ⟨ty,t,_,o,g,_,hd⟩ b L=>by
  cases ZO.mp L;exact⟨o,g,fun v z=>by rw[hd]at z;cases z⟩
 keep:=fun i h G ⟨ty,t,Y,o,g,r⟩ k=>⟨ty,t,Y,o,k it (by simp) o g,r⟩
 item:=by
  intro X p m d B i N s U H E I A ⟨ty,t,Y,M⟩ F;subst p m d;obtain⟨q,j,_,Q,C,S⟩:=A it (by simp);have D:∀(v:Value)(G:Heap)(O:Nat),SignAt x i v->SIt it x (i+1) G->(∀b o,b ∉ [it]->s.heap.get? b=some o->G.get? b=some o)->
    (∃u,some v=some u/\wpAny (model X.prog X.w) X.A (letOwnedTupleGo n (.ref it) u) (fun _ a=>∃y l,Inv X N U l a/\RelV y u/\(Its x).yld i H y l/\SIt it x (i+1) a.heap/\∀b∈ [it],l b=none) E {s with heap:=G,toks:=O}):=fun v G O T Z R=>by
   obtain⟨c,u,hx,rfl⟩:=T;exact⟨_,rfl,LA ⟨.str ⟨#[c]⟩,H,I.turned (fun b o L e=>R b o (by simpa using L) e) q j Q C S,⟨_,rfl⟩,⟨rfl,c,hx,rfl⟩,Z,fun b L=>(A b L).1⟩⟩
  rcases Y with rfl|rfl
  .exact (Walks.strAscii (I.ok.hd B) it x t).item i s _ _ F M fun v G O T Z R=>D v G O T ⟨_,t,.inl rfl,Z⟩ R
  .exact (Walks.strWide (I.ok.hd B) it x t).item i s _ _ F M fun v G O T Z R=>D v G O T ⟨_,t,.inr rfl,Z⟩ R
 done:=by
  intro X p m d B i N s U H E I A ⟨ty,t,Y,M⟩ F;subst p m d;obtain⟨q,j,_,Q,C,S⟩:=A it (by simp)
  have J:x.cps[i]?=none:=by
   have z:x.cps.size<=i:=F;simp[z]
  rcases Y with rfl|rfl
  .exact wpAny_pyNext_ascii_end (I.ok.hd B) M J fun G f=>⟨rfl,I.turned (t':=s.toks) (fun b o L e=>f b o L e) q j Q C S⟩
  .exact wpAny_pyNext_wide_end (I.ok.hd B) M J fun G f=>⟨rfl,I.turned (t':=s.toks) (fun b o L e=>f b o L e) q j Q C S⟩
 self:=fun _ _ _ _ _ ⟨ty,t,Y,M⟩ h=>by
  rcases Y with rfl|rfl
  .exact wpAny_pyIter_striter_ascii M h
  .exact wpAny_pyIter_striter_wide M h
section
def yU(tl:TE):TI:=fun U H R=>tl U H fun v H1=>∃x,v=.str x/\R (Its x) H1
theorem Qw(O:PE X l tl):PI X tg l (yU tl):=by
 intro Y s U H R I h;refine thn (O Y s U H _ I h) fun v Z ⟨y,M,G,N,x,e,q⟩=>?_;subst e;obtain⟨t,rfl⟩:=N
 have B:∀b∈ [Z.heap.objs.size],UD X Y M b:=fun b T=>by
  cases ZO.mp T;exact G.fpOk (ZF _) (G.hok.fresh (ZF _))
 have L:∀(ty:String),(ty="str_ascii_iterator" \/ ty="str_iterator")->PIE X Y U tg R (.ref Z.heap.objs.size) {Z with heap:=Z.heap.push {cls:=.type ty,data:=.fields #[.str x t,.int 0 0]}}:=fun ty J=>
  ⟨_,[Z.heap.objs.size],_,_,M,rfl,G.kept (t':=Z.toks) (fun b o e=>ZD _ e),Fc _ x,⟨ty,t,J,_,ZW _ rfl,rfl,rfl⟩,B,q⟩
 cases ha:x.cps.all (fun c=>c<128)
 .exact wpAny_pyIter_wide ha (L _ (.inr rfl))
 .exact wpAny_pyIter_ascii ha (L _ (.inl rfl))
end
theorem Vf.dk_ex(x:Vf P w H h d (.dK kvs)):∃u,h.get? d=some u:=let⟨_,_,_,_,o,_,_,e,_⟩:=x;⟨o,e⟩
def epO(o:Obj):Nat:=match o.data with|.dict _ ep=>ep|_=>0
section
theorem Inv.freeze(I:Inv X pins U H s)(Z:H d=some (.dK kvs))(M:s.heap.get? d=some o):Inv X pins U (upd H d (.frz o (.dK kvs))) s:=by
 have Y:∀b u,H b=some u->(∀l,u≠.dK l)->b≠d:=fun b u e n z=>by subst z;rw[Z]at e;cases e;exact n kvs rfl
 have L:∀b,H b=none->b≠d:=fun b e z=>by subst z;rw[Z]at e;cases e
 have J:=I.un (H':=upd H d (.frz o (.dK kvs))) (h':=s.heap) (t':=s.toks)
  ⟨fun b u q _ _ _=>q,fun b u q _ _ _=>⟨u.slots,q⟩,fun b u q n _=>by rw[Ya (L b n)];exact n,fun b u q _=>⟨u,q⟩,fun b G q=>by rw[Ya (Y b _ q (fun l=>by intro z;cases z))];exact q,
   fun b u v q=>by rw[Ya (Y b _ q (fun l=>by intro z;cases z))];exact q,fun b N q=>⟨#[],by rw[Ya (Y b _ q (fun l=>by intro z;cases z)),q];simp⟩⟩ ?_
 .exact J
 .intro a u e
  by_cases z:a=d
  .subst z
   rw[YY]at e;cases e;exact⟨M,I.hok a _ Z⟩
  .rw [Ya z]at e
   exact(I.hok a u e).stay (fun b v _ q=>q) (fun b q=>by rw[Ya (Y b _ q (fun l=>by intro z;cases z))];exact q) fun b G q=>by rw[Ya (Y b _ q (fun l=>by intro z;cases z))];exact q
end
def Itd(d:Addr)(o:Obj)(kvs:List (Key×V)):It:=
 ⟨fun i H=>H d=some (.frz o (.dK kvs))/\i<kvs.length,fun i H x H'=>H'=H/\∃kv,kvs[i]?=some kv/\x=kV kv.1,fun i H=>H d=some (.frz o (.dK kvs))/\kvs.length=i⟩
theorem Oq(h:JY k v=true):RelV (kV k) v:=by
 rcases VX h with⟨i,t,rfl,rfl⟩|⟨x,t,rfl,rfl⟩
 .exact ⟨t,rfl⟩
 .exact ⟨t,rfl⟩
theorem SX(Y:JY k v=true)(h:Q () s):wpAny M A (letOwnedTupleGo tg it v) Q E s:=by
 rcases VX Y with⟨i,t,rfl,rfl⟩|⟨x,t,rfl,rfl⟩
 .unfold letOwnedTupleGo
  cases tg <;> cases it <;> exact Zk h
 .exact LA h
section
theorem Inv.dict_at(I:Inv X pins U H s)(O:H d=some (.frz o (.dK kvs))):∃vs,s.heap.DictAt (VC X.prog X.w) d vs (epO o)/\KV kvs vs/\(d==sysModules)=false:=by
 obtain⟨J,_,N,vs,G,B,R,T,Y,M,Z,L⟩:=(show Vf X.prog X.w H s.heap d (.frz o (.dK kvs))from I.hok d _ O);rw[J]at Y;cases Y;have e:epO o=T:=by unfold epO;rw[Z]
 exact⟨vs,⟨o,R,J,M,by rw[e];exact Z,L⟩,G,N⟩
end
theorem Bu{kvs:List (κ×V)}{vs:List (κ×Value)}(r:KV kvs vs):kvs.length=vs.length:=Paired.length r
theorem Kx:∀{kvs:List (κ×V)}{vs:List (κ×Value)}(i:Nat)(k:κ)(u:Value),KV kvs vs->vs[i]?=some (k,u)->∃v,kvs[i]?=some (k,v)
 |_,_,i,k,u,.nil,e=>by simp at e
 |_,_,0,k,u,.cons (a:=p) (b:=q) r _,e=>by
  have Z:some q=some (k,u):=e;cases Z;obtain⟨Y,v⟩:=p;have z:Y=k:=r.1;subst z;exact⟨v,rfl⟩
 |_,_,i+1,k,u,.cons _ t,e=>Kx i k u t e
theorem EX{P:Program}{w:World}{K:W.Frag}{l:Expr}(it d:Addr)(o:Obj)(kvs:List (Key×V)):Turn P w K l (Itd d o kvs) [it] it (fun i h=>h.IsKeyIter it d i kvs.length (epO o)) where
 mem:=by simp
 obj:=fun i h ⟨B,S,_,a⟩ b J=>by
  cases ZO.mp J;exact⟨B,S,fun v z=>by rw[a]at z;cases z⟩
 keep:=fun i h u ⟨B,S,r⟩ k=>⟨B,k it (by simp) B S,r⟩
 item:=by
  intro X Q A j f i N s U H E I D Z R;subst Q A j;obtain⟨g,m,_,t,q,y⟩:=D it (by simp);obtain⟨L,G,T,_⟩:=I.dict_at R.1;have O:=Bu T;rw[O]at Z;have c:i<L.length:=by have z:i<kvs.length:=R.2;exact El z O
  have p:L[i]?=some (L[i].1,L[i].2):=ZC c;obtain⟨v',C⟩:=Kx i _ _ T p;refine wpAny_pyNext_dict_item Z G p fun F u Y M n=>?_;rw[<-O]at M;exact⟨F,rfl,SX Y ⟨_,H,I.turned (t':=s.toks) (fun b o J e=>(n.2 b J).trans e) g m t q y,Oq Y,⟨rfl,_,C,rfl⟩,M,fun b J=>(D b J).1⟩⟩
 done:=by
  intro X Q A j f i N s U H E I D Z R;subst Q A j;obtain⟨g,m,_,t,q,y⟩:=D it (by simp);obtain⟨L,G,T,_⟩:=I.dict_at R.1;have O:=Bu T;rw[O]at Z;have c:kvs.length=i:=R.2;exact wpAny_pyNext_dict_end (I.ok.hd f) Z G (List.getElem?_eq_none_iff.mpr (by omega)) fun u x=>⟨rfl,I.turned (t':=s.toks) (fun b o J e=>x b o J e) g m t q y⟩
 self:=fun _ _ _ _ _ Z h=>wpAny_pyIter_keyiter Z h
section
theorem V8{st:Stmt}:PS X st (fun _ _ _=>False):=fun _ _ _ _ _ _ h=>h.elim
end
inductive Bd where
 |tag (t:Str)|name (x:Str)|pair (a b:Bd)|one (e:Bd)|other (e:Bd)
 |choose (e:Bd) (ts:List Str) (bs:List Bd)|ask (f:Str) (as:List Bd)|letb (x k:Str) (e b:Bd)
mutual
def Bd.dat:Bd->Dat
 |.tag t=>.tup [.str "tag",.str t]
 |.name x=>.tup [.str "name",.str x]
 |.pair a b=>.tup [.str "pair",a.dat,b.dat]
 |.one e=>.tup [.str "one",e.dat]
 |.other e=>.tup [.str "other",e.dat]
 |.choose e ts bs=>.tup [.str "choose",e.dat,.tup (Bd.brs bs ts)]
 |.ask f as=>.tup [.str "ask",.str f,.tup (Bd.dats as)]
 |.letb x k e b=>.tup [.str "let",.str x,.str k,e.dat,b.dat]
def Bd.dats:List Bd->List Dat
 |[]=>[]
 |b::bs=>b.dat::Bd.dats bs
def Bd.brs:List Bd->List Str->List Dat
 |[],_=>[]
 |b::bs,t::ts=>.tup [.str t,b.dat]::Bd.brs bs ts
 |_::_,[]=>[]
end
def Bd.parts:Bd->List Bd
 |.tag _=>[]
 |.name _=>[]
 |.pair a b=>[a,b]
 |.one e=>[e]
 |.other e=>[e]
 |.choose e _ bs=>e::bs
 |.ask _ as=>as
 |.letb _ _ e b=>[e,b]
def Bd.put:Bd->List Bd->Bd
 |.tag t,_=>.tag t
 |.name x,_=>.name x
 |.pair _ _,[a,b]=>.pair a b
 |.one _,[e]=>.one e
 |.other _,[e]=>.other e
 |.choose _ ts _,e::bs=>.choose e ts bs
 |.ask f _,as=>.ask f as
 |.letb x k _ _,[e,b]=>.letb x k e b
 |c,_=>c
mutual
def Bd.places:Bd->List (List Int)
 |.tag _=>[[]]
 |.name _=>[[]]
 |.pair a b=>[]::(a.places.map fun w=>(0:Int)::w)++ (b.places.map fun w=>(1:Int)::w)
 |.one e=>[]::e.places.map fun w=>(0:Int)::w
 |.other e=>[]::e.places.map fun w=>(0:Int)::w
 |.choose e _ bs=>[]::(e.places.map fun w=>(0:Int)::w)++ Bd.pls 1 bs
 |.ask _ as=>[]::Bd.pls 0 as
 |.letb _ _ e b=>[]::(e.places.map fun w=>(0:Int)::w)++ (b.places.map fun w=>(1:Int)::w)
def Bd.pls(k:Nat):List Bd->List (List Int)
 |[]=>[]
 |b::bs=>(b.places.map fun w=>(k:Int)::w)++ Bd.pls (k+1) bs
end
theorem Bd.places_eq:∀b:Bd,b.places=[]::Bd.pls 0 b.parts
 |.tag _=>by simp[Bd.places,Bd.parts,Bd.pls]
 |.name _=>by simp[Bd.places,Bd.parts,Bd.pls]
 |.pair a b=>by simp[Bd.places,Bd.parts,Bd.pls]
 |.one e=>by simp[Bd.places,Bd.parts,Bd.pls]
 |.other e=>by simp[Bd.places,Bd.parts,Bd.pls]
 |.choose e Y Z=>by simp[Bd.places,Bd.parts,Bd.pls]
 |.ask f J=>by simp[Bd.places,Bd.parts]
 |.letb x k e b=>by simp[Bd.places,Bd.parts,Bd.pls]
end L2
namespace L2
open PySem PySem.W PyProof.Rows
end L2
namespace L2
open PySem PySem.Spec PyProof.Rows
theorem LL:typeLookup (.type "tuple") (Str.ofString "keys")=pure none:=am_miss_of_fast (by decide +kernel)
section
theorem LM(pl:Wt s.heap a its)(B:A.handled=none)(h:∀h' tk,(∀b o,s.heap.get? b=some o->h'.get? b=some o)->Q none {s with heap:=h',toks:=tk}):
  wpAny (model prog w) A (getAttr? (.ref a) (Str.ofString "keys")) Q E s:=by
 obtain⟨⟨c,U,C,sl⟩,J,G,L,k,hdat⟩:=pl;simp only at L hdat G;subst L hdat G;obtain⟨D,I,S,tk,O⟩:=s;have Y:=F.slot_tuple_getattribute;have T:=Y.lookup;have X:=Y.bind (.ref a);have R:=am_tuple_getattr_none;have P:=sub_AttributeError;have M:∀n,(Shared.mk D I S n O).TypeIs (.ref a) "tuple":=fun n=>⟨_,J,rfl⟩;simp only[getAttr?,getAttrBy?,getAttrBy]
 repeat (any_goals (first|assumption|exact M _|((with_reducible show wpAny _ _ (call (Value.builtin "tuple.__getattribute__") _ _) _ _ _);refine call_meets F.slot_tuple_getattribute (M _) am_entry_tuple_getattribute (F.args_tuple_getattribute_2 _ _) (meets_getattribute_miss_tuple a its k sl (Str.ofString "keys") _ LL (by decide +kernel) (by size_fits)) ⟨J,B,fun h' N e Z=>?_⟩)|wp_step))
 have there:=Z.there;obtain⟨_,_,j⟩:=there;refine(?_:wpAny _ _ (getattributeRaised _ _ _ _ _ _ _) _ _ _);simp only[getattributeRaised]
 repeat any_goals first|assumption|wp_step
 exact h _ _ Z.keeps
end
section
theorem Uj(hc:X.calm=true):Jb X (.type "dict") (fun xs H Q=>∃(p:Addr)(ts:List Addr)(kvs:List (Key×V)),xs=[.ref p]/\H p=some (.tup (ts.map V.ref))/\T7 X.K H ts kvs/\(kvs.map (·.1)).Nodup/\∀l,H l=none->Q (.ref l) (upd H l (.dK kvs))):=by
 intro Z9 s U H xs us Q I r h;obtain⟨p,ts,kvs,rfl,f,E,hn,q⟩:=h;obtain⟨u,rfl,j⟩:=vals1 r;cases j;obtain⟨c,Z,r',z⟩:=(show Vf X.prog X.w H s.heap p (.tup (ts.map V.ref))from I.hok p _ f);rw[ZA]at c
 have L:Z.length=ts.length:=by
  have:=r'.length;rw[ZA]at this;exact this.symm
 have x:∀(i:Nat)(a:Addr),ts[i]?=some a->Z[i]?=some (Value.ref a):=fun i a e=>by
  obtain⟨u,hu,j⟩:=r'.get (show(ts.map V.ref)[i]?=some (V.ref a) by rw[ZG,e];rfl);rw[hu,show u=Value.ref a from j]
 obtain⟨vs,J,d⟩:=Td s.heap ts kvs E.1 fun i a k y e1 e2=>by
  obtain⟨J2,r2,p2,_⟩:=I.tuple (E.2 i a k y e1 e2)
  cases r2 with
  |cons r1 t1=>
   cases t1 with
   |cons r3 t3=>
    cases t3;exact⟨_,_,p2,r1,r3⟩
 have n:vs.length=Z.toArray.size:=by rw[ZM,L,E.1,<-J.length]
 have O:vs.map (·.1)=kvs.map (·.1):=by
  have Z8:∀{l:List (Key×V)}{m:List (Key×Value)},KV l m->m.map (·.1)=l.map (·.1):=by
   intro l m q
   induction q with
   |nil=>rfl
   |cons f t ih=>rw[ZT,ZT,ih,f.1]
  exact Z8 J
 have D:p<s.heap.objs.size:=by
  obtain⟨o,e,_⟩:=z;exact ZN e
 refine callType_codes (Q₁:=fun ob t=>ob=.ref s.heap.objs.size/\t={s with heap:=s.heap.push {cls:=.type "dict",data:=.dict #[]}}) F.kt_called_dict (F.kt_typeCall_dict_1 _) F.entry_dict_init (kt_code_dict_new _ ⟨rfl,rfl⟩) fun ob t P=>?_;obtain⟨rfl,rfl⟩:=P;have Y:(s.heap.push {cls:=.type "dict",data:=.dict #[]}).DictOf (VC X.prog X.w) s.heap.objs.size []:=Heap.DictOf.new s.heap;have k0:∀b o,s.heap.get? b=some o->(s.heap.push {cls:=.type "dict",data:=.dict #[]}).get? b=some o:=fun b o e=>ZD _ e;refine And.intro Y.typeIs (And.intro (F.args_dict_init_2 _ _) ?_);delta Builtin.«dict.__init__» Builtin.Dict.selfAndRest;refine Zj (Zj (wpAny_notOrdered_dict Y.typeIs (Zk (?_:wpAny _ _ (Builtin.Dict.updateFrom "dict.__init__" s.heap.objs.size (.ref p) [] .none) _ _ _))));delta Builtin.Dict.updateFrom;have N:=z.keeps k0;refine Zj (wpAny_typeOf (T:="tuple") (show Shared.TypeIs _ _ _ from let⟨o,M,_,h2,_⟩:=N;⟨o,M,h2⟩) ?_);rw[Zn (by decide)];refine Zj (LM N (I.ok.hd hc) fun M G1 G=>?_);simp only[Option.isNone_none,if_true];refine Zj (wpAny_rule ?_);refine Zj (wpAny_pyIter_tuple (show Heap.IsTuple _ _ _ from(N.keeps G).is) ?_)
 have C:s.heap.objs.size<M.objs.size:=by
  obtain⟨o,es,ep,w,_⟩:=Y;exact ZN (G _ _ w)
 have g:∀b o,s.heap.get? b=some o->(M.push {cls:=.type "tuple_iterator",data:=.fields #[.ref p,.int 0 0]}).get? b=some o:=fun b o e=>ZD _ (G b o (k0 b o e));refine Zk ⟨plainId_quiet XN _,EH (Walks.tuple (A:=X.A.in1.in1) (I.ok.hd hc) M.objs.size p (Zc (Nat.lt_trans D C)) Z.toArray) (h₀:=s.heap) (vs:=vs) n (by rw[<-J.length,<-E.1];exact c) (by rw[O];exact hn) ?_ s.heap.objs.size ?_ ?_ .none _ 0 _ 0 0 rfl (Za _) ?_ ?_ g ?_⟩
 .intro i v hv
  have hi:i<Z.length:=by
   have:=(Array.getElem?_eq_some_iff.mp hv).1
   rwa [ZM]at this
  have P:i<ts.length:=by exact El hi L
  obtain⟨k,ku,vu,e1,e2,e3⟩:=d i ts[i] (ZC P);refine⟨ts[i],k,ku,vu,?_,e1,e2,Xs e3⟩;have:=x i ts[i] (ZC P);have B:Z[i]?=some v:=by simpa using hv
  rw[this]at B;exact(ZP B).symm
 .intro S
  have two:s.heap.objs.size=M.objs.size\/s.heap.objs.size=p:=by simpa using S
  rcases two with e|e
  .exact Zp e (Zc C)
  .exact Zp e (Nat.ne_of_gt D)
 .intro b o e
  have R:=ZN e;refine⟨fun S=>?_,Zc R⟩;have e':b=M.objs.size:=by simpa using S
  rw[e']at R;exact Zp C (Nat.not_lt_of_lt R)
 .exact ⟨⟨_,ZW _ rfl,rfl,rfl⟩,(show Heap.IsTuple _ _ _ from(z.keeps g).is)⟩
 .obtain ⟨o,es,ep,w,rest⟩:=Y
  exact⟨o,es,ep,ZD _ (G _ _ w),rest⟩
 .intro h' tk hd' hk'
  refine⟨rfl,.ref s.heap.objs.size,_,I.laid (a:=s.heap.objs.size) (o:=.dK kvs) (fun b o e=>?_) (ZF _) (Tx (by rw[<-E.1];exact c) (beq_eq_false_iff_ne.mpr (Zq (Zc I.big))) J hd'),rfl,q _ (I.hok.fresh (ZF _))⟩;have R:=ZN e;refine hk' b o (fun S=>?_) (Zc R) (g b o e);have e':b=M.objs.size:=by simpa using S
  rw[e']at R;exact Zp C (Nat.not_lt_of_lt R)
theorem Mo:∀{xs:List V}{us:List Value},Vals xs us->Vals xs.reverse us.reverse
 |[],_,r=>by cases r;exact .nil
 |x::xs,_,r=>by
  cases r with
  |cons h t=>
   simp only[List.reverse_cons];exact(Mo t).append (.cons h .nil)
end
theorem Y6(h:Has H v (.tup ds)):∃p xs,v=.ref p/\H p=some (.tup xs)/\HasL H xs ds:=by unfold Has at h;exact h
theorem Yy(h:H p=some (.tup xs))(t:HasL H xs ds):Has H (.ref p) (.tup ds):=by unfold Has;exact⟨p,xs,rfl,h,t⟩
theorem has_str(h:Has H v (.str x)):v=.str x:=by unfold Has at h;exact h
theorem Y5:Has H (.str x) (.str x):=by unfold Has;rfl
theorem Ym(h:HasL H xs (d::ds)):∃x r,xs=x::r/\Has H x d/\HasL H r ds:=by
 match xs,h with
 |[],h=>unfold HasL at h;exact h.elim
 |x::r,h=>unfold HasL at h;exact⟨x,r,rfl,h.1,h.2⟩
theorem Vb(h:HasL H xs []):xs=[]:=by
 match xs,h with
 |[],_=>rfl
 |_::_,h=>unfold HasL at h;exact h.elim
theorem Bd.dats_map:∀bs:List Bd,Bd.dats bs=bs.map Bd.dat
 |[]=>by unfold Bd.dats;rfl
 |b::bs=>by unfold Bd.dats;rw[Bd.dats_map bs];rfl
abbrev Z7:=@Bd.dats_map
theorem Bd.brs_len:∀{bs:List Bd}{ts:List Str},bs.length=ts.length->(Bd.brs bs ts).length=ts.length
 |[],[],_=>by unfold Bd.brs;rfl
 |[],_::_,e=>by simp at e
 |_::_,[],e=>by simp at e
 |b::bs,t::ts,e=>by
  unfold Bd.brs;rw[Zd,Bd.brs_len (by simpa using e),Zd]
theorem Bd.brs_get:∀{bs:List Bd}{ts:List Str}{j:Nat}{d:Dat},(Bd.brs bs ts)[j]?=some d->∃b t,bs[j]?=some b/\ts[j]?=some t/\d=.tup [.str t,b.dat]
 |[],ts,j,d,e=>by unfold Bd.brs at e;simp at e
 |_::_,[],j,d,e=>by unfold Bd.brs at e;simp at e
 |b::bs,t::ts,0,d,e=>by
  unfold Bd.brs at e;have Y:some _=some d:=e;cases Y;exact⟨b,t,rfl,rfl,rfl⟩
 |b::bs,t::ts,j+1,d,e=>by
  unfold Bd.brs at e;exact Bd.brs_get (bs:=bs) (ts:=ts) (j:=j) e
mutual
def Bd.ok:Bd->Prop
 |.tag _=>True
 |.name _=>True
 |.pair a b=>a.ok/\b.ok
 |.one e=>e.ok
 |.other e=>e.ok
 |.choose e ts bs=>e.ok/\bs.length=ts.length/\(1<=ts.length/\ts.length<=7)/\Bd.oks bs
 |.ask _ as=>as.length<=6/\Bd.oks as
 |.letb _ _ e b=>e.ok/\b.ok
def Bd.oks:List Bd->Prop
 |[]=>True
 |b::bs=>b.ok/\Bd.oks bs
end
theorem Bd.oks_mem:∀{bs:List Bd}{b:Bd},Bd.oks bs->b∈bs->b.ok
 |[],_,_,h=>nomatch h
 |c::bs,b,w,h=>by
  unfold Bd.oks at w;rcases Zb.mp h with rfl|h
  .exact w.1
  .exact Bd.oks_mem w.2 h
theorem Bd.ok_parts{b:Bd}(h:b.ok):∀c∈b.parts,c.ok:=by
 intro c Y
 cases b with
 |tag t=>cases Y
 |name x=>cases Y
 |pair a e=>
  unfold Bd.ok at h;simp only[Bd.parts,Zb,List.mem_nil_iff,or_false]at Y;rcases Y with rfl|rfl
  .exact h.1
  .exact h.2
 |one e=>unfold Bd.ok at h;simp only[Bd.parts,ZO]at Y;rw[Y];exact h
 |other e=>unfold Bd.ok at h;simp only[Bd.parts,ZO]at Y;rw[Y];exact h
 |choose e Z J=>
  unfold Bd.ok at h;simp only[Bd.parts,Zb]at Y;rcases Y with rfl|Y
  .exact h.1
  .exact Bd.oks_mem h.2.2.2 Y
 |ask f G=>unfold Bd.ok at h;exact Bd.oks_mem h.2 Y
 |letb x k e g=>
  unfold Bd.ok at h;simp only[Bd.parts,Zb,List.mem_nil_iff,or_false]at Y;rcases Y with rfl|rfl
  .exact h.1
  .exact h.2
theorem Bd.few{b:Bd}(h:b.ok):b.parts.length<=8:=by
 cases b <;> (try (simp[Bd.parts];done)) <;> (unfold Bd.ok at h;simp only[Bd.parts,Zd,List.length_nil];omega)
end L2
namespace K4
open PySem L2
theorem Di:Yr ["body","word"] ["body"] (Yh BF):=Y7
theorem QM:List.Nodup [("tag":Str),"branch"]:=by decide +kernel
section
def GG:Sp:=fun vs H Q _=>∃(v:V)(b:Bd),vs=[v]/\Has H v b.dat/\b.ok/\∀u H',Same H H'->Has H' u (.tup (Bd.dats b.parts))->Q u H'
theorem ok_parts(B:Blt mg)(F:Fun K "parts" "parts" BF f fd):Yo P w K mg base CX0 (n+1) f fd ["body"] GG:=by
 refine F.oq Di fun N5 A J2 s H D Q E hr h=>?_;obtain⟨v,b,rfl,N,ok,q⟩:=h;refine⟨_,YW (Yp 1 Di.nd (Yd Yg (pv 0) YX))
  (YW (Yx (Yi Wf (pv 1) (Yw (pa2 Yn Yn)) (by rfl)) (YZ (Yf (Yw VT))) Yl)
  (YW (Yx (Yi VB (pv 1) Yn (Yq _)) (YZ (Yf (Y2 Xh (Yw (pa1 (Yd Yg (pv 0) YX))) (Y4 Vm rfl B.tuple Ve (pa1 (V6 ["tag","branch"] [] (Ji (Yd Yg (pv 0) YX)) Tt (fun cl C fp s H=>Vn (n:=2) rfl (Ys (Yk 0 QM rfl (Or.inl rfl) (Or.inr rfl)) (Ys (Yk 1 QM rfl (Or.inl rfl) (Or.inr rfl)) VO)))
     (fun cl C fp s H=>pv 1))))))) Yl)
  (YW (Yx (Yi VB (pv 1) Yn (Yq _)) (YZ (Yf (Yd Yg (pv 0) YX))) Yl)
  (YW (Yx (Yi VB (pv 1) Yn (Yq _)) (YZ (Yf (VM WX (pv 0) (VY YX) Vr))) Yl)
  (YZ (Yf (VM WX (pv 0) (VY YX) Vr))))))),?_⟩
 show let a:=_;let b:=_;let c:=Yj (Y9 _ b _) a;let d:=_;let e:=Yj (Y9 _ d _) c;let f:=_;let g:=Yj (Y9 _ f _) e;let h:=_;let i:=Yj (Y9 _ h _) g;Yj _ i _ _ _
 intros
 cases b with
 |tag t=>
  unfold Bd.dat at N;obtain⟨p,xs,rfl,L,O⟩:=Y6 N;obtain⟨u,X,rfl,T,J⟩:=Ym O;obtain rfl:=has_str T;refine⟨_,_,Z0 L,Y3 (j:=0) rfl,?_⟩;refine⟨sl 2,fun M Z=>?_⟩;refine⟨M,_,rfl,.inr (Z0 YY),rfl,rfl,_,rfl,VJ (by decide +kernel) ?_⟩;exact⟨sl 0,fun m Y=>q _ _ ((Yb Z _).trans (Yb Y _)) (Yy YY (by simp only[Bd.parts,Bd.dats];exact Z4))⟩
 |name x=>
  unfold Bd.dat at N;obtain⟨p,xs,rfl,L,O⟩:=Y6 N;obtain⟨u,X,rfl,T,J⟩:=Ym O;obtain rfl:=has_str T;refine⟨_,_,Z0 L,Y3 (j:=0) rfl,?_⟩;refine⟨sl 2,fun M Z=>?_⟩;refine⟨M,_,rfl,.inr (Z0 YY),rfl,rfl,_,rfl,VJ (by decide +kernel) ?_⟩;exact⟨sl 0,fun m Y=>q _ _ ((Yb Z _).trans (Yb Y _)) (Yy YY (by simp only[Bd.parts,Bd.dats];exact Z4))⟩
 |pair a e=>
  unfold Bd.dat at N;obtain⟨p,xs,rfl,L,O⟩:=Y6 N;obtain⟨u,X,rfl,T,J⟩:=Ym O;obtain rfl:=has_str T;refine⟨_,_,Z0 L,Y3 (j:=0) rfl,?_⟩;refine⟨sl 2,fun M Z=>?_⟩;have G:=Yb Z (.tup [V.str "tag",V.str "name"]);refine⟨M,_,rfl,.inr (Z0 YY),rfl,rfl,_,rfl,Y1 (by decide +kernel) ?_⟩;refine⟨rfl,_,rfl,Y1 (by decide +kernel) ?_⟩;refine⟨rfl,_,rfl,Y1 (by decide +kernel) ?_⟩;refine⟨rfl,_,rfl,Y1 (by decide +kernel) ?_⟩;refine⟨1,rfl,p,_,rfl,Z0 (G _ _ L),by simp[HT.sIx],fun m Y=>q _ _ (G.trans (Yb Y _)) (Yy (xs:=X) (by rw[YY];simp[Jp,HT.sIx]) ?_)⟩;exact(J.mono G).mono (Yb Y _)
 |one e=>
  unfold Bd.dat at N;obtain⟨p,xs,rfl,L,O⟩:=Y6 N;obtain⟨u,X,rfl,T,J⟩:=Ym O;obtain rfl:=has_str T;refine⟨_,_,Z0 L,Y3 (j:=0) rfl,?_⟩;refine⟨sl 2,fun M Z=>?_⟩;have G:=Yb Z (.tup [V.str "tag",V.str "name"]);refine⟨M,_,rfl,.inr (Z0 YY),rfl,rfl,_,rfl,Y1 (by decide +kernel) ?_⟩;refine⟨rfl,_,rfl,Y1 (by decide +kernel) ?_⟩;refine⟨rfl,_,rfl,Y1 (by decide +kernel) ?_⟩;refine⟨rfl,_,rfl,Y1 (by decide +kernel) ?_⟩;refine⟨1,rfl,p,_,rfl,Z0 (G _ _ L),by simp[HT.sIx],fun m Y=>q _ _ (G.trans (Yb Y _)) (Yy (xs:=X) (by rw[YY];simp[Jp,HT.sIx]) ?_)⟩;exact(J.mono G).mono (Yb Y _)
 |other e=>
  unfold Bd.dat at N;obtain⟨p,xs,rfl,L,O⟩:=Y6 N;obtain⟨u,X,rfl,T,J⟩:=Ym O;obtain rfl:=has_str T;refine⟨_,_,Z0 L,Y3 (j:=0) rfl,?_⟩;refine⟨sl 2,fun M Z=>?_⟩;have G:=Yb Z (.tup [V.str "tag",V.str "name"]);refine⟨M,_,rfl,.inr (Z0 YY),rfl,rfl,_,rfl,Y1 (by decide +kernel) ?_⟩;refine⟨rfl,_,rfl,Y1 (by decide +kernel) ?_⟩;refine⟨rfl,_,rfl,Y1 (by decide +kernel) ?_⟩;refine⟨rfl,_,rfl,Y1 (by decide +kernel) ?_⟩;refine⟨1,rfl,p,_,rfl,Z0 (G _ _ L),by simp[HT.sIx],fun m Y=>q _ _ (G.trans (Yb Y _)) (Yy (xs:=X) (by rw[YY];simp[Jp,HT.sIx]) ?_)⟩;exact(J.mono G).mono (Yb Y _)
 |choose e ts bs=>
  unfold Bd.dat at N;obtain⟨p,xs,rfl,L,O⟩:=Y6 N;obtain⟨u,X,rfl,T,J⟩:=Ym O;obtain rfl:=has_str T;obtain⟨r,r2,rfl,h2,U⟩:=Ym J;obtain⟨x3,r3,rfl,h3,S⟩:=Ym U;obtain rfl:=Vb S;obtain⟨pz,zs,rfl,Z9,Z8⟩:=Y6 h3;unfold Bd.ok at ok;obtain⟨o1,o2,o3,o4⟩:=ok;have lz:=Z8.length;rw[Bd.brs_len o2]at lz;refine⟨_,_,Z0 L,Y3 (j:=0) rfl,?_⟩;refine⟨sl 2,fun M Z=>?_⟩;have G:=Yb Z (.tup [V.str "tag",V.str "name"]);refine⟨M,_,rfl,.inr (Z0 YY),rfl,rfl,_,rfl,Y1 (by decide +kernel) ?_⟩;refine⟨rfl,_,rfl,VJ (by decide +kernel) ?_⟩;refine⟨_,_,Z0 (G _ _ L),rfl,sl 1,fun m Y=>?_⟩;have s2:=Yb Y (.tup [r]);have sA:=G.trans s2;refine⟨_,_,Z0 (sA _ _ L),rfl,⟨_,Z0 (sA _ _ Z9)⟩,?_⟩;have I:=sA _ _ Z9;refine VR zs.length (Ye (by exact D2 lz o3)) (fun j D o=>o=upd (upd H M (.tup [V.str "tag",V.str "name"])) m (.tup [r])/\D.length=j/\HasL H D ((bs.map Bd.dat).take j)) ⟨rfl,rfl,Z4⟩ (fun j D o z=>z.2.1) ?_ ?_ ?_ ?_
  .rintro j D o hj ⟨rfl,_⟩
   exact⟨zs,zs[j],Z0 I,by simp[hj]⟩
  .rintro D o ⟨rfl,_⟩
   exact⟨zs,Z0 I,ZF _⟩
  .rintro j D o x H3 R hj ⟨rfl,z2,z3⟩ yl hR
   obtain⟨rfl,y⟩:=yl;obtain⟨d,hd,L2⟩:=Z8.get (y zs (Z0 I));obtain⟨b,t0,N3,N4,rfl⟩:=Bd.brs_get hd;obtain⟨pp,ys,rfl,N0,G1⟩:=Y6 L2;obtain⟨y1,r4,rfl,h4,G3⟩:=Ym G1;obtain⟨y2,r5,rfl,h5,G2⟩:=Ym G3;obtain rfl:=Vb G2;refine⟨_,Z0 (sA _ _ N0),rfl,?_⟩;refine hR _ _ ⟨rfl,by rw[ZJ,z2];rfl,?_⟩;rw[List.take_add_one,ZG,N3];exact Z5 z3 (Z3 h5)
  .rintro D o l ⟨rfl,z2,z3⟩ hl3
   have s3:=Yb hl3 (.lst D);refine⟨l,_,rfl,.inl ⟨Z1 YY,fun l4 N2=>?_⟩⟩;have s4:=Yb N2 (.tup D);have sB:=(sA.trans s3).trans s4;rw[Ze (by rw[ZA];exact Pc o2 lz)]at z3;have e1:Bd.dats (Bd.choose e ts bs).parts=e.dat::bs.map Bd.dat:=by rw[Z7];rfl
   refine⟨m,l4,[r],D,rfl,rfl,Z0 (s4 _ _ (s3 _ _ YY)),Z0 YY,by simp,Zf (Ye (by simp only[List.length_singleton];exact Pb lz z2 o3)),fun e0=>?_,fun _ p5 N1=>?_⟩
   .refine q _ _ sB ?_
    rw[e1];subst e0
    have hb:bs=[]:=by
     have:=z3.length;simpa using this.symm
    rw[hb];exact Yy (s4 _ _ (s3 _ _ YY)) (Z3 (h2.mono sB))
   .have s5:=Yb N1 (.tup ([r]++ D))
    refine q _ _ (sB.trans s5) ?_;rw[e1];exact Yy YY (Z2 (h2.mono (sB.trans s5)) (z3.mono (sB.trans s5)))
 |ask g as=>
  unfold Bd.dat at N;obtain⟨p,xs,rfl,L,O⟩:=Y6 N;obtain⟨u,X,rfl,T,J⟩:=Ym O;obtain rfl:=has_str T;obtain⟨r,r2,rfl,h2,U⟩:=Ym J;obtain⟨x3,r3,rfl,h3,S⟩:=Ym U;refine⟨_,_,Z0 L,Y3 (j:=0) rfl,?_⟩;refine⟨sl 2,fun M Z=>?_⟩;have G:=Yb Z (.tup [V.str "tag",V.str "name"]);refine⟨M,_,rfl,.inr (Z0 YY),rfl,rfl,_,rfl,Y1 (by decide +kernel) ?_⟩;refine⟨rfl,_,rfl,Y1 (by decide +kernel) ?_⟩;refine⟨rfl,_,rfl,VJ (by decide +kernel) ?_⟩;exact⟨_,_,Z0 (G _ _ L),Y3 (j:=2) rfl,q _ _ G (h3.mono G)⟩
 |letb x k e g=>
  unfold Bd.dat at N;obtain⟨p,xs,rfl,L,O⟩:=Y6 N;obtain⟨u,X,rfl,T,J⟩:=Ym O;obtain rfl:=has_str T;obtain⟨r,r2,rfl,h2,U⟩:=Ym J;obtain⟨x3,r3,rfl,h3,S⟩:=Ym U;have lr:=S.length;refine⟨_,_,Z0 L,Y3 (j:=0) rfl,?_⟩;refine⟨sl 2,fun M Z=>?_⟩;have G:=Yb Z (.tup [V.str "tag",V.str "name"]);refine⟨M,_,rfl,.inr (Z0 YY),rfl,rfl,_,rfl,Y1 (by decide +kernel) ?_⟩;refine⟨rfl,_,rfl,Y1 (by decide +kernel) ?_⟩;refine⟨rfl,_,rfl,Y1 (by decide +kernel) ?_⟩;refine⟨rfl,_,rfl,VJ (by decide +kernel) ?_⟩;refine⟨3,rfl,p,_,rfl,Z0 (G _ _ L),by simp[HT.sIx],fun m Y=>q _ _ (G.trans (Yb Y _)) (Yy (xs:=r3) (by rw[YY];simp[Jp,HT.sIx]) ?_)⟩;exact(S.mono G).mono (Yb Y _)
end
end K4
namespace L2
open PySem
def Bd.at:Bd->List Int->Option Bd
 |b,[]=>some b
 |b,i::r=>if 0<=i then(match b.parts[i.toNat]? with|some c=>Bd.at c r|none=>none)else none
theorem L6(R:X.K=K)(O:Gl X "isinstance")(N:X.mg "isinstance"=none)(Z:Gl X x)(Y:X.mg x=none)(G:bootBuiltins x=some (.type T))(he:PE X e te)(M:x≠"__name__":=by decide)(J:(x==("__debug__":Str))=false:=by decide)(L:starEach [e,.Name x p'] X.env=(false,eval e X.env)::starEach [.Name x p'] X.env:=by rfl):
  PE X (.Call (.Name "isinstance" p) [e,.Name x p'] [] pos) (tCB (Qt K) (JI te (JI (tC (.ty T)) Gv))):=by
 subst R;exact Jj O N Z Y G he M J L
theorem Bd.dat_tup:∀b:Bd,∃ds,b.dat=.tup ds
 |.tag _=>⟨_,by unfold Bd.dat;rfl⟩
 |.name _=>⟨_,by unfold Bd.dat;rfl⟩
 |.pair _ _=>⟨_,by unfold Bd.dat;rfl⟩
 |.one _=>⟨_,by unfold Bd.dat;rfl⟩
 |.other _=>⟨_,by unfold Bd.dat;rfl⟩
 |.choose _ _ _=>⟨_,by unfold Bd.dat;rfl⟩
 |.ask _ _=>⟨_,by unfold Bd.dat;rfl⟩
 |.letb _ _ _ _=>⟨_,by unfold Bd.dat;rfl⟩
def Bd.Plain(b:Bd):Prop:=∃(wd:Str)(ds:List Dat),b.dat=.tup (.str wd::ds)/\wd≠"choose" /\wd≠"ask" /\1<=ds.length/\ds.length<=4/\(ds.filter fun d=>isD "tuple" d)=Bd.dats b.parts
theorem Bd.is_tup(b:Bd):isD "tuple" b.dat=true:=by
 obtain⟨Y,e⟩:=b.dat_tup;rw[e];rfl
theorem Bd.form(b:Bd):(∃e ts bs,b=.choose e ts bs)\/(∃f as,b=.ask f as)\/b.Plain:=by
 have Y:∀x:Str,isD "tuple" (.str x)=false:=fun x=>rfl
 cases b with
 |tag t=>exact .inr (.inr ⟨"tag",[.str t],by unfold Bd.dat;rfl,by decide +kernel,by decide +kernel,by simp,by simp,by simp[Y,Bd.parts,Bd.dats]⟩)
 |name x=>exact .inr (.inr ⟨"name",[.str x],by unfold Bd.dat;rfl,by decide +kernel,by decide +kernel,by simp,by simp,by simp[Y,Bd.parts,Bd.dats]⟩)
 |pair a e=>exact .inr (.inr ⟨"pair",[a.dat,e.dat],by conv=>lhs;unfold Bd.dat,by decide +kernel,by decide +kernel,by simp,by simp,by simp[Bd.is_tup,Bd.parts,Bd.dats]⟩)
 |one e=>exact .inr (.inr ⟨"one",[e.dat],by conv=>lhs;unfold Bd.dat,by decide +kernel,by decide +kernel,by simp,by simp,by simp[Bd.is_tup,Bd.parts,Bd.dats]⟩)
 |other e=>exact .inr (.inr ⟨"other",[e.dat],by conv=>lhs;unfold Bd.dat,by decide +kernel,by decide +kernel,by simp,by simp,by simp[Bd.is_tup,Bd.parts,Bd.dats]⟩)
 |choose e ts bs=>exact .inl ⟨e,ts,bs,rfl⟩
 |ask f as=>exact .inr (.inl ⟨f,as,rfl⟩)
 |letb x k e g=>exact .inr (.inr ⟨"let",[.str x,.str k,e.dat,g.dat],by conv=>lhs;unfold Bd.dat,by decide +kernel,by decide +kernel,by simp,by simp,by simp[Y,Bd.is_tup,Bd.parts,Bd.dats]⟩)
end L2
namespace K4
open PySem L2
theorem Fq:Yr ["body"] ["body"] (Yh ML):=Y7
theorem SD:List.Nodup [("row":Str)]:=by decide +kernel
theorem Gc:List.Nodup [("part":Str)]:=by decide +kernel
section
def Vy:Sp:=fun vs H Q _=>∃(v:V)(b:Bd),vs=[v]/\Has H v b.dat/\b.ok/\∀(r:Addr)(H':Hp),Same H H'->H r=none->Has H' (.ref r) (.lst (Bd.dats b.parts))->Q (.ref r) H'
theorem Er(B:Blt mg)(F:Fun K "_law_parts" "_law_parts" ML f fd):Yo P w K mg base CX0 (n+1) f fd ["body"] Vy:=by
 refine F.oq Fq fun N3 A Z8 s H Y Q E hr h=>?_;obtain⟨v,b,rfl,m,ok,q⟩:=h;refine⟨_,YW (Yx (Yi VB (Yd Yg (pv 0) YX) Yn (Yq _)) (YZ (Yf (Y2 Ur (VD (pa1 (Yd Yg (pv 0) YX)))
    (V6 ["row"] [] (Ji (Yd Yg (pv 0) YX)) (Vl (i:=0) (by decide)) (fun cl C fp s H=>Yk 0 SD rfl (Or.inl rfl) (Or.inr rfl)) (fun cl C fp s H=>Yd (r:=Ta K) Yg (pv 0) YX))))) Yl)
  (YW (Yx (Yi VB (Yd Yg (pv 0) YX) Yn (Yq _)) (YZ (Yf (Y4 JN rfl B.list Vc (pa1 (Yd Yg (pv 0) YX))))) Yl)
  (YZ (Yf (L7 ["part"] [] (Ji (VM WX (pv 0) (VY YX) Vr)) (Vl (i:=0) (by decide)) (fun cl C fp s H=>Yk 0 Gc rfl (Or.inl rfl) (Or.inr rfl))
    (fun cl C fp s H=>V9 (L6 (K:=K) rfl rfl B.isi rfl B.tuple Ve (pv 0))) (fun cl C fp s H=>pv 0))))),?_⟩
 show let a:=_;let b:=_;let c:=Yj (Y9 _ b _) a;let d:=_;Yj (Y9 _ d _) c _ _ _
 intros
 rcases Bd.form b with⟨e,ts,bs,rfl⟩|⟨g,as,rfl⟩|⟨wd,ds,ed,n1,n2,d1,d4,N1⟩
 .unfold Bd.dat at m
  obtain⟨p,xs,rfl,N,o⟩:=Y6 m;obtain⟨x1,L,rfl,h1,J⟩:=Ym o;obtain rfl:=has_str h1;obtain⟨k,r2,rfl,h2,S⟩:=Ym J;obtain⟨x3,r3,rfl,h3,I⟩:=Ym S;obtain rfl:=Vb I;obtain⟨pz,U,rfl,D,O⟩:=Y6 h3;unfold Bd.ok at ok;obtain⟨o1,o2,o3,o4⟩:=ok;have lz:=O.length;rw[Bd.brs_len o2]at lz;refine⟨_,_,Z0 N,rfl,rfl,_,rfl,VJ (by decide +kernel) ?_⟩;refine⟨_,_,Z0 N,rfl,sl 1,fun t1 G3=>?_⟩;have t:=Yb G3 (.lst [k]);refine⟨_,_,Z0 (t _ _ N),rfl,⟨_,Z0 (t _ _ D)⟩,?_⟩;have M:=t _ _ D;refine VR U.length (Ye (by exact D2 lz o3)) (fun j Y G=>G=upd H t1 (.lst [k])/\Y.length=j/\HasL H Y ((bs.map Bd.dat).take j)) ⟨rfl,rfl,Z4⟩ (fun j Y G z=>z.2.1) ?_ ?_ ?_ ?_
  .rintro j Y G hj ⟨rfl,_⟩
   exact⟨U,U[j],Z0 M,by simp[hj]⟩
  .rintro Y G ⟨rfl,_⟩
   exact⟨U,Z0 M,ZF _⟩
  .rintro j Y G x H3 R hj ⟨rfl,z2,z3⟩ yl hR
   obtain⟨rfl,y⟩:=yl;obtain⟨d,hd,T⟩:=O.get (y U (Z0 M));obtain⟨b,t0,N0,N2,rfl⟩:=Bd.brs_get hd;obtain⟨pp,ys,rfl,L2,Z9⟩:=Y6 T;obtain⟨y1,r4,rfl,h4,G1⟩:=Ym Z9;obtain⟨y2,r5,rfl,h5,J2⟩:=Ym G1;obtain rfl:=Vb J2;refine⟨_,_,Z0 (t _ _ L2),rfl,hR _ _ ⟨rfl,by rw[ZJ,z2];rfl,?_⟩⟩;rw[List.take_add_one,ZG,N0];exact Z5 z3 (Z3 h5)
  .rintro Y G l ⟨rfl,z2,z3⟩ Z
   have X:=Yb Z (.lst Y);rw[Ze (by rw[ZA];exact Pc o2 lz)]at z3;have e1:Bd.dats (Bd.choose e ts bs).parts=e.dat::bs.map Bd.dat:=by rw[Z7];rfl
   refine⟨t1,l,[k],Y,rfl,rfl,X _ _ YY,YY,Zf (Ye (by simp only[List.length_singleton];exact Pb lz z2 o3)),fun l4 u=>?_⟩;have s4:=Yb u (.lst ([k]++ Y));have sB:=(t.trans X).trans s4;refine q l4 _ sB ((t.trans X).free u) (JD YY ?_);rw[e1];exact Z2 (h2.mono sB) (z3.mono sB)
 .unfold Bd.dat at m
  obtain⟨p,xs,rfl,N,o⟩:=Y6 m;obtain⟨x1,L,rfl,h1,J⟩:=Ym o;obtain rfl:=has_str h1;obtain⟨k,r2,rfl,h2,S⟩:=Ym J;obtain⟨x3,r3,rfl,h3,I⟩:=Ym S;obtain rfl:=Vb I;obtain⟨pz,U,rfl,D,O⟩:=Y6 h3;refine⟨_,_,Z0 N,rfl,rfl,_,rfl,Y1 (by decide +kernel) ?_⟩;refine⟨_,_,Z0 N,rfl,rfl,_,rfl,VJ (by decide +kernel) ?_⟩;refine⟨_,_,Z0 N,rfl,pz,_,rfl,.inr (Z0 D),fun l Z=>?_⟩;exact q l _ (Yb Z _) Z (JD YY (O.mono (Yb Z _)))
 .rw [ed]at m
  obtain⟨p,xs,rfl,N,o⟩:=Y6 m;obtain⟨x1,L,rfl,h1,J⟩:=Ym o;obtain rfl:=has_str h1;have lr:=J.length;refine⟨_,_,Z0 N,Y3 (j:=0) rfl,rfl,_,rfl,Y1 (by simpa using n1) ?_⟩;refine⟨_,_,Z0 N,Y3 (j:=0) rfl,rfl,_,rfl,Y1 (by simpa using n2) ?_⟩;refine⟨1,rfl,p,_,rfl,Z0 N,by simp[HT.sIx],fun t2 G2=>?_⟩;have ec:Jp (V.str wd::L) (some 1) none=L:=by simp[Jp,HT.sIx]
  rw[ec];have s2:=Yb G2 (.tup L);refine⟨⟨_,Z0 YY⟩,?_⟩;refine UN L.length (Ye (by omega)) (fun j Y G=>G=upd H t2 (.tup L)/\Y.length<=j/\HasL H Y ((ds.take j).filter fun d=>isD "tuple" d)) ⟨rfl,ZF _,Z4⟩ (fun j Y G z=>z.2.1) ?_ ?_ ?_ ?_
  .rintro j Y G hj ⟨rfl,_⟩
   exact⟨L,L[j],Z0 YY,by simp[hj]⟩
  .rintro Y G ⟨rfl,_⟩
   exact⟨L,Z0 YY,ZF _⟩
  .rintro j Y G x H3 R hj ⟨rfl,z2,z3⟩ yl hT hF
   obtain⟨rfl,y⟩:=yl;obtain⟨d,hd,T⟩:=J.get (y L (Z0 YY))
   have sn:(ds.take (j+1)).filter (fun d=>isD "tuple" d)=(ds.take j).filter (fun d=>isD "tuple" d)++ (if isD "tuple" d=true then[d]else[]):=by
    rw[List.take_add_one,hd,Option.toList_some,List.filter_append]
    congr 1
    by_cases e:isD "tuple" d=true <;> simp[e]
   refine⟨_,_,_,_,rfl,Bx (K:=K) (T.mono s2),Jm K d (by simp),_,rfl,?_⟩
   by_cases e:isD "tuple" d=true
   .refine VJ e (hT _ _ ⟨rfl,by rw[ZJ];simp;exact z2,?_⟩)
    rw[sn,Zn e];exact Z5 z3 (Z3 T)
   .refine Y1 e (hF _ ⟨rfl,Nat.le_succ_of_le z2,?_⟩)
    rw[sn,Zo e,List.append_nil];exact z3
  .rintro Y G l ⟨rfl,z2,z3⟩ Z
   have X:=Yb Z (.lst Y);rw[lr,List.take_length,N1]at z3;exact q l _ (s2.trans X) (s2.free Z) (JD YY (z3.mono (s2.trans X)))
end
end K4
namespace L2
open PySem PySem.Spec PyProof.Rows
section
theorem MY{ns:List Int}(r:Vals (ns.map V.int) its){i:Nat}(e:its[i]?=some v):∃t,v=.int (ns.getD i 0) t:=by
 have J:=(ZE.mp e).1;have l:=r.length;rw[ZA]at l;have Y:i<ns.length:=by exact W3 J l
 obtain⟨u,Z,t,rfl⟩:=r.get (show(ns.map V.int)[i]?=some (V.int ns[i]) by rw[ZG,ZC Y];rfl);rw[Z]at e;cases e;exact⟨t,by rw[List.getD_eq_getElem?_getD,ZC Y];rfl⟩
theorem Re(D:X.calm=true):Jb X (.builtin "sum") (fun xs H Q=>∃(p:Addr)(ns:List Int),xs=[.ref p]/\SqL X.K H p (ns.map V.int)/\PyProof.Rows.SumFits ns/\Q (.int ns.sum) H):=by
 intro N s U H xs F Q I r h;obtain⟨p,ns,rfl,T,L,q⟩:=h;obtain⟨u,rfl,R⟩:=vals1 r;cases R;obtain⟨Z,M,J,S⟩:=I.list T
 have O:p<s.heap.objs.size:=by
  obtain⟨o,n,e,_⟩:=J;exact ZN e
 have Y:Z.length=ns.length:=by
  have:=M.length;rw[ZA]at this;exact this.symm
 refine call_sum_walk (wpAny_pyIter_list J.isList ?_);refine⟨s.heap.objs.size,_,_,Z.toArray.size,_,_,fun i=>ns.getD i 0,rfl,Walks.list (A:=X.A.in1) (I.ok.hd D) _ p (Zc O) Z.toArray,?_,?_,?_,?_,?_⟩
 .exact ⟨⟨_,ZW _ rfl,rfl,rfl⟩,J.isList.push _⟩
 .intro b hb
  have e:b=s.heap.objs.size\/b=p:=by simpa using hb
  have G:∀o:Obj,(s.heap.push o).objs.size=s.heap.objs.size+1:=fun o=>Heap.size_push _ _;show b<(s.heap.push _).objs.size;rw[G];rcases e with e|e
  .rw [e];exact Nat.lt_succ_self _
  .rw [e];exact Nat.lt_succ_of_lt O
 .intro i v hv
  exact MY M (by simpa using hv)
 .intro j hj
  rw[ZM,Y]at hj;rw[preSum_getD];exact L j hj
 .intro h' tk t' hk
  rw[ZM,Y,preSum_getD,List.take_length];refine⟨.int ns.sum,H,I.kept fun b o e=>hk b o (fun B=>?_) (ZD _ e),⟨t',rfl⟩,q⟩;have E:b=s.heap.objs.size:=by simpa using B
  rw[E]at e;exact Nat.lt_irrefl _ (ZN e)
end
mutual
def Bd.size:Bd->Nat
 |.tag _=>1
 |.name _=>1
 |.pair a b=>1+(a.size+b.size)
 |.one e=>1+e.size
 |.other e=>1+e.size
 |.choose e _ bs=>1+(e.size+Bd.sizes bs)
 |.ask _ as=>1+Bd.sizes as
 |.letb _ _ e b=>1+(e.size+b.size)
def Bd.sizes:List Bd->Nat
 |[]=>0
 |b::bs=>b.size+Bd.sizes bs
end
mutual
def Bd.dep:Bd->Nat
 |.tag _=>0
 |.name _=>0
 |.pair a b=>1+max a.dep b.dep
 |.one e=>1+e.dep
 |.other e=>1+e.dep
 |.choose e _ bs=>1+max e.dep (Bd.deps bs)
 |.ask _ as=>1+Bd.deps as
 |.letb _ _ e b=>1+max e.dep b.dep
def Bd.deps:List Bd->Nat
 |[]=>0
 |b::bs=>max b.dep (Bd.deps bs)
end
theorem Bd.size_eq(b:Bd):b.size=1+Bd.sizes b.parts:=by
 cases b <;> simp[Bd.size,Bd.sizes,Bd.parts]
theorem Bd.deps_mem:∀{bs:List Bd}{b:Bd},b∈bs->b.dep<=Bd.deps bs
 |[],_,h=>nomatch h
 |c::bs,b,h=>by
  unfold Bd.deps;rcases Zb.mp h with rfl|h
  .exact Nat.le_max_left _ _
  .exact ZZ (Bd.deps_mem h) (Nat.le_max_right _ _)
theorem Bd.dep_mem{b c:Bd}(h:c∈b.parts):c.dep<b.dep:=by
 have Y:=Bd.deps_mem h;cases b <;> simp only[Bd.parts,Bd.deps,Bd.dep,List.mem_nil_iff]at * <;> first|exact h.elim|omega
theorem Bd.sizes_le:∀{bs:List Bd},(∀b∈bs,b.size<=m)->Bd.sizes bs<=bs.length*m
 |[],_=>by simp[Bd.sizes]
 |b::bs,h=>by
  have J:=h b (by simp);have Z:=Bd.sizes_le (m:=m) (bs:=bs) fun c Y=>h c (ZK _ Y);unfold Bd.sizes;rw[Zd,Nat.succ_mul];omega
theorem Bd.size_le:∀(n:Nat)(b:Bd),b.dep<=n->b.ok->b.size<=9 ^ n
 |0,b,h,ok=>by
  cases b <;> simp[Bd.dep]at h <;> simp[Bd.size]
 |n+1,b,h,ok=>by
  have J:∀c∈b.parts,c.size<=9 ^ n:=fun c Y=>Bd.size_le n c (by have:=Bd.dep_mem Y;exact D1 this h) (Bd.ok_parts ok c Y);have M:=Bd.sizes_le J;have Z:=Bd.few ok;have L:b.parts.length*9 ^ n<=8*9 ^ n:=Nat.mul_le_mul_right _ Z;have G:1<=9 ^ n:=Nat.one_le_pow _ _ (by decide);rw[Bd.size_eq,Nat.pow_succ];omega
theorem Bd.sizes_sum:∀bs:List Bd,((bs.map fun b=>((b.size:Nat):Int))).sum=((Bd.sizes bs:Nat):Int)
 |[]=>by simp[Bd.sizes]
 |b::bs=>by
  simp only[ZT,List.sum_cons,Bd.sizes];rw[Bd.sizes_sum bs]
  push_cast
  rfl
theorem Bd.sizes_take:∀(bs:List Bd)(j:Nat),Bd.sizes (bs.take j)<=Bd.sizes bs
 |[],j=>by simp[Bd.sizes]
 |b::bs,0=>by simp[Bd.sizes]
 |b::bs,j+1=>by
  simp only[List.take_succ_cons,Bd.sizes];have:=Bd.sizes_take bs j;omega
theorem Bd.sizes_mem:∀{bs:List Bd}{b:Bd},b∈bs->b.size<=Bd.sizes bs
 |[],_,h=>nomatch h
 |c::bs,b,h=>by
  unfold Bd.sizes;rcases Zb.mp h with rfl|h
  .exact Ip
  .have:=Bd.sizes_mem h
   omega
theorem EZ(h:Bd.sizes bs<2 ^ 62):PyProof.Rows.SumFits (bs.map fun b=>((b.size:Nat):Int)):=by
 intro j Y;rw[ZA]at Y;have G:(bs.map fun b=>((b.size:Nat):Int)).getD j 0=((bs[j].size:Nat):Int):=by rw[List.getD_eq_getElem?_getD,ZG,ZC Y];rfl
 have J:=Bd.sizes_mem (List.getElem_mem Y);have Z:=Bd.sizes_take bs (j+1);rw[G,<-List.map_take,Bd.sizes_sum]
 constructor
 .unfold InLong;exact PY h J
 .unfold InLong;exact PY h Z
end L2
namespace K4
open PySem L2
theorem Qh:Yr ["body"] ["body"] (Yh Dn):=Y7
theorem Rf:bootBuiltins "sum"=some (.builtin "sum"):=by decide +kernel
section
def U9(n:Nat):Sp:=fun vs H Q _=>∃(v:V)(b:Bd),vs=[v]/\Has H v b.dat/\b.ok/\b.dep<n/\b.dep<=18/\∀H',Same H H'->Q (.int (b.size:Nat)) H'
theorem OP(B:Blt mg)(ms:mg "sum"=none)(F:Fun K "_law_size" "_law_size" Dn f fd)(G:Yo P w K mg base CX0 m f fd ["body"] (U9 n))(bG:Binds K fd ["body"] [])(mG:mg "_law_size"=some (.ref f))(GL:Yo P w K mg base CX0 m g gd ["body"] Vy)(bL:Binds K gd ["body"] [])(kL:W.keepIn K (.ref g)=true)(mL:mg "_law_parts"=some (.ref g)):
  Yo P w K mg base CX0 (m+1) f fd ["body"] (U9 (n+1)):=by
 refine F.oq Qh fun Z8 A D s H Y Q E t h=>?_;obtain⟨v,b,rfl,hv,O,dn,N,q⟩:=h;refine⟨_,YZ (Yf (Y2 Vo YX (Y0 (Re rfl) rfl ms Rf (pa1 (V6 ["part"] [] (V5 (Va GL t rfl mL kL bL .nil VH (pa1 (pv 0)))) (Vl (i:=0) (by decide)) (fun cl C fp s H=>Yk 0 Gc rfl (Or.inl rfl) (Or.inr rfl))
   (fun cl C fp s H=>Va G t rfl mG F.kp bG .nil VH (pa1 (pv 0)))))))),?_⟩
 refine⟨v,b,rfl,hv,O,fun r H1 s1 fr h1=>?_⟩;obtain⟨_,J,er,T,p⟩:=Jd h1;cases er;have I:=p.length;rw[Z7,ZA]at I;have U:=Bd.few O;refine⟨⟨_,Z1 T⟩,?_⟩;refine VR J.length (Ye (by exact D4 I U)) (fun j Y Z=>Same H1 Z/\Y.length=j/\Y=((b.parts.take j).map fun c=>((c.size:Nat):Int)).map V.int) ⟨Z6 _,rfl,rfl⟩ (fun j Y Z z=>?_) ?_ ?_ ?_ ?_
 .exact z.2.1
 .intro j Y Z hj z
  exact⟨J,J[j],Z1 (z.1 _ _ T),by simp[hj]⟩
 .intro Y Z z
  exact⟨J,Z1 (z.1 _ _ T),ZF _⟩
 .intro j Y Z x H3 R hj z yl hR
  obtain⟨rfl,y⟩:=yl;obtain⟨d,M,S⟩:=p.get (y J (Z1 (z.1 _ _ T)));rw[Z7,ZG]at M
  cases hp:b.parts[j]? with
  |none=>rw[hp]at M;cases M
  |some c=>
   rw[hp]at M;cases M;have k:=ZH hp;have L:=Bd.dep_mem k;refine⟨x,c,rfl,S.mono z.1,Bd.ok_parts O c k,by exact Ti L dn,by exact Iu L N,fun H4 a=>hR _ _ ⟨z.1.trans a,by rw[ZJ,z.2.1];rfl,?_⟩⟩;rw[z.2.2,List.take_add_one,hp,Option.toList_some,ZI,ZI]
   rfl
 .intro Y Z l z hl3
  obtain⟨o,_,rfl⟩:=z;rw[I,List.take_length]
  have X:Bd.sizes b.parts<2 ^ 62:=by
   have u:=Bd.size_le 18 b N O;rw[Bd.size_eq]at u;have:(9:Nat) ^ 18<2 ^ 62:=by decide
   exact Po u
  refine⟨l,_,rfl,Z1 YY,EZ X,?_⟩
  have e:(1:Int)+(b.parts.map fun c=>((c.size:Nat):Int)).sum=((b.size:Nat):Int):=by
   rw[Bd.sizes_sum,Bd.size_eq];push_cast;rfl
  show Q (.int (1+(b.parts.map fun c=>((c.size:Nat):Int)).sum)) _;rw[e];exact q _ ((s1.trans o).trans (Yb hl3 _))
end
end K4
namespace L2
open PySem
section
def ST(tl:TE):TI:=fun U H R=>tl U H fun v H1=>∃d o kvs,v=.ref d/\H1 d=some (.frz o (.dK kvs))/\R (Itd d o kvs) H1
theorem UL(T:PE X l tl):PI X tg l (ST tl):=by
 intro Y s U H R I h;refine thn (T Y s U H _ I h) fun v L ⟨y,F,Z,N,d,o,J,e,B,q⟩=>?_;subst e;cases N;obtain⟨E,G,M,O⟩:=Z.dict_at B;refine wpAny_pyIter_dict O G ?_;rw[<-Bu M];refine⟨_,[L.heap.objs.size],_,_,_,rfl,Z.kept (t':=L.toks) (fun b o e=>ZD _ e),EX _ d o J,⟨_,ZW _ rfl,rfl,rfl⟩,fun b D=>?_,q⟩;cases ZO.mp D;exact Z.fpOk (ZF _) (Z.hok.fresh (ZF _))
def zh(t:TS):TS:=fun D U H=>t {D with nx:=fun U H1=>∃d kvs,H1 d=some (.dK kvs)/\∀o,D.nx U (upd H1 d (.frz o (.dK kvs)))} U H
theorem We(h:PS X st t):PS X st (zh t):=by
 intro Y s U H D I q;refine thn (h Y s U H _ I q) fun f L z=>?_
 cases f with
 |next=>
  obtain⟨O,R,G,d,Z,J,M⟩:=z;obtain⟨o,N⟩:=(show Vf X.prog X.w R L.heap d (.dK Z)from G.hok d _ J).dk_ex;exact⟨O,_,G.freeze J N,M o⟩
 |brk=>exact z
 |cont=>exact z
 |ret u=>exact z
end
def SF(H:Hp)(a:Addr)(ks:List (Str×Shp)):Prop:=∃o kvs,H a=some (.frz o (.dK kvs))/\kvs.map (·.1)=ks.map (fun k=>(Sum.inr k.1:Key))/\∀y s,Vd ks y=some s->∃v,Y8 kvs (Sum.inr y)=some v/\Has H v s.dat
theorem SF.mono(h:SF H a ks)(e:Same H H'):SF H' a ks:=by
 obtain⟨o,Y,L,G,J⟩:=h;exact⟨o,Y,e _ _ L,G,fun y s Z=>let⟨v,N,M⟩:=J y s Z;⟨v,N,M.mono e⟩⟩
theorem Dg(Y:(ks.map (·.1)).Nodup)(h:(y,s)∈ks):Vd ks y=some s:=by
 induction ks with
 |nil=>simp at h
 |cons k ks ih=>
  rw[ZT,List.nodup_cons]at Y;unfold Vd;rw[List.find?_cons];rcases Zb.mp h with e|e
  .subst e;simp
  .have ne:¬k.1=y:=fun q=>Y.1 (by rw[q];exact ZU.mpr ⟨_,e,rfl⟩)
   rw[Zw ne];exact ih Y.2 e
theorem Tv{g:TG}{M:TS}{D:Ends}(Y:Nat->St->Hp->Prop)(I:Y 0 U H)(B:∀i U H,i<=kvs.length->Y i U H->H d=some (.frz o (.dK kvs)))(T:∀i J U H,kvs[i]?=some J->Y i U H->g (kV J.1) U H fun σ2 L=>M {D with nx:=Y (i+1),ct:=Y (i+1),bk:=D.nx} σ2 L)(A:∀U H,Y kvs.length U H->D.nx U H):
  ∃W:Nat->Nat->St->Hp->Prop,(∃m,W 0 m U H)/\∀i m U H,W i m U H->
   ((Itd d o kvs).stop i H/\D.nx U H)\/((Itd d o kvs).go i H/\∃N:St->Hp->Prop,(∀G H',N G H'->∃O,O<m/\W (i+1) O G H')/\∀x H',(Itd d o kvs).yld i H x H'->g x U H' fun σ2 L=>M {D with nx:=N,ct:=N,bk:=D.nx} σ2 L):=by
 refine⟨fun i m U H=>m=kvs.length-i/\i<=kvs.length/\Y i U H,⟨kvs.length,by simp,Za _,I⟩,fun i m U H z=>?_⟩;obtain⟨rfl,E,p⟩:=z;have q:=B i U H E p;rcases Nat.lt_or_ge i kvs.length with Z|F
 .refine .inr ⟨⟨q,Z⟩,Y (i+1),fun G H' R=>⟨kvs.length-(i+1),by exact RB Z,rfl,Z,R⟩,fun x H' y=>?_⟩
  obtain⟨e,J,C,S⟩:=y;subst e S;exact T i J U _ C p
 .have e:kvs.length=i:=by omega
  exact .inl ⟨⟨q,e⟩,by subst e;exact A U H p⟩
theorem EF{g:TG}{G:TS}{D:Ends}(Y:Nat->St->Hp->Prop)(A:Y 0 U H)(E:∀i U H,i<=kvs.length->Y i U H->H d=some (.frz o (.dK kvs)))(T:∀(B:St->Hp->Prop)(R:VK) i Z U H,kvs[i]?=some Z->Y i U H->g (kV Z.1) U H fun σ2 J=>G {nx:=Y (i+1),rt:=R,bk:=B,ct:=Y (i+1)} σ2 J)(F:∀U H,Y kvs.length U H->D.nx U H):
  ∃W:Nat->Nat->St->Hp->Prop,(∃m,W 0 m U H)/\∀i m U H,W i m U H->
   ((Itd d o kvs).stop i H/\D.nx U H)\/((Itd d o kvs).go i H/\∃N:St->Hp->Prop,(∀M H',N M H'->∃L,L<m/\W (i+1) L M H')/\∀x H',(Itd d o kvs).yld i H x H'->g x U H' fun σ2 J=>G {D with nx:=N,ct:=N,bk:=D.nx} σ2 J):=
 Tv Y A E (fun i Z U H O p=>T _ _ i Z U H O p) F
theorem Wl{ks:List (Str×Shp)}{kvs:List (Key×V)}(e:kvs.map (·.1)=ks.map (fun k=>(Sum.inr k.1:Key))){i:Nat}(h:kvs[i]?=some kv):∃y s,ks[i]?=some (y,s)/\kv.1=Sum.inr y:=by
 have q:=congrArg (fun l=>l[i]?) e;simp only[ZG,h,Option.map_some]at q
 cases hk:ks[i]? with
 |none=>rw[hk]at q;cases q
 |some k=>
  rw[hk]at q;obtain⟨y,s⟩:=k;exact⟨y,s,rfl,ZP q⟩
theorem WH{ks:List (Str×Shp)}{kvs:List (Key×V)}(e:kvs.map (·.1)=ks.map (fun k=>(Sum.inr k.1:Key))):kvs.length=ks.length:=by
 have:=congrArg List.length e
 rwa [ZA,ZA]at this
abbrev Hds:=Str->Option (List (Str×Str)×Str)
inductive Kd(ks:List (Str×Shp))(hd:Hds):List (Key×V)->Str->Bd->Prop
 |tag {g:List (Key×V)}{y t:Str}{ts:List Str}:Vd ks y=some (.tags ts)->t∈ts->Kd ks hd g y (.tag t)
 |name {g:List (Key×V)}{y x:Str}:Y8 g (Sum.inr x)=some (.str y)->Kd ks hd g y (.name x)
 |pair {g:List (Key×V)}{y a b:Str}{A B:Bd}:Vd ks y=some (.pair a b)->Kd ks hd g a A->Kd ks hd g b B->Kd ks hd g y (.pair A B)
 |one {g:List (Key×V)}{y z b:Str}{e:Bd}:Vd ks z=some (.pair y b)->Kd ks hd g z e->Kd ks hd g y (.one e)
 |other {g:List (Key×V)}{y z a:Str}{e:Bd}:Vd ks z=some (.pair a y)->Kd ks hd g z e->Kd ks hd g y (.other e)
 |choose {g:List (Key×V)}{y z:Str}{ts:List Str}{e:Bd}{bs:List Bd}:Vd ks z=some (.tags ts)->Kd ks hd g z e->bs.length=ts.length->(∀b∈bs,Kd ks hd g y b)->Kd ks hd g y (.choose e ts bs)
 |ask {g:List (Key×V)}{y f:Str}{ps:List (Str×Str)}{as:List Bd}:hd f=some (ps,y)->as.length=ps.length->(∀(i:Nat)(a:Bd)(p:Str×Str),as[i]?=some a->ps[i]?=some p->Kd ks hd g p.2 a)->Kd ks hd g y (.ask f as)
 |letb {g:List (Key×V)}{y x z:Str}{e b:Bd}:Y8 g (Sum.inr x)=none->z∈ks.map (·.1)->Kd ks hd (putK g (Sum.inr x) (.str z)) z e->Kd ks hd (putK g (Sum.inr x) (.str z)) y b->Kd ks hd g y (.letb x z e b)
theorem LV{P:Bd->Prop}(h:∀x∈bs,P x)(Z:P b):∀x∈bs++[b],P x:=fun x Y=>by
 rcases ZV.mp Y with q|q
 .exact h x q
 .cases ZO.mp q
  exact Z
theorem LC{α:Type}{P:Nat->α->Prop}{bs:List α}{b:α}(h:∀i x,bs[i]?=some x->P i x)(Y:P bs.length b):∀i x,(bs++[b])[i]?=some x->P i x:=fun i x e=>by
 rcases Nat.lt_trichotomy i bs.length with l|l|l
 .rw [List.getElem?_append_left l]at e;exact h i x e
 .subst l
  rw[List.getElem?_append_right (ZF _),Nat.sub_self]at e;cases ZP e;exact Y
 .rw [List.getElem?_eq_none_iff.mpr (by rw[ZJ];exact l)]at e
  cases e
def GB(p w:Addr)(H H':Hp):Prop:=∀b o,b≠p->b≠w->H b=some o->H' b=some o
theorem GB.refl(p w:Addr)(H:Hp):GB p w H H:=fun _ _ _ _ h=>h
theorem GB.trans(a:GB p w H H1)(b:GB p w H1 H2):GB p w H H2:=fun c o Z Y h=>b c o Z Y (a c o Z Y h)
theorem SameB.gb(a:SameB p H H'):GB p w H H':=fun b o n _ h=>a b o n h
theorem Same.gb(a:Same H H'):GB p w H H':=fun b o _ _ h=>a b o h
def AF(H:Hp)(a:Addr)(ns:List Str)(m:Nat)(kvs:List (Key×V)):Prop:=∃o,H a=some (.frz o (.dK kvs))/\kvs.length<=m/\∀kv∈kvs,∃(x k:Str),kv=(Sum.inr x,V.str k)/\k∈ns
def hdD(ps:List (Str×Str))(k:Str):Dat:=.tup [.tup (ps.map fun p=>.tup [.str p.1,.str p.2]),.str k]
def HF(H:Hp)(a:Addr)(ns:List Str)(hds:Hds):Prop:=∃o kvs,H a=some (.frz o (.dK kvs))/\kvs.length<=8/\∀kv∈kvs,∃(f:Str)(ps:List (Str×Str))(k:Str),kv.1=Sum.inr f/\Has H kv.2 (hdD ps k)/\ps.length<=3/\(∀p∈ps,p.2∈ns)/\k∈ns/\hds f=some (ps,k)
def wrD(sA hA lA:Addr)(n:Int):HO:=.dK [(Sum.inr "shapes",.ref sA),(Sum.inr "heads",.ref hA),(Sum.inr "lets",.ref lA),(Sum.inr "left",.int n)]
def Wr(H:Hp)(w:Addr)(ks:List (Str×Shp))(hds:Hds)(lA:Addr):Prop:=∃(sA hA:Addr)(ls:List Str)(n:Int),H w=some (wrD sA hA lA n)/\SF H sA ks/\HF H hA (ks.map (·.1)) hds/\H lA=some (.lst (ls.map V.str))/\ls.length<=4
theorem Jw(ps:List (Str×Str))(k:Str):(hdD ps k).st=true:=by
 have:∀ps:List (Str×Str),Dat.sts (ps.map fun p=>Dat.tup [.str p.1,.str p.2])=true:=by
  intro ps
  induction ps with
  |nil=>unfold List.map Dat.sts;rfl
  |cons p ps ih=>rw[ZT];unfold Dat.sts;rw[ih];simp[Dat.st,Dat.sts]
 simp[hdD,Dat.st,Dat.sts,this]
theorem Vx(s:VE H p)(h:H a=some (.frz o u)):a≠p:=fun e=>by
 obtain⟨_,_,_,_,Y⟩:=s;rw[e,Y]at h;cases h
theorem Nm(s:VE H p)(h:H a=some (.dK kvs)):a≠p:=fun e=>by
 obtain⟨_,_,_,_,Y⟩:=s;rw[e,Y]at h;cases h
theorem JA{ls:List Str}(s:VE H p)(h:H a=some (.lst (ls.map V.str))):a≠p:=fun e=>by
 obtain⟨_,_,_,_,J⟩:=s;rw[e,J]at h;have G:=ZP h;injection G with Y
 cases ls with
 |nil=>cases Y
 |cons l ls=>rw[ZT]at Y;injection Y with Z _;cases Z
theorem Wr.ne(g:Wr H w ks hds lA)(s:VE H p):w≠p:=by
 obtain⟨_,_,_,_,h,_⟩:=g;exact Nm s h
theorem GB.tk(a:GB p w H H')(s:VE H p)(g:Wr H w ks hds lA):TK H H':=fun b Z h=>a b _ (VN s h) (fun e=>by
 obtain⟨_,_,_,_,Y,_⟩:=g;rw[e,Y]at h;cases h) h
theorem Wr.ne_frz(g:Wr H w ks hds lA)(h:H a=some (.frz o u)):a≠w:=fun e=>by
 obtain⟨_,_,_,_,Y,_⟩:=g;rw[e,Y]at h;cases h
theorem Wr.ne_lst(g:Wr H w ks hds lA)(h:H a=some (.lst xs)):a≠w:=fun e=>by
 obtain⟨_,_,_,_,Y,_⟩:=g;rw[e,Y]at h;cases h
theorem SF.gb(h:SF H a ls)(b:GB p w H H')(s:VE H p)(g:Wr H w ks hds lA):SF H' a ls:=by
 obtain⟨o,Y,Z,M,L⟩:=h;exact⟨o,Y,b _ _ (Vx s Z) (g.ne_frz Z) Z,M,fun y J G=>let⟨v,O,N⟩:=L y J G;⟨v,O,VF (b.tk s g) _ (Shp.st _) N⟩⟩
theorem HF.gb(h:HF H a ns hds)(b:GB p w H H')(s:VE H p)(g:Wr H w ks hds lA):HF H' a ns hds:=by
 obtain⟨o,Y,Z,N,M⟩:=h;exact⟨o,Y,b _ _ (Vx s Z) (g.ne_frz Z) Z,N,fun G L=>let⟨f,J,k,T,R,O⟩:=M G L;⟨f,J,k,T,VF (b.tk s g) _ (Jw _ _) R,O⟩⟩
theorem AF.gb(h:AF H a ns m kv)(b:GB p w H H')(s:VE H p)(g:Wr H w ks hds lA):AF H' a ns m kv:=by
 obtain⟨o,Y,Z⟩:=h;exact⟨o,b _ _ (Vx s Y) (g.ne_frz Y) Y,Z⟩
theorem AF.mono(h:AF H a ns m kv)(e:Same H H')(l:m<=m'):AF H' a ns m' kv:=by
 obtain⟨o,J,Z,Y⟩:=h;exact⟨o,e _ _ J,ZZ Z l,Y⟩
theorem HF.mono(h:HF H a ns hds)(e:Same H H'):HF H' a ns hds:=by
 obtain⟨o,Y,N,M,L⟩:=h;exact⟨o,Y,e _ _ N,M,fun J G=>let⟨f,Z,k,T,R,O⟩:=L J G;⟨f,Z,k,T,R.mono e,O⟩⟩
theorem Wr.mono(g:Wr H w ks hds lA)(e:Same H H'):Wr H' w ks hds lA:=by
 obtain⟨Y,J,Z,n,O,N,M,L,G⟩:=g;exact⟨Y,J,Z,n,e _ _ O,N.mono e,M.mono e,e _ _ L,G⟩
theorem Wr.sb(g:Wr H w ks hds lA)(b:SameB p H H')(s:VE H p):Wr H' w ks hds lA:=by
 have Z:GB p w H H':=b.gb;obtain⟨J,L,G,n,R,O,N,Y,M⟩:=id g;exact⟨J,L,G,n,b _ _ (g.ne s) R,O.gb Z s g,N.gb Z s g,b _ _ (JA s Y) Y,M⟩
def LN(H:Hp)(l l':Addr):Prop:=l'=l\/H l'=none
theorem GB.free(a:GB p w H H')(Z:r≠p)(Y:r≠w)(h:H' r=none):H r=none:=by
 cases e:H r with
 |none=>rfl
 |some o=>rw[a r o Z Y e]at h;cases h
theorem Wr.la(g:Wr H w ks hds lA):∃ls:List Str,H lA=some (.lst (ls.map V.str)):=let⟨_,_,ls,_,_,_,_,h,_⟩:=g;⟨ls,h⟩
theorem LN.trans(a:LN H l l1)(b:LN H1 l1 l2)(g:GB p w H H1)(s:VE H2 p)(r:Wr H2 w ks hds l2):LN H l l2:=by
 rcases b with b|b
 .rw [b];exact a
 .obtain ⟨ls,h⟩:=r.la
  exact .inr (g.free (JA s h) (r.ne_lst h) b)
theorem Gr:∀{bs:List Bd}{ts:List Str},Dat.sts (Bd.dats bs)=true->Dat.sts (Bd.brs bs ts)=true
 |[],_,_=>by unfold Bd.brs Dat.sts;rfl
 |b::bs,[],_=>by unfold Bd.brs Dat.sts;rfl
 |b::bs,t::ts,h=>by
  unfold Bd.dats Dat.sts at h;rw[ZX]at h;unfold Bd.brs Dat.sts;rw[Gr h.2];simp[Dat.st,Dat.sts,h.1]
mutual
theorem Bd.st:∀b:Bd,b.dat.st=true
 |.tag t=>by simp[Bd.dat,Dat.st,Dat.sts]
 |.name t=>by simp[Bd.dat,Dat.st,Dat.sts]
 |.pair a b=>by simp[Bd.dat,Dat.st,Dat.sts,Bd.st a,Bd.st b]
 |.one a=>by simp[Bd.dat,Dat.st,Dat.sts,Bd.st a]
 |.other a=>by simp[Bd.dat,Dat.st,Dat.sts,Bd.st a]
 |.choose e J Y=>by simp[Bd.dat,Dat.st,Dat.sts,Bd.st e,Gr (Bd.sts Y)]
 |.ask f Z=>by simp[Bd.dat,Dat.st,Dat.sts,Bd.sts Z]
 |.letb x k e b=>by simp[Bd.dat,Dat.st,Dat.sts,Bd.st e,Bd.st b]
theorem Bd.sts:∀bs:List Bd,Dat.sts (Bd.dats bs)=true
 |[]=>by unfold Bd.dats Dat.sts;rfl
 |b::bs=>by unfold Bd.dats Dat.sts;rw[Bd.st b,Bd.sts bs];rfl
end
theorem X6{kvs:List (Key×V)}(h:Y8 kvs k=some v):∃Y∈kvs,Y.1=k/\Y.2=v:=by
 unfold Y8 at h
 cases e:kvs.find? (fun Y=>decide (Y.1=k))with
 |none=>rw[e]at h;cases h
 |some Y=>
  rw[e]at h;exact⟨Y,List.mem_of_find?_eq_some e,by simpa using List.find?_some e,ZP h⟩
theorem NF{kvs:List (Key×V)}(h:kv∈kvs):∃v,Y8 kvs kv.1=some v:=by
 unfold Y8
 cases e:kvs.find? (fun q=>decide (q.1=kv.1))with
 |none=>exact Zp (List.find?_eq_none.mp e kv h) (by simp)
 |some q=>exact⟨q.2,rfl⟩
theorem XW:∀ns:List Str,HasL H (ns.map V.str) (ns.map Dat.str)
 |[]=>Z4
 |n::ns=>Z2 Y5 (XW ns)
theorem MW{ns:List Str}(h:H a=some (.lst (ns.map V.str))):Has H (.ref a) (.lst (ns.map Dat.str)):=JD h (XW ns)
theorem J3(ns:List Str):(Dat.lst (ns.map Dat.str)).dep<=1:=by
 have:∀ns:List Str,Dat.deps (ns.map Dat.str)=0:=by
  intro ns
  induction ns with
  |nil=>unfold List.map Dat.deps;rfl
  |cons n ns ih=>rw[ZT];unfold Dat.deps;rw[ih];unfold Dat.dep;rfl
 unfold Dat.dep;rw[this];decide
theorem Te(ds:List Dat):(Dat.lst ds).pq (.lst [])=ds.isEmpty:=by
 unfold Dat.pq
 cases ds with
 |nil=>unfold Dat.pqs;rfl
 |cons d ds=>unfold Dat.pqs;rfl
def GQ(p w:Addr)(ks:List (Str×Shp))(hds:Hds)(kv:List (Key×V))(y:Str)(lA:Addr)(H:Hp)(Q:VK)(m:Nat):Prop:=∀(u:V)(H':Hp)(b:Bd)(l':Addr),GB p w H H'->VE H' p->Wr H' w ks hds l'->LN H lA l'->Has H' u b.dat->b.ok->b.dep<=m->Kd ks hds kv y b->Q u H'
theorem UC(h:H r=some (.tup [.str a,.str b])):Has H (.ref r) (.tup [.str a,.str b]):=Yy h (Z2 Y5 (Z2 Y5 Z4))
theorem Jq{r:Int}(Z:0<=r)(J:r<(xs.length:Nat)):∃(m:Nat)(v:V),xs[m]?=some v/\atI xs r=some v:=by
 obtain⟨m,rfl⟩:∃m:Nat,r=m:=⟨r.toNat,by exact U1 Z⟩;have Y:m<xs.length:=by omega
 exact⟨m,xs[m],ZC Y,Y3 (ZC Y)⟩
theorem U7{ys:List Str}{m:Nat}(h:(ys.map V.str)[m]?=some v):∃y,y∈ys/\v=.str y:=by
 rw[ZG]at h
 cases e:ys[m]? with
 |none=>rw[e]at h;cases h
 |some y=>rw[e]at h;exact⟨y,ZH e,(ZP h).symm⟩
theorem VE.sm(s:VE H p)(e:Same H H'):VE H' p:=let⟨a,b,c,d,h⟩:=s;⟨a,b,c,d,e _ _ h⟩
theorem wr1:Y8 [((Sum.inr "shapes":Key),a),(Sum.inr "heads",b),(Sum.inr "lets",c),(Sum.inr "left",d)] (Sum.inr "shapes")=some a:=rfl
theorem wr2:Y8 [((Sum.inr "shapes":Key),a),(Sum.inr "heads",b),(Sum.inr "lets",c),(Sum.inr "left",d)] (Sum.inr "heads")=some b:=rfl
theorem wr3:Y8 [((Sum.inr "shapes":Key),a),(Sum.inr "heads",b),(Sum.inr "lets",c),(Sum.inr "left",d)] (Sum.inr "lets")=some c:=rfl
theorem wr4:Y8 [((Sum.inr "shapes":Key),a),(Sum.inr "heads",b),(Sum.inr "lets",c),(Sum.inr "left",d)] (Sum.inr "left")=some d:=rfl
theorem Wr.shapes(h:H w=some (wrD sA hA lA n)):VP H w (.str "shapes") (some (.ref sA)):=.inl ⟨_,Sum.inr "shapes",.inl h,rfl,wr1.symm⟩
theorem Wr.heads(h:H w=some (wrD sA hA lA n)):VP H w (.str "heads") (some (.ref hA)):=.inl ⟨_,Sum.inr "heads",.inl h,rfl,wr2.symm⟩
theorem Wr.lets(h:H w=some (wrD sA hA lA n)):VP H w (.str "lets") (some (.ref lA)):=.inl ⟨_,Sum.inr "lets",.inl h,rfl,wr3.symm⟩
theorem Wr.left(h:H w=some (wrD sA hA lA n)):VP H w (.str "left") (some (.int n)):=.inl ⟨_,Sum.inr "left",.inl h,rfl,wr4.symm⟩
end L2
namespace K4
open PySem L2
section
variable{P:Program}{w:World}{K:W.Frag}{mg:Str->Option Value}{base:Heap}
def Df(P:Program)(w:World)(K:W.Frag)(mg:Str->Option Value)(base:Heap)(n:Nat)(x:Str)(ps:List Str)(sp:Sp):Prop:=
 ∃(g:Addr)(gd:FuncData),mg x=some (.ref g)/\W.keepIn K (.ref g)=true/\Binds K gd ps []/\Yo P w K mg base CX0 n g gd ps sp
theorem Yt{X:Cx}(D:Df X.prog X.w X.K X.mg X.base k x ps sp)(J:V7 k X.A)(M:PA X (e::es) t)(L:Gl X x:=by exact rfl)(Z:(x==("__debug__":Str))=false:=by decide)(he:starEach (e::es) X.env=(false,eval e X.env)::starEach es X.env:=by rfl)(Y:(backTo pos (starEach es X.env)).any (·.1)=false:=by rfl):
  PE X (.Call (.Name x p) (e::es) [] pos) (Fh sp [] E0 t):=let⟨_,_,m,k,b,G⟩:=D;Va G J L m k b .nil VH M Z he Y
theorem Df.up(d:Df P w K mg base n x ps sp)(h:n<=m):Df P w K mg base m x ps sp:=
 let⟨g,L,G,J,Z,Y⟩:=d;⟨g,L,G,J,Z,Y.mono h⟩
theorem GU:Yr ["stream","world","around","kind","names","shape","one"] ["stream","world","around","kind"] (Yh TV):=Y7
theorem SG:List.Nodup [("name":Str),"around","kind"]:=by decide +kernel
def Jc(n:Nat):Sp:=fun vs H Q _=>∃(p w a lA:Addr)(y:Str)(ks:List (Str×Shp))(hds:Hds)(kv:List (Key×V))(c d:Str->Nat),vs=[.ref p,.ref w,.ref a,.str y]/\VE H p/\Wr H w ks hds lA/\AF H a (ks.map (·.1)) 100 kv/\KK 30 c d ks/\y∈ks.map (·.1)/\d y<n/\GQ p w ks hds kv y lA H Q (d y)
theorem KQ(B:Blt mg)(F:Fun K "_law_plain" "_law_plain" TV f fd)(DT:Df P w K mg base (L+3+n) "_law_take" ["stream","many"] JE)(G:Yo P w K mg base CX0 (L+3+n) f fd ["stream","world","around","kind"] (Jc n))(bG:Binds K fd ["stream","world","around","kind"] [])(mG:mg "_law_plain"=some (.ref f)):
  Yo P w K mg base CX0 (L+3+n+1) f fd ["stream","world","around","kind"] (Jc (n+1)):=by
 refine F.oq GU fun F3 A N4 s H U Q E hr h=>?_;obtain⟨p,j,a,lA,y,ks,J2,u,c,d,rfl,hs,hw,ha,kk,hy,hd,q⟩:=h;have hu:=V1 hr;have R8:=hr.mono (show 2<=L+3+n by exact AZ);refine⟨_,YW (Ga (i0:=4) ["name"] [2,3] GU.nd rfl (Or.inl rfl) (UL (pv 2)) (Vl (i:=0) (by decide)) (fun cl C fp s H=>Yk 0 SG rfl (Or.inl rfl) (Or.inr rfl))
   (fun cl C fp s H=>Yi VB (Yz hu (pv 1) (pv 0) (fun _ _=>rfl)) (pv 2) (Yq _)) (fun cl C fp s H=>pv 0))
  (YW (Yx (PW.pt (JU (Yi (MV R8) (pv 4) (VD VT) (Yq _)) (JH (Yi XE (Yt DT hr (pa2 (pv 0) YX)) YX (Yq _)))))
   (YZ (Yf (Yw (pa2 Yn (Yd Yv (pv 4) (Yt DT hr (pa2 (pv 0) (Y0 Yu rfl B.len Zs (pa1 (pv 4))))) (fun _ _=>rfl)))))) Yl)
  (YW (Yp 5 GU.nd (Yz hu (Yz hu (pv 1) Yn (fun _ _=>rfl)) (pv 3) (fun _ _=>rfl)))
  (YW (Yx (Yi VB (Yd Yg (pv 5) YX) Yn (Yq _))
   (YZ (Yf (Yw (pa2 Yn (Yd Yg (Yd Yg (pv 5) YX) (Yt DT hr (pa2 (pv 0) (Y0 Yu rfl B.len Zs (pa1 (Yd Yg (pv 5) YX))))) (fun _ _=>rfl)))))) Yl)
  (YW (Yp 6 GU.nd (Va G hr rfl mG F.kp bG .nil VH (pa4 (pv 0) (pv 1) (pv 2) (Yd Yg (pv 5) YX))))
  (YZ (Yf (Yw (pa3 Yn (pv 6) (Va G hr rfl mG F.kp bG .nil VH (pa4 (pv 0) (pv 1) (pv 2) (Yd Yg (pv 5) YX))))))))))),?_⟩
 dsimp only[JV,Cx.nox,Cx.wish];show let a:=_;let b:=Yj _ a;let c:=_;let d:=Yj (Y9 _ c _) b;let e:=Yj _ d;let f:=_;let g:=Yj (Y9 _ f _) e;Yj _ g _ _ _
 intros
 obtain⟨o,I,N2,N1⟩:=id ha;refine⟨a,o,u,rfl,I,?_⟩;refine UN u.length (Ye (by exact WG N2)) (fun i U H'=>H'=H/\U.length<=i/\∃M:List Str,U=M.map V.str/\∀z∈M,Y8 u (Sum.inr z)=some (.str y)) ⟨rfl,ZF _,[],rfl,fun z O=>nomatch O⟩ (fun i U H' z=>z.2.1) ?_ ?_ ?_ ?_
 .rintro i U H' hi ⟨rfl,_⟩
  exact⟨I,hi⟩
 .rintro U H' ⟨rfl,_⟩
  exact⟨I,rfl⟩
 .rintro i U H' x H'' R hi ⟨rfl,z2,M,rfl,z4⟩ yl rT rF
  obtain⟨rfl,R3,T2,rfl⟩:=yl;have hm:=ZH T2;obtain⟨x,k,rfl,hk⟩:=N1 R3 hm;obtain⟨v,hv⟩:=NF hm;obtain⟨R1,m2,e2,e3⟩:=X6 hv;obtain⟨x2,k2,rfl,D3⟩:=N1 R1 m2;subst e3;refine⟨_,.inl ⟨u,Sum.inr x,.inr ⟨o,I⟩,rfl,hv.symm⟩,rfl,_,rfl,?_⟩;refine Vq (fun c1=>rT _ _ ⟨rfl,by simp at z2 |-;omega,M++[x],by rw[ZI];rfl,fun z O=>?_⟩) (fun c1=>rF _ ⟨rfl,by exact Ek z2,M,rfl,z4⟩);rcases ZV.mp O with O|O
  .exact z4 z O
  .cases ZO.mp O
   have c2:=Zr c1;rw[hv];exact congrArg some c2
 rintro U H' r1 ⟨rfl,z2,M,rfl,z4⟩ T0;refine up_in T0 _ fun H1 s1 g1=>?_;dsimp only[JG];refine VQ (fun U' X=>GB p j H' X/\VE X p/\Wr X j ks J2 lA/\AF X a (ks.map (·.1)) 100 u/\U'=[some (.ref p),some (.ref j),some (.ref a),some (.str y),some (.ref r1),none,none]) ?_ ?_
 .rintro U' X ⟨gb,st,wr,af,rfl⟩
  obtain⟨sA,hA,ls,nn,hW,hS,_⟩:=id wr;obtain⟨sh,D⟩:=Vw hy;have k1:=kk.at D;obtain⟨o2,L2,h1,h2,h3⟩:=hS;obtain⟨v,hv,N0⟩:=h3 y sh D;refine⟨_,Wr.shapes hW,v,.inl ⟨L2,Sum.inr y,.inr ⟨o2,h1⟩,rfl,hv.symm⟩,?_⟩
  cases sh with
  |tags ts=>
   obtain⟨t1,t2,t3,t4,t5⟩:=k1;obtain⟨ps,l,rfl,hp,hl⟩:=JO N0;have ll:(ts.map V.str).length=ts.length:=ZA _;refine⟨_,_,Z0 hp,rfl,rfl,_,rfl,VJ (by decide +kernel) ?_⟩;refine⟨_,_,Z0 hp,rfl,_,_,Z0 hp,rfl,l,_,rfl,.inr (Z0 hl),p,_,rfl,st,by exact AX ll t1,by exact AW ll t2,fun r H3 r0 G3 b3 s3=>?_⟩;obtain⟨m,v,Z9,Z8⟩:=Jq r0 G3;obtain⟨z,O,rfl⟩:=U7 Z9;have J:GB p j X H3:=b3.sb.gb;refine⟨_,_,Z0 (J.tk st wr _ _ hl),Z8,sl 2,fun t ht=>?_⟩;have s4:=Yb ht (.tup [.str "tag",.str z]);exact(fun kd=>q _ _ (.tag z) lA ((gb.trans J).trans s4.gb) (s3.sm s4) ((wr.sb b3.sb st).mono s4) (.inl rfl) (by unfold Bd.dat;exact UC YY) (by unfold Bd.ok;trivial) (by unfold Bd.dep;exact Za _) kd) (Kd.tag D O)
  |pair e g=>
   obtain⟨t1,t2,t3,t4,t5,t6⟩:=k1;obtain⟨ps,rfl,hp⟩:=V2 N0;refine⟨_,_,Z0 hp,rfl,rfl,_,rfl,Y1 (by decide +kernel) ?_⟩;refine⟨_,_,Z0 hp,rfl,p,j,a,lA,e,ks,J2,u,c,d,rfl,st,wr,af,kk,t1,by exact RT hd t5,fun u1 H3 b1 l1 S G2 wr1 N8 R7 N6 F2 R5=>?_⟩;refine⟨_,_,Z0 (S.tk st wr _ _ hp),rfl,p,j,a,l1,g,ks,J2,u,c,d,rfl,G2,wr1,af.gb S st wr,kk,t2,by exact RS hd t5,fun u2 H4 b2 l2 N3 Z wr2 N7 R6 N5 F1 R4=>?_⟩;refine⟨sl 3,fun t ht=>?_⟩;have T:=Yb ht (.tup [.str "pair",u1,u2]);refine q _ _ (.pair b1 b2) l2 (((gb.trans S).trans N3).trans T.gb) (Z.sm T) (wr2.mono T) (LN.trans (.inl rfl) (N8.trans N7 S Z wr2) gb Z wr2) ?_ (by unfold Bd.ok;exact⟨N6,N5⟩) (by unfold Bd.dep;omega) (Kd.pair D R5 R4);unfold Bd.dat;exact Yy YY (Z2 Y5 (Z2 ((VF (N3.tk G2 wr1) _ (Bd.st _) R7).mono T) (Z3 (R6.mono T))))
 .intro N key
  refine⟨sl 0,fun e1 D0=>?_⟩;have s2:=Yb D0 (.lst []);have g2:=s2 _ _ g1;have ge:upd H1 e1 (.lst []) e1=some (.lst []):=YY;generalize upd H1 e1 (.lst [])=X at s2 g2 ge |-;have Y:=s1.trans s2;refine⟨.lst (M.map Dat.str),.lst [],MW g2,JD ge Z4,J3 _,_,rfl,?_⟩;rw[Te]
  cases M with
  |nil=>exact Y1 (by simp) (Y1 (by simp) (key _ _ ⟨Y.gb,hs.sm Y,hw.mono Y,ha.mono Y (ZF _),rfl⟩))
  |cons n1 M=>
   have ll:((n1::M).map V.str).length=M.length+1:=by simp
   have lk:M.length+1<=100:=by rw[ll]at z2;exact AV z2 N2
   refine VJ (by simp) ?_;refine⟨p,3,rfl,hs.sm Y,by decide,by decide,fun r H3 r0 G3 b3 s3=>?_⟩;have Z:=hs.sm Y;have wr2:=hw.mono Y;have J:GB p j X H3:=b3.sb.gb;refine⟨_,rfl,?_⟩;have g3:=b3.sb _ _ (JA Z g2) g2;refine Vq (fun c1=>?_) (fun c1=>key _ _ ⟨Y.gb.trans J,s3,wr2.sb b3.sb Z,(ha.mono Y (ZF _)).gb J Z wr2,rfl⟩);refine⟨r1,_,rfl,.inl (Z1 g3),p,_,rfl,s3,by exact OB ll,by omega,fun r' H4 r4 r5 b4 s4=>?_⟩;obtain⟨m,v,Z9,Z8⟩:=Jq r4 r5;obtain⟨z,O,rfl⟩:=U7 Z9;have G1:=wr2.sb b3.sb Z;refine⟨_,_,Z1 (b4.sb _ _ (JA s3 g3) g3),Z8,sl 2,fun t ht=>?_⟩;have T:=Yb ht (.tup [.str "name",.str z]);exact q _ _ (.name z) lA (((Y.gb.trans J).trans b4.sb.gb).trans T.gb) (s4.sm T) ((G1.sb b4.sb s3).mono T) (.inl rfl) (by unfold Bd.dat;exact UC YY) (by unfold Bd.ok;trivial) (by unfold Bd.dep;exact Za _) (Kd.name (z4 z O))
end
end K4
namespace L2
open PySem
theorem GQ.le(q:GQ p w ks hds kv y lA H Q m)(h:m'<=m):GQ p w ks hds kv y lA H Q m':=fun u R b l O N M L G J Z Y=>q u R b l O N M L G J (ZZ Z h) Y
theorem GQ.go(q:GQ p w ks hds kv y lA H Q m)(g:GB p w H H1)(J:LN H lA l1):GQ p w ks hds kv y l1 H1 Q m:=fun u T b l R Z Y O N M L G=>q u T b l (g.trans R) Z Y (J.trans O g Z Y) N M L G
theorem T4:∀{bs:List Bd}{ts:List Str}{b:Bd}{t:Str},bs.length=ts.length->Bd.brs (bs++[b]) (ts++[t])=Bd.brs bs ts++[.tup [.str t,b.dat]]
 |[],[],b,t,_=>by simp[Bd.brs]
 |[],_::_,_,_,h=>by simp at h
 |_::_,[],_,_,h=>by simp at h
 |c::bs,s::ts,b,t,h=>by
  have ih:=T4 (bs:=bs) (ts:=ts) (b:=b) (t:=t) (by simpa using h);simp only[List.cons_append,Bd.brs,ih]
theorem Tl:∀{bs:List Bd}{b:Bd},Bd.oks bs->b.ok->Bd.oks (bs++[b])
 |[],b,_,h=>by simp[Bd.oks,h]
 |c::bs,b,h,hb=>by
  unfold Bd.oks at h;simp only[List.cons_append,Bd.oks];exact⟨h.1,Tl h.2 hb⟩
theorem Wn:∀{bs:List Bd}{b:Bd}{m:Nat},Bd.deps bs<=m->b.dep<=m->Bd.deps (bs++[b])<=m
 |[],b,m,_,h=>by simp[Bd.deps,h]
 |c::bs,b,m,h,hb=>by
  unfold Bd.deps at h;simp only[List.cons_append,Bd.deps];have:=Wn (bs:=bs) (b:=b) (m:=m) (by omega) hb;omega
theorem Rb:∀{bs:List Bd}{b:Bd},Bd.dats (bs++[b])=Bd.dats bs++[b.dat]
 |[],b=>by simp[Bd.dats]
 |c::bs,b=>by simp only[List.cons_append,Bd.dats,Rb (bs:=bs)]
theorem Wr.put(g:Wr H w ks hds lA)(D:lA≠bl)(B:w≠bl)(h:H bl=some (.lst xs)):Wr (upd H bl (.lst ys)) w ks hds lA:=by
 obtain⟨O,I,E,n,P,X,C,U,S⟩:=g;have N:TK H (upd H bl (.lst ys)):=fun b p e=>by rw[Ya (fun z=>by rw[z,h]at e;cases e)];exact e
 obtain⟨o,Z,M,m,t⟩:=X;obtain⟨T,Y,L,q,j⟩:=C;refine⟨O,I,E,n,by rw[Ya B];exact P,⟨o,Z,?_,m,fun y s e=>let⟨v,G,J⟩:=t y s e;⟨v,G,VF N _ (Shp.st _) J⟩⟩,⟨T,Y,?_,q,fun F A=>let⟨f,R,k,G,J,Q⟩:=j F A;⟨f,R,k,G,VF N _ (Jw _ _) J,Q⟩⟩,by rw[Ya D];exact U,S⟩
 .rw [Ya (fun z=>by rw[z,h]at M;cases M)];exact M
 .rw [Ya (fun z=>by rw[z,h]at L;cases L)];exact L
theorem AF.put(g:AF H a ns m kv)(h:H bl=some (.lst xs)):AF (upd H bl (.lst ys)) a ns m kv:=by
 obtain⟨o,Y,Z⟩:=g;exact⟨o,by rw[Ya (fun z=>by rw[z,h]at Y;cases Y)];exact Y,Z⟩
end L2
namespace K4
open PySem L2
section
variable{w:World}
def spG(n:Nat):Sp:=fun vs H Q _=>∃(p w a lA:Addr)(y:Str)(ks:List (Str×Shp))(hds:Hds)(kv:List (Key×V))(c d:Str->Nat)(m:Nat),vs=[.ref p,.ref w,.ref a,.str y,.int (n:Nat)]/\VE H p/\Wr H w ks hds lA/\AF H a (ks.map (·.1)) m kv/\m+n<=20/\KK 30 c d ks/\ks.length<=6/\y∈ks.map (·.1)/\GQ p w ks hds kv y lA H Q (n+2)
abbrev gps:List Str:=["stream","world","around","kind","deep"]
theorem Qg:Yr ["stream","world","around","kind","deep"] ["stream","world","around","kind","deep"] (Yh Dm):=Y7
theorem D9(F:Fun K "_law_some" "_law_some" Dm f fd)(l:Df P w K mg base L "_law_take" ["stream","many"] JE)(b:Df P w K mg base L "_law_plain" ["stream","world","around","kind"] (Jc 3))(e:Df P w K mg base L "_law_body" gps (spG n)):
  Yo P w K mg base CX0 (L+1) f fd gps (spG n):=by
 refine F.oq Qg fun k A G s H o Q E R h=>?_;obtain⟨p,J,a,D,y,S,Z,I,c,d,m,rfl,O,U,t,z,M,j,N,q⟩:=h;refine⟨_,YW (Yx (Yi XE (Yt l R (pa2 (pv 0) YX)) YX (Yq _))
   (YZ (Yf (Yt b R (pa4 (pv 0) (pv 1) (pv 2) (pv 3))))) Yl)
  (YZ (Yf (Yt e R (pa5 (pv 0) (pv 1) (pv 2) (pv 3) (pv 4))))),?_⟩
 refine⟨p,3,rfl,O,by decide,by decide,fun r v x i C B=>?_⟩;have Y:GB p J H v:=C.sb.gb;have T:=U.sb C.sb O;have X:=t.gb Y O U;have g:=M.small N;refine⟨_,rfl,?_⟩;refine Vq (fun u=>?_) (fun u=>?_)
 .exact ⟨p,J,a,D,y,S,Z,I,c,d,rfl,B,T,X.mono (Z6 _) (by omega),M,N,by exact oq0 g,(q.go Y (.inl rfl)).le (by omega)⟩
 .exact ⟨p,J,a,D,y,S,Z,I,c,d,m,rfl,B,T,X,z,M,j,N,q.go Y (.inl rfl)⟩
theorem UZ:Yr ["stream","world","around","kind","deep","flat","own","first","branches","tag"] ["stream","world","around","kind","deep"] (Yh GZ):=Y7
theorem zL:List.Nodup [("name":Str),"world"]:=by decide +kernel
theorem B0{top:Nat}(Y:KK top c d ks)(h:0<ks.length):∃y ts,ks[0]?=some (y,.tags ts):=by
 cases ks with
 |nil=>simp at h
 |cons k ks=>
  obtain⟨y,s⟩:=k;have Z:=Y 0 y s rfl
  cases s with
  |tags ts=>exact⟨y,ts,rfl⟩
  |pair a b=>exact Zp Z.1 (by simp)
theorem Ey(B:Blt mg)(F:Fun K "_law_choose" "_law_choose" GZ f fd)(DT:Df P w K mg base L "_law_take" ["stream","many"] JE)(DS:Df P w K mg base L "_law_some" gps (spG n))(DB:Df P w K mg base L "_law_body" gps (spG n)):
  Yo P w K mg base CX0 (L+1) f fd gps (spG (n+1)):=by
 refine F.oq UZ fun cdv A D0 s H X Q E hr h=>?_;obtain⟨p,T,a,lA,y,M,D,kv,c,d,m,rfl,hs,hw,ha,hm,kk,k6,hy,q⟩:=h;have hu:=V1 hr;refine⟨_,YW (Ga (i0:=5) ["name"] [1] UZ.nd rfl (Or.inl rfl) (UL (Yz hu (pv 1) Yn (fun _ _=>rfl))) (Vl (i:=0) (by decide)) (fun cl C fp s H=>Yk 0 zL rfl (Or.inl rfl) (Or.inr rfl))
   (fun cl C fp s H=>Yi VB (Yd (r:=Ta K) Yg (Yz hu (Yz hu (pv 1) Yn (fun _ _=>rfl)) (pv 0) (fun _ _=>rfl)) YX) Yn (Yq _)) (fun cl C fp s H=>pv 0))
  (YW (Yp 6 UZ.nd (Yd Yv (pv 5) (Yt DT hr (pa2 (pv 0) (Y0 Yu rfl B.len Zs (pa1 (pv 5))))) (fun _ _=>rfl)))
  (YW (Yp 7 UZ.nd (Yt DS hr (pa5 (pv 0) (pv 1) (pv 2) (pv 6) (Y2 Jv (pv 4) YX))))
  (YW (Yp 8 UZ.nd (VD VT))
  (YW (Vu Zt rfl (Ji (Yd Yg (Yz hu (Yz hu (pv 1) Yn (fun _ _=>rfl)) (pv 6) (fun _ _=>rfl)) YX)) (Yk 9 UZ.nd)
   (YZ (JB (UR Zx Zy Zz JK (pv 8) (pa1 (Yw (pa2 (pv 9) (Yt DB hr (pa5 (pv 0) (pv 1) (pv 2) (pv 3) (Y2 Jv (pv 4) YX))))))))))
  (YZ (Yf (Yw (pa3 Yn (pv 7) (Y4 Vm rfl B.tuple Ve (pa1 (pv 8))))))))))),?_⟩
 dsimp only[JV,Cx.nox,Cx.wish];show let a:=_;let b:=_;let c:=Yj (UE _ _ b) a;let d:=Yj _ c;let e:=Yj _ d;let f:=Yj _ e;Yj _ f _ _ _
 intros
 obtain⟨sA,hA,ls,nn,hW,hS,_⟩:=id hw;obtain⟨o,N1,h1,h2,h3⟩:=id hS;have kl:=WH h2;have en:(((n+1:Nat):Int)-1)=((n:Nat):Int):=by exact Ik
 refine⟨_,Wr.shapes hW,sA,o,N1,rfl,h1,?_⟩;refine UN N1.length (Ye (by omega)) (fun i X O=>O=H/\X.length<=i/\(0<i->0<X.length)/\∃ns:List Str,X=ns.map V.str/\∀z∈ns,∃Z,Vd M z=some (.tags Z)) ⟨rfl,ZF _,fun z=>Zp z (by decide),[],rfl,fun z hz=>nomatch hz⟩ (fun i X O z=>z.2.1) ?_ ?_ ?_ ?_
 .rintro i X O hi ⟨rfl,_⟩
  exact⟨h1,hi⟩
 .rintro X O ⟨rfl,_⟩
  exact⟨h1,rfl⟩
 .rintro i X O x H'' R hi ⟨rfl,z2,z3,ns,rfl,z4⟩ yl rT rF
  obtain⟨rfl,kv1,I9,rfl⟩:=yl;obtain⟨x,s,hx,ek⟩:=Wl h2 I9;rw[ek];have F7:x∈M.map (·.1):=ZU.mpr ⟨(x,s),ZH hx,rfl⟩;obtain⟨sh,u⟩:=Vw F7;obtain⟨v,hv,R1⟩:=h3 x sh u;refine⟨_,Wr.shapes hW,v,.inl ⟨N1,Sum.inr x,.inr ⟨o,h1⟩,rfl,hv.symm⟩,?_⟩
  cases sh with
  |tags Z=>
   obtain⟨ps,l,rfl,hp,hl⟩:=JO R1;refine⟨_,_,Z0 hp,rfl,rfl,_,rfl,VJ (by decide +kernel) (rT _ _ ⟨rfl,by simp at z2 |-;omega,fun _=>by simp,ns++[x],by rw[ZI];rfl,fun z hz=>?_⟩)⟩;rcases ZV.mp hz with hz|hz
   .exact z4 z hz
   .cases ZO.mp hz
    exact⟨Z,u⟩
  |pair e g=>
   obtain⟨ps,rfl,hp⟩:=V2 R1;refine⟨_,_,Z0 hp,rfl,rfl,_,rfl,Y1 (by decide +kernel) (rF _ ⟨rfl,by exact Ek z2,fun _=>?_,ns,rfl,z4⟩)⟩
   cases i with
   |zero=>
    obtain⟨y0,Z,h0⟩:=B0 kk (by exact yG kl hi);have F8:=ZP (h0.symm.trans hx);injection F8 with e1 e2
    have e0:Vd M y0=some (.tags Z):=by
     cases M with
     |nil=>simp at h0
     |cons k M=>
      have h0':k=(y0,Shp.tags Z):=ZP h0;subst h0';unfold Vd;rw[List.find?_cons];simp
    rw[<-e1,e0]at u;cases u
   |succ i=>exact z3 (Nat.succ_pos _)
 rintro X O r1 ⟨rfl,z2,z3,ns,rfl,z4⟩ I8;have ll:(ns.map V.str).length=ns.length:=ZA _;have l0:=z3 (by rw[kl];obtain⟨k,hk,_⟩:=ZU.mp hy;exact List.length_pos_of_mem hk);refine up_in I8 _ fun H1 s1 g1=>?_;have j:=hs.sm s1;have wr1:=hw.mono s1;have af1:=ha.mono s1 (ZF _);refine⟨r1,_,rfl,.inl (Z1 g1),p,_,rfl,j,by exact Ij l0,by omega,fun r H2 r0 T2 b2 s2=>?_⟩;obtain⟨mm,v,I2,I1⟩:=Jq r0 T2;obtain⟨own,R3,rfl⟩:=U7 I2;obtain⟨Z,t⟩:=z4 own R3;have k1:=kk.at t;obtain⟨t1,t2,_⟩:=k1;have ho:own∈M.map (·.1):=ZU.mpr ⟨_,XA t,rfl⟩;refine⟨_,_,Z1 (b2.sb _ _ (JA j g1) g1),I1,?_⟩;have J2:GB p T H1 H2:=b2.sb.gb;have wr2:=wr1.sb b2.sb j;have R4:=af1.gb J2 j wr1;refine⟨p,T,a,lA,own,M,D,kv,c,d,m,by dsimp only;rw[en];rfl,s2,wr2,R4,by exact Ej hm,kk,k6,ho,fun u1 H3 b1 l3 N2 G3 wr3 F4 I4 F1 dp3 F6=>?_⟩;refine⟨sl 0,fun bl Y=>?_⟩;have s4:=Yb Y (.lst []);have g4:upd H3 bl (.lst []) bl=some (.lst []):=YY;have N0:=G3.ne Y
 have L2:bl≠T:=fun e=>by
  obtain⟨_,_,_,_,h,_⟩:=id wr3;rw[e,h]at Y;cases Y
 have F2:bl≠l3:=fun e=>by
  obtain⟨ls,h⟩:=wr3.la;rw[e,h]at Y;cases Y
 have g03:GB p T O H3:=(s1.gb.trans J2).trans N2;have hn:O bl=none:=g03.free N0 L2 Y;have F3:LN O lA l3:=LN.trans (.inl rfl) F4 (s1.gb.trans J2) G3 wr3;generalize upd H3 bl (.lst [])=H4 at s4 g4 |-;have T0:=G3.sm s4;have wr4:=wr3.mono s4;have gb4:GB p T O H4:=((s1.gb.trans J2).trans N2).trans s4.gb;have af4:=(R4.gb N2 s2 wr2).mono s4 (ZF _);obtain⟨sA4,hA4,ls4,nn4,S2,hS4,_⟩:=id wr4;obtain⟨o4,N7,q1,q2,q3⟩:=id hS4;obtain⟨v4,F9,N8⟩:=q3 own _ t;obtain⟨ps,l,rfl,hp,hl⟩:=JO N8;refine⟨_,Wr.shapes S2,_,.inl ⟨N7,Sum.inr own,.inr ⟨o4,q1⟩,rfl,F9.symm⟩,_,_,Z0 hp,rfl,⟨_,Z0 hl⟩,?_⟩
 let I:Nat->St->Hp->Prop:=fun i U N=>∃li,li≠bl/\LN O lA li/\GB p T O N/\VE N p/\Wr N T M D li/\AF N a (M.map (·.1)) m kv/\N l=some (.tup (Z.map V.str))/\Has N u1 b1.dat/\∃J S,N bl=some (.lst J)/\J.length=i/\HasL N J (Bd.brs S (Z.take i))/\S.length=i/\Bd.oks S/\Bd.deps S<=n+2/\(∀b∈S,Kd M D kv y b)/\∃z9,
  U=[some (.ref p),some (.ref T),some (.ref a),some (.str y),some (.int ((n+1:Nat):Int)),some (.ref r1),some (.str own),some u1,some (.ref bl),z9]
 refine X2 (xs:=Z.map V.str) I ⟨l3,Zq F2,F3,gb4,T0,wr4,af4,hl,I4.mono s4,[],[],g4,rfl,by simp[Bd.brs,Z4],rfl,by unfold Bd.oks;trivial,by unfold Bd.deps;exact Za _,(fun b hb=>nomatch hb),_,rfl⟩ (fun i U N _ z=>let⟨_,_,_,_,_,_,_,h,_⟩:=z;Z0 h) ?_ ?_
 .rintro BB RR i x U N hx ⟨li,nli,lni,gi,si,wi,ai,hli,hui,J,S,Y,lz,hzs,lb,okb,db,kdb,z9,rfl⟩
  rw[ZG]at hx
  cases ht:Z[i]? with
  |none=>rw[ht]at hx;cases hx
  |some tg=>
   rw[ht]at hx;cases hx;have it:i<Z.length:=(ZE.mp ht).1;refine⟨.inl ⟨rfl,_,Z1 Y⟩,p,T,a,li,y,M,D,kv,c,d,m,by dsimp only;rw[en];rfl,si,wi,ai,by exact Ej hm,kk,k6,hy,fun u2 H5 b2 l5 Z9 N4 N3 N6 I3 D3 dp5 F5=>?_⟩;refine⟨sl 2,fun tt I5=>?_⟩;refine up_in I5 _ fun H6 G g6=>?_;have Z8:=G _ _ (Z9 _ _ N0 L2 Y);refine⟨bl,J,_,rfl,rfl,Z8,Ye (by exact yF it lz t2),?_⟩;have R7:TK N H6:=fun b xs h=>G _ _ (Z9.tk si wi b xs h)
   have N5:l5≠bl:=fun e=>by
    rcases N6 with z|z
    .exact nli (z.symm.trans e)
    .rw [e,Y]at z;cases z
   have gb7:GB p T O (upd H6 bl (.lst (J++[.ref tt]))):=fun b o n1 n2 e=>by
    rw[Ya (Yc e hn)];exact((gi.trans Z9).trans G.gb) b o n1 n2 e
   have G2:TK H6 (upd H6 bl (.lst (J++[.ref tt]))):=fun b xs h=>by rw[Ya (fun e=>by rw[e,Z8]at h;cases h)];exact h
   have R6:=N3.mono G;have R8:=N4.sm G;have R5:Wr (upd H6 bl (.lst (J++[.ref tt]))) T M D l5:=R6.put N5 (Zq L2) Z8;have af7:AF (upd H6 bl (.lst (J++[.ref tt]))) a (M.map (·.1)) m kv:=((ai.gb Z9 si wi).mono G (ZF _)).put Z8;have G1:TK N (upd H6 bl (.lst (J++[.ref tt]))):=fun b xs h=>G2 _ _ (R7 _ _ h);refine⟨l5,N5,lni.trans N6 gi N4 N3,gb7,R8.keep (Ya (Zq N0)),R5,af7,G1 _ _ hli,VF G1 _ (Bd.st _) hui,J++[.ref tt],S++[b2],YY,by simp[lz],?_,by simp[lb],Tl okb D3,Wn db dp5,LV kdb F5,_,rfl⟩;rw[show Z.take (i+1)=Z.take i++[tg]from take_snoc ht,T4 (by rw[lb,ZL];exact yE it)];refine Z5 (VG G1 _ (Gr (Bd.sts S)) hzs) (Z3 (Yy (G2 _ _ g6) (Z2 Y5 (Z3 (VF (fun b xs h=>G2 _ _ (G _ _ h)) _ (Bd.st _) I3)))))
 .rintro U N ⟨li,nli,lni,gi,si,wi,ai,hli,hui,J,S,Y,lz,hzs,lb,okb,db,kdb,z9,rfl⟩
  rw[ZA]at lz lb hzs;rw[List.take_length]at hzs;refine⟨bl,J,rfl,.inl ⟨Z1 Y,fun t2 I7=>?_⟩⟩;refine up_in I7 _ fun H6 G g6=>?_;refine⟨sl 3,fun t3 I6=>?_⟩;have s7:=Yb I6 (.tup [.str "choose",u1,.ref t2]);refine q _ _ (.choose b1 Z S) li ((gi.trans G.gb).trans s7.gb) ((si.sm G).sm s7) ((wi.mono G).mono s7) lni ?_ (by unfold Bd.ok;exact⟨F1,by omega,by omega,okb⟩) (by unfold Bd.dep;exact Q3 dp3 db) (Kd.choose t F6 lb kdb);unfold Bd.dat;exact Yy YY (Z2 Y5 (Z2 ((hui.mono G).mono s7) (Z3 (Yy (s7 _ _ g6) ((hzs.mono G).mono s7)))))
end
end K4
namespace L2
open PySem
theorem Ma(h:Has H v (hdD ps k)):∃t l xs,v=.ref t/\H t=some (.tup [.ref l,.str k])/\H l=some (.tup xs)/\HasL H xs (ps.map fun p=>.tup [.str p.1,.str p.2]):=by
 unfold hdD at h;obtain⟨t,R,rfl,J,G⟩:=Y6 h;obtain⟨B,E,rfl,O,Z⟩:=Ym G;obtain⟨T,D,rfl,N,Y⟩:=Ym Z;obtain rfl:=Vb Y;obtain⟨l,xs,rfl,M,L⟩:=Y6 O;obtain rfl:=has_str N;exact⟨t,l,xs,rfl,J,M,L⟩
theorem Jz(h:Has H v (.tup [.str a,.str b])):∃t,v=.ref t/\H t=some (.tup [.str a,.str b]):=by
 obtain⟨t,N,rfl,J,G⟩:=Y6 h;obtain⟨R,B,rfl,M,Z⟩:=Ym G;obtain⟨O,T,rfl,L,Y⟩:=Ym Z;obtain rfl:=Vb Y;obtain rfl:=has_str M;obtain rfl:=has_str L;exact⟨t,rfl,J⟩
end L2
namespace K4
open PySem L2
section
theorem RN:Yr ["stream","world","around","kind","deep","some","f","given","name","own"] ["stream","world","around","kind","deep"] (Yh Lz):=Y7
theorem SL:List.Nodup [("f":Str),"world","kind"]:=by decide +kernel
theorem SA(B:Blt mg)(F:Fun K "_law_ask" "_law_ask" Lz f fd)(DT:Df P w K mg base (L+2) "_law_take" ["stream","many"] JE)(DP:Df P w K mg base (L+2) "_law_plain" ["stream","world","around","kind"] (Jc 3))(DS:Df P w K mg base (L+2) "_law_some" gps (spG n)):
  Yo P w K mg base CX0 (L+2+1) f fd gps (spG (n+1)):=by
 refine F.oq RN fun I7 A R4 s H vs Q E hr h=>?_;obtain⟨p,wA,a,lA,y,ks,S,kv,c,d,m,rfl,hs,hw,ha,hm,kk,k6,hy,q⟩:=h;have hu:=V1 hr;have F3:=hr.mono (show 2<=L+2 by exact Ii);refine⟨_,YW (Ga (i0:=5) ["f"] [1,3] RN.nd rfl (Or.inl rfl) (UL (Yz hu (pv 1) Yn (fun _ _=>rfl))) (Vl (i:=0) (by decide)) (fun cl C fp s H=>Yk 0 SL rfl (Or.inl rfl) (Or.inr rfl))
   (fun cl C fp s H=>Yi VB (Yd (r:=Ta K) Yg (Yz hu (Yz hu (pv 1) Yn (fun _ _=>rfl)) (pv 0) (fun _ _=>rfl)) YX) (pv 2) (Yq _)) (fun cl C fp s H=>pv 0))
  (YW (Yx (Yi (Xy F3) (pv 5) (VD VT) (Yq _)) (YZ (Yf (Yt DP hr (pa4 (pv 0) (pv 1) (pv 2) (pv 3))))) Yl)
  (YW (Yp 6 RN.nd (Yd Yv (pv 5) (Yt DT hr (pa2 (pv 0) (Y0 Yu rfl B.len Zs (pa1 (pv 5))))) (fun _ _=>rfl)))
  (YW (Yp 7 RN.nd (VD VT))
  (YW (Vu Zt rfl (Ji (Yd Yg (Yz hu (Yz hu (pv 1) Yn (fun _ _=>rfl)) (pv 6) (fun _ _=>rfl)) YX)) (Vn (n:=2) rfl (Ys (Yk 8 RN.nd) (Ys (Yk 9 RN.nd) VO)))
   (YZ (JB (UR Zx Zy Zz JK (pv 7) (pa1 (Yt DS hr (pa5 (pv 0) (pv 1) (pv 2) (pv 9) (Y2 Jv (pv 4) YX))))))))
  (YZ (Yf (Yw (pa3 Yn (pv 6) (Y4 Vm rfl B.tuple Ve (pa1 (pv 7))))))))))),?_⟩
 dsimp only[JV,Cx.nox,Cx.wish];show let a:=_;let b:=_;let c:=Yj (UE _ _ b) a;let d:=Yj _ c;let e:=Yj _ d;let f:=_;let g:=Yj (Y9 _ f _) e;Yj _ g _ _ _
 intros
 obtain⟨sA,hA,ls,nn,hW,hS,hH,hL,l3⟩:=id hw;obtain⟨o,D,h1,h2,h3⟩:=id hH;have en:(((n+1:Nat):Int)-1)=((n:Nat):Int):=by exact Ik
 refine⟨_,Wr.heads hW,hA,o,D,rfl,h1,?_⟩;refine UN D.length (Ye (by exact OE h2)) (fun i vs N=>N=H/\vs.length<=i/\∃J:List Str,vs=J.map V.str/\∀z∈J,∃v G,Y8 D (Sum.inr z)=some v/\Has H v (hdD G y)/\G.length<=3/\(∀p∈G,p.2∈ks.map (·.1))/\S z=some (G,y)) ⟨rfl,ZF _,[],rfl,(fun z hz=>nomatch hz)⟩ (fun i vs N z=>z.2.1) ?_ ?_ ?_ ?_
 .rintro i vs N hi ⟨rfl,_⟩
  exact⟨h1,hi⟩
 .rintro vs N ⟨rfl,_⟩
  exact⟨h1,rfl⟩
 .rintro i vs N x H'' R hi ⟨rfl,z2,J,rfl,z4⟩ yl rT rF
  obtain⟨rfl,R8,F5,rfl⟩:=yl;have N6:=ZH F5;obtain⟨x,_,_,ek,_⟩:=h3 R8 N6;obtain⟨v,hv⟩:=NF N6;rw[ek]at hv |-;obtain⟨R7,m2,e2,e3⟩:=X6 hv;obtain⟨x2,G,k,e4,hh,p3,pk,_,T2⟩:=h3 R7 m2;rw[e3]at hh;rw[e2]at e4;cases e4;have F6:=hh;obtain⟨t,l,xs,rfl,ht,hl,G3⟩:=Ma hh;refine⟨_,Wr.heads hW,_,.inl ⟨D,Sum.inr x,.inr ⟨o,h1⟩,rfl,hv.symm⟩,_,_,Z0 ht,rfl,rfl,_,rfl,?_⟩;refine Vq (fun c1=>rT _ _ ⟨rfl,by simp at z2 |-;omega,J++[x],by rw[ZI];rfl,fun z hz=>?_⟩) (fun c1=>rF _ ⟨rfl,by exact Ek z2,J,rfl,z4⟩);rcases ZV.mp hz with hz|hz
  .exact z4 z hz
  .cases ZO.mp hz
   have c2:=Zr c1;have c3:k=y:=by injection c2
   subst c3;exact⟨_,G,hv,F6,p3,pk,T2⟩
 rintro vs N r1 ⟨rfl,z2,J,rfl,z4⟩ F4;have ll:(J.map V.str).length=J.length:=ZA _;refine up_in F4 _ fun H1 s1 g1=>?_;refine⟨sl 0,fun e1 F9=>?_⟩;have s2:=Yb F9 (.lst []);have g2:=s2 _ _ g1;have ge:upd H1 e1 (.lst []) e1=some (.lst []):=YY;generalize upd H1 e1 (.lst [])=H2 at s2 g2 ge |-;have Z:=s1.trans s2;have T:=hs.sm Z;have wr2:=hw.mono Z;have N8:=ha.mono Z (ZF _);have dy:=kk.small hy;refine⟨.lst (J.map Dat.str),.lst [],MW g2,JD ge Z4,J3 _,_,rfl,?_⟩;rw[Te]
 cases J with
 |nil=>
  refine VJ (by simp) ?_;exact⟨p,wA,a,lA,y,ks,S,kv,c,d,rfl,T,wr2,N8.mono (Z6 _) (by exact Q2 hm),kk,hy,by exact oq0 dy,(q.go Z.gb (.inl rfl)).le (by exact Q1 dy)⟩
 |cons n1 J=>
  have l1:((n1::J).map V.str).length=J.length+1:=by simp
  rw[l1]at z2;refine Y1 (by simp) ?_;refine⟨r1,_,rfl,.inl (Z1 g2),p,_,rfl,T,by exact OB l1,by exact yC z2 l1 h2,fun r H3 r0 R3 b3 s3=>?_⟩;obtain⟨mm,v,D3,D0⟩:=Jq r0 R3;obtain⟨fn,F7,rfl⟩:=U7 D3;obtain⟨v,G,hv,hh,p3,pk,F8⟩:=z4 fn F7;have N7:GB p wA H2 H3:=b3.sb.gb;have wr3:=wr2.sb b3.sb T;have I6:=N8.gb N7 T wr2;refine⟨_,_,Z1 (b3.sb _ _ (JA T g2) g2),D0,?_⟩;refine⟨sl 0,fun bl Y=>?_⟩;have s4:=Yb Y (.lst []);have g4:upd H3 bl (.lst []) bl=some (.lst []):=YY;have G2:=s3.ne Y
  have G1:bl≠wA:=fun e=>by
   obtain⟨_,_,_,_,h,_⟩:=id wr3;rw[e,h]at Y;cases Y
  have R6:bl≠lA:=fun e=>by
   obtain⟨ls,h⟩:=wr3.la;rw[e,h]at Y;cases Y
  have N0:GB p wA N H3:=Z.gb.trans N7;have hn:N bl=none:=N0.free G2 G1 Y;generalize upd H3 bl (.lst [])=H4 at s4 g4 |-;have R1:TK N H4:=fun b xs h=>s4 _ _ (N0.tk hs hw _ _ h);have I2:=s4 _ _ (b3.sb _ _ (hw.ne hs) (Z _ _ hW));have I3:=s4 _ _ (b3.sb _ _ (Vx hs h1) (Z _ _ h1));obtain⟨t,l,xs,rfl,ht,hl,G3⟩:=Ma (VF R1 _ (Jw _ _) hh);have lx:=G3.length;rw[ZA]at lx;refine⟨_,Wr.heads I2,_,.inl ⟨D,Sum.inr fn,.inr ⟨o,I3⟩,rfl,hv.symm⟩,_,_,Z0 ht,rfl,⟨_,Z0 hl⟩,?_⟩
  let I:Nat->St->Hp->Prop:=fun i U M=>∃li,li≠bl/\LN N lA li/\GB p wA N M/\VE M p/\Wr M wA ks S li/\AF M a (ks.map (·.1)) m kv/\M l=some (.tup xs)/\HasL M xs (G.map fun p=>.tup [.str p.1,.str p.2])/\∃O u,M bl=some (.lst O)/\O.length=i/\HasL M O (Bd.dats u)/\u.length=i/\Bd.oks u/\Bd.deps u<=n+2/\(∀(j:Nat)(b:Bd),u[j]?=some b->∀p,G[j]?=some p->Kd ks S kv p.2 b)/\∃z8 z9,
   U=[some (.ref p),some (.ref wA),some (.ref a),some (.str y),some (.int ((n+1:Nat):Int)),some (.ref r1),some (.str fn),some (.ref bl),z8,z9]
  refine X2 (xs:=xs) I ⟨lA,Zq R6,.inl rfl,N0.trans s4.gb,s3.sm s4,wr3.mono s4,I6.mono s4 (ZF _),hl,G3,[],[],g4,rfl,by simp[Bd.dats,Z4],rfl,by unfold Bd.oks;trivial,by unfold Bd.deps;exact Za _,(fun j b e=>nomatch e),_,_,rfl⟩ (fun i U M _ z=>let⟨_,_,_,_,_,_,_,h,_⟩:=z;Z0 h) ?_ ?_
  .rintro BB RR i x U M hx ⟨li,nli,lni,gi,si,wi,ai,hli,hxi,O,u,Y,lz,hzs,lb,okb,db,kdb,z8,z9,rfl⟩
   obtain⟨dd,X,I1⟩:=hxi.get hx;rw[ZG]at X
   cases hp:G[i]? with
   |none=>rw[hp]at X;cases X
   |some pr=>
    rw[hp]at X;cases X;have ip:i<G.length:=(ZE.mp hp).1;obtain⟨t2,rfl,L2⟩:=Jz I1;have ho:=pk pr (ZH hp);refine⟨_,Z0 L2,rfl,?_⟩;refine⟨.inl ⟨rfl,_,Z1 Y⟩,p,wA,a,li,pr.2,ks,S,kv,c,d,m,by dsimp only;rw[en];rfl,si,wi,ai,by exact Ej hm,kk,k6,ho,fun u2 H5 b2 l5 Z9 N3 N1 N5 F1 R5 I5 T0=>?_⟩;have Z8:=Z9 _ _ G2 G1 Y;refine⟨bl,O,_,rfl,rfl,Z8,Ye (by exact yB ip lz p3),?_⟩
    have N4:l5≠bl:=fun e=>by
     rcases N5 with z|z
     .exact nli (z.symm.trans e)
     .rw [e,Y]at z;cases z
    have I4:GB p wA N (upd H5 bl (.lst (O++[u2]))):=fun b o n1 n2 e=>by
     rw[Ya (Yc e hn)];exact(gi.trans Z9) b o n1 n2 e
    have N2:TK H5 (upd H5 bl (.lst (O++[u2]))):=fun b xs h=>by rw[Ya (fun e=>by rw[e,Z8]at h;cases h)];exact h
    have J2:TK M (upd H5 bl (.lst (O++[u2]))):=fun b xs h=>N2 _ _ (Z9.tk si wi _ _ h);refine⟨l5,N4,lni.trans N5 gi N3 N1,I4,N3.keep (Ya (Zq G2)),N1.put N4 (Zq G1) Z8,(ai.gb Z9 si wi).put Z8,J2 _ _ hli,?_,O++[u2],u++[b2],YY,by simp[lz],?_,by simp[lb],Tl okb R5,Wn db I5,LC kdb (fun p e=>by rw[lb,hp]at e;cases ZP e;exact T0),_,_,rfl⟩
    .have:=Jw G y
     unfold hdD Dat.st Dat.sts at this;rw[ZX]at this;refine VG J2 _ ?_ hxi;have t1:=this.1;unfold Dat.st at t1;exact t1
    .rw [Rb]
     exact Z5 (VG J2 _ (Bd.sts u) hzs) (Z3 (VF N2 _ (Bd.st _) F1))
  .rintro U M ⟨li,nli,lni,gi,si,wi,ai,hli,hxi,O,u,Y,lz,hzs,lb,okb,db,kdb,z8,z9,rfl⟩
   refine⟨bl,O,rfl,.inl ⟨Z1 Y,fun t2 L2=>?_⟩⟩;refine up_in L2 _ fun H6 s6 g6=>?_;refine⟨sl 3,fun t3 F2=>?_⟩;have s7:=Yb F2 (.tup [.str "ask",.str fn,.ref t2]);refine q _ _ (.ask fn u) li ((gi.trans s6.gb).trans s7.gb) ((si.sm s6).sm s7) ((wi.mono s6).mono s7) lni ?_ (by unfold Bd.ok;exact⟨by exact yA lx lb p3,okb⟩) (by unfold Bd.dep;exact Q0 db) (Kd.ask F8 (by exact AC lx lb) (fun j b p e1 e2=>kdb j b e1 p e2));unfold Bd.dat;exact Yy YY (Z2 Y5 (Z2 Y5 (Z3 (Yy (s7 _ _ g6) ((hzs.mono s6).mono s7)))))
end
end K4
namespace L2
open PySem
theorem Same.putN(s:Same H0 H)(h:H0 p=none):Same H0 (upd H p o):=fun b u e=>by
 rw[Ya (Yc e h)];exact s b u e
def sgD(q:Str×Str):Dat:=.tup [.str q.1,.str q.2]
theorem Fl:∀Y:List (Str×Str),Dat.sts (Y.map sgD)=true
 |[]=>by unfold List.map Dat.sts;rfl
 |q::Y=>by rw[ZT];unfold Dat.sts;rw[Fl Y];simp[sgD,Dat.st,Dat.sts]
theorem Qf(Y:List (Str×Str)):(Dat.lst (Y.map sgD)).dep<=2:=by
 have:∀Y:List (Str×Str),Dat.deps (Y.map sgD)<=1:=by
  intro Y
  induction Y with
  |nil=>unfold List.map Dat.deps;exact Za _
  |cons q Y ih=>
   rw[ZT];unfold Dat.deps;have e:(sgD q).dep=1:=by simp[sgD,Dat.dep,Dat.deps]
   omega
 have:=this Y;unfold Dat.dep;exact AB this
def PtK(ks:List (Str×Shp))(y:Str)(q:Str×Str):Prop:=(q.1="one" /\∃b,Vd ks q.2=some (.pair y b))\/(q.1="other" /\∃a,Vd ks q.2=some (.pair a y))
def SM(ks:List (Str×Shp))(y:Str)(H:Hp)(bl:Addr)(ns:List Str)(k:Nat)(Hi:Hp):Prop:=Same H Hi/\∃(zs:List V)(qs:List (Str×Str)),Hi bl=some (.lst zs)/\zs.length=qs.length/\zs.length<=k/\HasL Hi zs (qs.map sgD)/\∀q∈qs,PtK ks y q/\q.2∈ns
theorem SM.app(s:SM ks y H bl ns k Hi)(F:H bl=none)(I:PtK ks y (sg,nm))(A:nm∈ns)(E:Hi tt=none)(M:Hi bl=some (.lst zs)):
  SM ks y H bl ns (k+1) (upd (upd Hi tt (.tup [.str sg,.str nm])) bl (.lst (zs++[.ref tt]))):=by
 obtain⟨D,T,L,R,C,X,U,S⟩:=s;rw[M]at R;have G:=ZP R;injection G with e;subst e;have J:=Yb E (.tup [.str sg,.str nm]);have O:upd Hi tt (.tup [.str sg,.str nm]) tt=some (.tup [.str sg,.str nm]):=YY;have N:=J _ _ M;generalize upd Hi tt (.tup [.str sg,.str nm])=H6 at J O N |-;have Y:TK H6 (upd H6 bl (.lst (zs++[.ref tt]))):=fun b B h=>by rw[Ya (fun e=>by rw[e,N]at h;cases h)];exact h
 refine⟨(D.trans J).putN F,zs++[.ref tt],L++[(sg,nm)],YY,by simp[C],by simp;omega,?_,fun q Z=>?_⟩
 .rw [ZI]
  exact Z5 (VG (fun b B h=>Y _ _ (J _ _ h)) _ (Fl L) U) (Z3 (UC (Y _ _ O)))
 .rcases ZV.mp Z with Z|Z
  .exact S q Z
  .cases ZO.mp Z
   exact⟨I,A⟩
theorem SM.up(s:SM ks y H bl ns k Hi)(h:k<=k'):SM ks y H bl ns k' Hi:=let⟨a,Y,Z,b,c,d,e⟩:=s;⟨a,Y,Z,b,c,ZZ d h,e⟩
end L2
namespace K4
open PySem L2
section
theorem Xf:Yr ["stream","world","around","kind","deep","some","name","shape","sign","own"] ["stream","world","around","kind","deep"] (Yh MM):=Y7
theorem KS(B:Blt mg)(F:Fun K "_law_part" "_law_part" MM f fd)(DT:Df P w K mg base (L+3) "_law_take" ["stream","many"] JE)(DC:Df P w K mg base (L+3) "_law_choose" gps (spG (n+1)))(DB:Df P w K mg base (L+3) "_law_body" gps (spG n)):
  Yo P w K mg base CX0 (L+3+1) f fd gps (spG (n+1)):=by
 refine F.oq Xf fun T0 A N4 s H vs Q E hr h=>?_;obtain⟨p,wA,a,lA,y,t,L2,kv,c,d,m,rfl,hs,hw,ha,hm,kk,k6,hy,q⟩:=h;have hu:=V1 hr;have R5:=hr.mono (show 3<=L+3 by exact Ih);refine⟨_,YW (Yp 5 Xf.nd (VD VT))
  (YW (Vu Zt rfl (UL (Yz hu (pv 1) Yn (fun _ _=>rfl))) (Yk 6 Xf.nd)
   (YW (Yp 7 Xf.nd (Yz hu (Yz hu (pv 1) Yn (fun _ _=>rfl)) (pv 6) (fun _ _=>rfl)))
   (YW (Yx (PW.pt (JU (Yi VB (Yd Yg (pv 7) YX) Yn (Yq _)) (JH (Yi VB (Yd Yg (pv 7) YX) (pv 3) (Yq _)))))
    (YZ (JB (UR Zx Zy Zz JK (pv 5) (pa1 (Yw (pa2 Yn (pv 6))))))) Yl)
   (YZ (Yx (PW.pt (JU (Yi VB (Yd Yg (pv 7) YX) Yn (Yq _)) (JH (Yi VB (Yd Yg (pv 7) YX) (pv 3) (Yq _)))))
    (YZ (JB (UR Zx Zy Zz JK (pv 5) (pa1 (Yw (pa2 Yn (pv 6))))))) Yl)))))
  (YW (Yx (Yi (Xy R5) (pv 5) (VD VT) (Yq _)) (YZ (Yf (Yt DC hr (pa5 (pv 0) (pv 1) (pv 2) (pv 3) (pv 4))))) Yl)
  (YW (Je (Yd Yv (pv 5) (Yt DT hr (pa2 (pv 0) (Y0 Yu rfl B.len Zs (pa1 (pv 5))))) (fun _ _=>rfl)) (Vn (n:=2) rfl (Ys (Yk 8 Xf.nd) (Ys (Yk 9 Xf.nd) VO))))
  (YZ (Yf (Yw (pa2 (pv 8) (Yt DB hr (pa5 (pv 0) (pv 1) (pv 2) (pv 9) (Y2 Jv (pv 4) YX)))))))))),?_⟩
 dsimp only[JV,Cx.nox,Cx.wish];show let a:=_;let b:=Yj _ a;let c:=_;let d:=Yj (Y9 _ c _) b;let e:=_;let f:=Y9 _ e _;let g:=_;let h:=Yj (Y9 _ g _) f;let i:=Yj _ h;let j:=Yj (UE _ _ i) d;Yj _ j _ _ _
 intros
 have en:(((n+1:Nat):Int)-1)=((n:Nat):Int):=by exact Ik
 refine⟨sl 0,fun bl O=>?_⟩;refine up_in O _ fun H1 s1 g1=>?_;obtain⟨sA,hA,ls,nn,hW,hS,hH,hL,l3⟩:=id hw;obtain⟨o,J2,h1,h2,h3⟩:=id hS;have kl:=WH h2;refine⟨_,Wr.shapes (s1 _ _ hW),sA,o,J2,rfl,s1 _ _ h1,?_⟩
 let I:Nat->St->Hp->Prop:=fun i U Hi=>SM t y H bl (t.map (·.1)) (2*i) Hi/\∃z6 z7,U=[some (.ref p),some (.ref wA),some (.ref a),some (.str y),some (.int ((n+1:Nat):Int)),some (.ref bl),z6,z7,none,none]
 refine EF I ⟨⟨s1,[],[],g1,rfl,ZF _,Z4,fun q hq=>nomatch hq⟩,_,_,rfl⟩ (fun i U Hi _ z=>z.1.1 _ _ h1) ?_ ?_
 .rintro BB RR i kv U Hi hkv ⟨sm,z6,z7,rfl⟩
  have si:=sm.1;obtain⟨x,s,hx,ek⟩:=Wl h2 hkv;rw[ek];have k:x∈t.map (·.1):=ZU.mpr ⟨(x,s),ZH hx,rfl⟩;obtain⟨sh,u⟩:=Vw k;obtain⟨v,hv,N7⟩:=h3 x sh u;have G2:=N7.mono si;have i6:i<6:=by have:=(ZE.mp hkv).1;omega
  refine⟨_,Wr.shapes (si _ _ hW),v,.inl ⟨J2,Sum.inr x,.inr ⟨o,si _ _ h1⟩,rfl,hv.symm⟩,?_⟩
  cases sh with
  |tags ts=>
   obtain⟨ps,l,rfl,hp,hl⟩:=JO G2;refine⟨_,_,Z0 hp,rfl,rfl,_,rfl,Y1 (by decide +kernel) (Y1 (by decide) ?_)⟩;refine⟨_,_,Z0 hp,rfl,rfl,_,rfl,Y1 (by decide +kernel) (Y1 (by decide) ?_)⟩;exact⟨sm.up (by exact zz),_,_,rfl⟩
  |pair e g=>
   obtain⟨ps,rfl,hp⟩:=V2 G2;dsimp only[JG];refine VQ (fun U' H2=>SM t y H bl (t.map (·.1)) (2*i+1) H2/\H2 ps=some (.tup [.str "pair",.str e,.str g])/\U'=[some (.ref p),some (.ref wA),some (.ref a),some (.str y),some (.int ((n+1:Nat):Int)),some (.ref bl),some (.str x),some (.ref ps),none,none]) ?_ ?_
   .rintro U' H2 ⟨sm2,hp2,rfl⟩
    refine⟨_,_,Z0 hp2,rfl,rfl,_,rfl,VJ (by decide +kernel) ?_⟩;refine⟨_,_,Z0 hp2,rfl,rfl,_,rfl,?_⟩;refine Vq (fun c1=>?_) (fun c1=>⟨sm2.up (by exact zy),_,_,rfl⟩);have c2:g=y:=by have:=Zr c1;injection this
    obtain⟨_,zs,D,J,a2,a3,_⟩:=id sm2;refine⟨.inl ⟨rfl,_,Z1 J⟩,sl 2,fun tt Y=>?_⟩;refine⟨bl,zs,_,rfl,rfl,Yb Y _ _ _ J,Ye (by exact zG i6 a3),?_⟩;exact⟨(sm2.app O (.inr ⟨rfl,e,c2 ▸ u⟩) k Y J).up (by exact zF),_,_,rfl⟩
   .intro N key
    refine⟨_,_,Z0 hp,rfl,rfl,_,rfl,VJ (by decide +kernel) ?_⟩;refine⟨_,_,Z0 hp,rfl,rfl,_,rfl,?_⟩;refine Vq (fun c1=>?_) (fun c1=>key _ _ ⟨sm.up (by exact zE),hp,rfl⟩);have c2:e=y:=by have:=Zr c1;injection this
    obtain⟨_,zs,D,J,a2,a3,_⟩:=id sm;refine⟨.inl ⟨rfl,_,Z1 J⟩,sl 2,fun tt Y=>?_⟩;refine⟨bl,zs,_,rfl,rfl,Yb Y _ _ _ J,Ye (by exact zD i6 a3),?_⟩;refine key _ _ ⟨(sm.app O (.inl ⟨rfl,g,c2 ▸ u⟩) k Y J).up (by exact zC),?_,rfl⟩;have Z8:=Yb Y (.tup [.str "one",.str x]) _ _ hp;have a6:=Yb Y (.tup [.str "one",.str x]) _ _ J;rw[Ya (fun z=>by rw[z,a6]at Z8;cases Z8)];exact Z8
 .rintro U Hi ⟨sm,z6,z7,rfl⟩
  obtain⟨si,zs,D,J,a2,a3,a4,a5⟩:=id sm;refine⟨sl 0,fun e1 R6=>?_⟩;refine up_in R6 _ fun H2 s2 ge=>?_;have Z:=si.trans s2;have G:=hs.sm Z;have wr2:=hw.mono Z;have N1:=ha.mono Z (ZF _);refine⟨.lst (D.map sgD),.lst [],JD (s2 _ _ J) (a4.mono s2),JD ge Z4,Qf _,_,rfl,?_⟩;rw[Te]
  cases D with
  |nil=>
   refine VJ (by simp) ?_;exact⟨p,wA,a,lA,y,t,L2,kv,c,d,m,rfl,G,wr2,N1,hm,kk,k6,hy,q.go Z.gb (.inl rfl)⟩
  |cons q1 D=>
   have l1:(q1::D).length=D.length+1:=rfl;refine Y1 (by simp) ?_;refine⟨bl,_,rfl,.inl (Z1 (s2 _ _ J)),p,_,rfl,G,by omega,by exact zB kl a3 k6,fun r H3 r0 N3 b3 s3=>?_⟩;obtain⟨mm,v,R1,N8⟩:=Jq r0 N3;have T:GB p wA H2 H3:=b3.sb.gb
   have N5:bl≠p:=fun e=>by
    obtain⟨_,_,_,_,h⟩:=hs;rw[e,h]at O;cases O
   obtain⟨dd,M,R7⟩:=(a4.mono s2).get R1;rw[ZG]at M
   cases hq:(q1::D)[mm]? with
   |none=>rw[hq]at M;cases M
   |some pr=>
    rw[hq]at M;cases M;obtain⟨X,ho⟩:=a5 pr (ZH hq);obtain⟨t2,rfl,R4⟩:=Jz R7;have N2:=T.tk G wr2;refine⟨_,_,Z1 (b3.sb _ _ N5 (s2 _ _ J)),N8,?_⟩;refine⟨_,Z0 (N2 _ _ R4),rfl,?_⟩;refine⟨p,wA,a,lA,pr.2,t,L2,kv,c,d,m,by dsimp only;rw[en];rfl,s3,wr2.sb b3.sb G,N1.gb T G wr2,by exact Ej hm,kk,k6,ho,fun u5 H5 b5 l5 R8 C S N6 G3 Z9 N0 G1=>?_⟩;refine⟨sl 2,fun t3 R3=>?_⟩;have R:=Yb R3 (.tup [.str pr.1,u5]);have ln:LN H lA l5:=LN.trans (.inl rfl) N6 (Z.gb.trans T) C S;have gb:GB p wA H (upd H5 t3 (.tup [.str pr.1,u5])):=((Z.gb.trans T).trans R8).trans R.gb;rcases X with⟨X,sb⟩|⟨X,sb⟩
    .refine q _ _ (.one b5) l5 gb (C.sm R) (S.mono R) ln ?_ (by unfold Bd.ok;exact Z9) (by unfold Bd.dep;exact Q0 N0) (let⟨_,e⟩:=sb;Kd.one e G1)
     unfold Bd.dat;rw[X];exact Yy YY (Z2 Y5 (Z3 (by rw[X]at R;exact G3.mono R)))
    .refine q _ _ (.other b5) l5 gb (C.sm R) (S.mono R) ln ?_ (by unfold Bd.ok;exact Z9) (by unfold Bd.dep;exact Q0 N0) (let⟨_,e⟩:=sb;Kd.other e G1)
     unfold Bd.dat;rw[X];exact Yy YY (Z2 Y5 (Z3 (by rw[X]at R;exact G3.mono R)))
end
end K4
namespace L2
open PySem PySem.Spec PyProof.Rows
section
theorem FQ:Jb X (.builtin "len") (fun xs H Q=>∃a kvs,xs=[V.ref a]/\Rd H a (.dK kvs)/\Q (.int kvs.length) H):=by
 intro Y s U H xs L Q I r h;obtain⟨a,kvs,rfl,J,q⟩:=h;obtain⟨u,rfl,Z⟩:=vals1 r;cases Z;exact zW I J fun t M G=>⟨.int kvs.length,H,G,⟨t,rfl⟩,q⟩
theorem UA(w:X.calm=true):Jb X (.type "list") (fun xs H Q=>∃a kvs,xs=[.ref a]/\Rd H a (.dK kvs)/\∀l,H l=none->Q (.ref l) (upd H l (.lst (kvs.map fun Y=>kV Y.1)))):=by
 intro F s U H xs us Q I r h;obtain⟨a,kvs,rfl,b,q⟩:=h;obtain⟨u,rfl,C⟩:=vals1 r;cases C;obtain⟨A,P,D,E,v⟩:=U2 I.hok b;obtain⟨ep,O⟩:=v.dictAt;have Z:=E.length;refine W.kdl_call (W.kdl_dict (knd:=VC X.prog X.w) (kvs:=D) (ep:=ep) P) (I.ok.hd w) O (by rw[<-Z];exact A) fun h' tk B c f d G=>?_;refine⟨.ref s.heap.objs.size,_,I.laid (o:=.lst (kvs.map fun Y=>kV Y.1)) f (ZF _) ⟨by rw[ZA];exact A,B.toList,c,?_,by rw[Array.toArray_toList];exact d⟩,rfl,q _ (I.hok.fresh (ZF _))⟩;obtain⟨p,g⟩:=G;refine U4 (by simp[p,Z]) fun j x u L n=>?_;obtain⟨k,y,m,N⟩:=g j u (by rw[<-Array.getElem?_toList];exact n);rw[ZG]at L
 cases hkv:kvs[j]? with
 |none=>rw[hkv]at L;cases L
 |some Y=>
  rw[hkv]at L;cases L;have J:=E.keys;have S:(kvs.map (·.1))[j]?=(D.map (·.1))[j]?:=by rw[J]
  rw[ZG,ZG,hkv,m]at S;have e:Y.1=k:=ZP S;have M:JY Y.1 u=true:=by rw[e];exact N
  rcases VX M with⟨i,t,T,R⟩|⟨z,t,T,R⟩
  .show RelV (kV Y.1) u
   rw[T,R];exact⟨t,rfl⟩
  .show RelV (kV Y.1) u
   rw[T,R];exact⟨t,rfl⟩
theorem Uw:Jb X (.type "dict") (fun xs H Q=>∃a kvs,xs=[.ref a]/\Rd H a (.dK kvs)/\∀l,H l=none->Q (.ref l) (upd H l (.dK kvs))):=by
 intro G s U H xs D Q I r h;obtain⟨a,kvs,rfl,T,q⟩:=h;obtain⟨u,rfl,N⟩:=vals1 r;cases N;obtain⟨L,O,B,J,R⟩:=U2 I.hok T;have Y:=J.length;refine kt_call_dict (knd:=VC X.prog X.w) O R (by rw[<-Y];exact L) fun E Z M=>?_;refine⟨.ref s.heap.objs.size,_,I.laid (a:=s.heap.objs.size) (o:=.dK kvs) (fun b o e=>?_) (ZF _) (Tx L (beq_eq_false_iff_ne.mpr (Zq (Zc I.big))) J Z),rfl,q _ (I.hok.fresh (ZF _))⟩;exact(M.2 b (Zc (ZN e))).trans (ZD _ e)
end
theorem SB{o:Option V}(h:(!o.isSome)=true):o=none:=by
 cases o with
 |none=>rfl
 |some v=>cases h
theorem NR:∀{ls:List Str},nm∈ls->∃j:Nat,ls[j]?=some nm/\∀m:Nat,m<j->ls[m]?≠some nm
 |[],h=>nomatch h
 |l::ls,h=>by
  by_cases e:l=nm
  .exact ⟨0,by rw[e];rfl,fun m Y=>Zp Y (by omega)⟩
  .obtain ⟨j,h1,h2⟩:=NR (ls:=ls) ((Zb.mp h).resolve_left fun z=>e z.symm)
   refine⟨j+1,h1,fun m Y=>?_⟩
   cases m with
   |zero=>exact fun z=>e (ZP z)
   |succ m=>exact h2 m (by omega)
theorem La:putK [((Sum.inr "shapes":Key),a),(Sum.inr "heads",b),(Sum.inr "lets",c),(Sum.inr "left",d)] (Sum.inr "lets") v=[((Sum.inr "shapes":Key),a),(Sum.inr "heads",b),(Sum.inr "lets",v),(Sum.inr "left",d)]:=rfl
theorem DU:putK [((Sum.inr "shapes":Key),a),(Sum.inr "heads",b),(Sum.inr "lets",c),(Sum.inr "left",d)] (Sum.inr "left") v=[((Sum.inr "shapes":Key),a),(Sum.inr "heads",b),(Sum.inr "lets",c),(Sum.inr "left",v)]:=rfl
theorem Wr.set(g:Wr H w ks hds lA)(e:H w=some (wrD sA hA lA n)){ls:List Str}(Z:Int)(h:H l'=some (.lst (ls.map V.str)))(j:ls.length<=4):Wr (upd H w (wrD sA hA l' Z)) w ks hds l':=by
 obtain⟨I,Q,C,m,R,l,r,x,a⟩:=g;rw[e]at R;have z:=ZP R;unfold wrD at z;injection z with A;injection A with F E;injection F with _ z4;injection z4 with D;injection E with B _;injection B with _ z7;injection z7 with T;subst D T;have O:TK H (upd H w (wrD sA hA l' Z)):=fun b i q=>by rw[Ya (fun z=>by rw[z,e]at q;cases q)];exact q
 obtain⟨o,J,N,u,d⟩:=l;obtain⟨U,Y,M,c,p⟩:=r;refine⟨sA,hA,ls,Z,YY,⟨o,J,?_,u,fun y s q=>let⟨v,L,G⟩:=d y s q;⟨v,L,VF O _ (Shp.st _) G⟩⟩,⟨U,Y,?_,c,fun X P=>let⟨f,S,k,L,G,t⟩:=p X P;⟨f,S,k,L,VF O _ (Jw _ _) G,t⟩⟩,?_,j⟩
 .rw [Ya (fun z=>by rw[z,e]at N;cases N)];exact N
 .rw [Ya (fun z=>by rw[z,e]at M;cases M)];exact M
 .rw [Ya (fun z=>by rw[z,e]at h;cases h)];exact h
theorem FD:GB p w H (upd H w o):=fun b u _ Y e=>by rw[Ya Y];exact e
theorem Tc{kvs:List (Key×V)}(h:kv∈putK kvs k v):kv∈kvs\/kv=(k,v):=by
 unfold putK at h
 split at h
 .obtain ⟨q,hq,e⟩:=ZU.mp h
  by_cases z:q.1=k
  .rw [Zn z]at e;exact .inr (by rw[<-e,z])
  .rw [Zo z]at e;exact .inl (by rw[<-e];exact hq)
 .rcases ZV.mp h with h|h
  .exact .inl h
  .exact .inr (ZO.mp h)
theorem WB(kvs:List (Key×V))(k:Key)(v:V):(putK kvs k v).length<=kvs.length+1:=by
 unfold putK
 split
 .rw [ZA];exact KH
 .rw [ZJ];exact ZF _
end L2
namespace K4
open PySem L2
section
theorem TJ:Yr ["stream","world","around","kind","deep","names","name","lets","own","inner","first"] ["stream","world","around","kind","deep"] (Yh Ly):=Y7
theorem zK:List.Nodup [("one":Str),"around"]:=by decide +kernel
theorem Q8(B:Blt mg)(F:Fun K "_law_let" "_law_let" Ly f fd)(DT:Df P w K mg base (L+3) "_law_take" ["stream","many"] JE)(DC:Df P w K mg base (L+3) "_law_choose" gps (spG (n+1)))(DB:Df P w K mg base (L+3) "_law_body" gps (spG n)):
  Yo P w K mg base CX0 (L+3+1) f fd gps (spG (n+1)):=by
 refine F.oq TJ fun cdv A I8 s H vs Q E hr h=>?_;obtain⟨p,Z,a,lA,y,ks,G2,Y,c,d,m,rfl,hs,hw,ha,hm,kk,k6,hy,q⟩:=h;have hu:=V1 hr;have hr3:=hr.mono (show 2<=L+3 by exact C9);refine⟨_,YW (Ga (i0:=5) ["one"] [2] TJ.nd rfl (Or.inl rfl) (V5 (Yz hu (pv 1) Yn (fun _ _=>rfl))) (Vl (i:=0) (by decide)) (fun cl C fp s H=>Yk 0 zK rfl (Or.inl rfl) (Or.inr rfl))
   (fun cl C fp s H=>Ju (Uc hu (pv 0) (pv 1))) (fun cl C fp s H=>pv 0))
  (YW (Yx (Yi (Xy hr3) (pv 5) (VD VT) (Yq _)) (YZ (Yf (Yt DC hr (pa5 (pv 0) (pv 1) (pv 2) (pv 3) (pv 4))))) Yl)
  (YW (Yp 6 TJ.nd (Yd Yv (pv 5) (Yt DT hr (pa2 (pv 0) (Y0 Yu rfl B.len Zs (pa1 (pv 5))))) (fun _ _=>rfl)))
  (YW (Yp 7 TJ.nd (Y4 JN rfl B.list Vc (pa1 (Yz hu (pv 1) Yn (fun _ _=>rfl)))))
  (YW (JB (UR Zx PySem.F.slot_list_remove PySem.F.type_list_remove E3 (pv 7) (pa1 (pv 6))))
  (YW (VW hu (pv 1) Yn (pv 7) rfl)
  (YW (Yp 8 TJ.nd (Yd Yv (Y4 (UA rfl) rfl B.list Vc (pa1 (Yz hu (pv 1) Yn (fun _ _=>rfl)))) (Yt DT hr (pa2 (pv 0) (Y0 FQ rfl B.len Zs (pa1 (Yz hu (pv 1) Yn (fun _ _=>rfl)))))) (fun _ _=>rfl)))
  (YW (Yp 9 TJ.nd (Y4 Uw rfl B.dict JF (pa1 (pv 2))))
  (YW (We (VW hu (pv 9) (pv 6) (pv 8) rfl))
  (YW (Yp 10 TJ.nd (Yt DB hr (pa5 (pv 0) (pv 1) (pv 9) (pv 8) (Y2 Jv (pv 4) YX))))
  (YZ (Yf (Yw (pa5 Yn (pv 6) (pv 8) (pv 10) (Yt DB hr (pa5 (pv 0) (pv 1) (pv 9) (pv 3) (Y2 Jv (pv 4) YX)))))))))))))))),?_⟩
 dsimp only[JV,Cx.nox,Cx.wish];show let a:=_;let b:=Yj _ a;let c:=Yj _ b;let d:=Yj _ c;let e:=Yj _ d;let f:=Yj _ e;let g:=Yj _ f;let h:=Yj _ g;let i:=Yj _ h;let j:=_;let k:=Yj (Y9 _ j _) i;Yj _ k _ _ _
 intros
 have en:(((n+1:Nat):Int)-1)=((n:Nat):Int):=by exact Ik
 obtain⟨sA,hA,u,nn,hW,hS,hH,hL,l3⟩:=id hw;obtain⟨o,G,h1,h2,h3⟩:=id hS;obtain⟨oA,G3,ha2,ha3⟩:=id ha;have kl:=WH h2;have lls:(u.map V.str).length=u.length:=ZA _;refine⟨_,Wr.lets hW,⟨_,Z1 hL⟩,?_⟩;refine UN u.length (Ye (by exact C8 l3)) (fun i vs H'=>H'=H/\vs.length<=i/\∃O:List Str,vs=O.map V.str/\∀z∈O,z∈u/\Y8 Y (Sum.inr z)=none) ⟨rfl,ZF _,[],rfl,(fun z hz=>nomatch hz)⟩ (fun i vs H' z=>z.2.1) ?_ ?_ ?_ ?_
 .rintro i vs H' hi ⟨rfl,_⟩
  exact⟨_,.str u[i],Z1 hL,by rw[ZG,ZC hi];rfl⟩
 .rintro vs H' ⟨rfl,_⟩
  exact⟨_,Z1 hL,by omega⟩
 .rintro i vs H' x H'' R hi ⟨rfl,z2,O,rfl,z4⟩ yl rT rF
  obtain⟨rfl,yy⟩:=yl;obtain⟨x,hxm,rfl⟩:=U7 (yy _ (Z1 hL));refine⟨_,.inl ⟨Y,Sum.inr x,.inr ⟨oA,G3⟩,rfl,rfl⟩,_,rfl,?_⟩;refine Vq (fun c1=>rT _ _ ⟨rfl,by simp at z2 |-;omega,O++[x],by rw[ZI];rfl,fun z hz=>?_⟩) (fun c1=>rF _ ⟨rfl,by exact Ek z2,O,rfl,z4⟩);rcases ZV.mp hz with hz|hz
  .exact z4 z hz
  .cases ZO.mp hz
   exact⟨hxm,SB c1⟩
 rintro vs H' r1 ⟨rfl,z2,O,rfl,z4⟩ hr1;have ll:(O.map V.str).length=O.length:=ZA _;refine up_in hr1 _ fun H1 s1 g1=>?_;refine⟨sl 0,fun e1 he1=>?_⟩;have s2:=Yb he1 (.lst []);have g2:=s2 _ _ g1;have ge:upd H1 e1 (.lst []) e1=some (.lst []):=YY;generalize upd H1 e1 (.lst [])=H2 at s2 g2 ge |-;have N:=s1.trans s2;have J2:=hs.sm N;have wr2:=hw.mono N;refine⟨.lst (O.map Dat.str),.lst [],MW g2,JD ge Z4,J3 _,_,rfl,?_⟩;rw[Te]
 cases O with
 |nil=>
  refine VJ (by simp) ?_;exact⟨p,Z,a,lA,y,ks,G2,Y,c,d,m,rfl,J2,wr2,ha.mono N (ZF _),hm,kk,k6,hy,q.go N.gb (.inl rfl)⟩
 |cons n1 O=>
  have l1:((n1::O).map V.str).length=O.length+1:=by simp
  rw[l1]at z2;refine Y1 (by simp) ?_;refine⟨r1,_,rfl,.inl (Z1 g2),p,_,rfl,J2,by exact OB l1,by omega,fun r H3 r0 I7 b3 s3=>?_⟩;obtain⟨mm,v,hv1,hv2⟩:=Jq r0 I7;obtain⟨M,F2,rfl⟩:=U7 hv1;have gb3:GB p Z H2 H3:=b3.sb.gb;have F9:GB p Z H' H3:=N.gb.trans gb3;have wr3:=wr2.sb b3.sb J2;have R3:=b3.sb _ _ (hw.ne hs) (N _ _ hW);have hL3:=b3.sb _ _ (JA hs hL) (N _ _ hL);refine⟨_,_,Z1 (b3.sb _ _ (JA J2 g2) g2),hv2,?_⟩;refine⟨_,Wr.lets R3,lA,_,rfl,.inl (Z1 hL3),fun J T=>?_⟩;refine up_in T _ fun H4 s4 g4=>?_;obtain⟨j,hj,hno⟩:=NR (z4 M F2).1;refine⟨.inl ⟨rfl,_,Z1 g4⟩,J,u,M,j,rfl,rfl,g4,hj,hno,?_⟩;have s5:Same H3 (upd H4 J (.lst ((u.eraseIdx j).map V.str))):=s4.putN T;have g5:upd H4 J (.lst ((u.eraseIdx j).map V.str)) J=some (.lst ((u.eraseIdx j).map V.str)):=YY;generalize upd H4 J (.lst ((u.eraseIdx j).map V.str))=H5 at s5 g5 |-;have I4:=wr3.mono s5;have F4:=s5 _ _ R3;refine⟨_,Ja.k (k:=Sum.inr "lets") F4 (Ye (by show 4<=1000;decide)),?_⟩;rw[La];have N6:Wr (upd H5 Z (wrD sA hA J nn)) Z ks G2 J:=I4.set F4 nn g5 (by have:=List.length_eraseIdx_le u j;exact QK this l3);have R1:upd H5 Z (wrD sA hA J nn) Z=some (wrD sA hA J nn):=YY;have F7:GB p Z H5 (upd H5 Z (wrD sA hA J nn)):=FD;have S:VE (upd H5 Z (wrD sA hA J nn)) p:=(s3.sm s5).keep (Ya (Zq (hw.ne hs)));show Yj _ _ _ _ (upd H5 Z (wrD sA hA J nn));generalize upd H5 Z (wrD sA hA J nn)=H6 at N6 R1 F7 S |-;have R4:GB p Z H' H6:=(F9.trans s5.gb).trans F7;have np4:J≠p:=s3.ne T;have I9:J≠Z:=fun e=>by rw[e,R3]at T;cases T
  have ln6:LN H' lA J:=.inr (F9.free np4 I9 T);have F5:=R4 _ _ (Vx hs h1) (hw.ne_frz h1) h1;have N8:=R4 _ _ (Vx hs G3) (hw.ne_frz G3) G3;refine⟨_,Wr.shapes R1,sA,G,rfl,.inr ⟨o,F5⟩,fun l7 F3=>?_⟩;have D:=Yb F3 (.lst (G.map fun Y=>kV Y.1));have g7:upd H6 l7 (.lst (G.map fun Y=>kV Y.1)) l7=some (.lst (G.map fun Y=>kV Y.1)):=YY;have S2:l7≠p:=S.ne F3;generalize upd H6 l7 (.lst (G.map fun Y=>kV Y.1))=H7 at D g7 |-;have T0:0<ks.length:=by obtain⟨k,hk,_⟩:=ZU.mp hy;exact List.length_pos_of_mem hk
  refine⟨_,Wr.shapes (D _ _ R1),sA,G,rfl,.inr ⟨o,D _ _ F5⟩,p,_,rfl,S.sm D,by exact Wx kl T0,by exact RU kl k6,fun r8 H8 I6 I5 b8 s8=>?_⟩;obtain⟨m8,v8,Z8,hv4⟩:=Jq (xs:=G.map fun Y=>kV Y.1) I6 (by rw[ZA];exact I5)
  obtain⟨own,ho,rfl⟩:∃own,own∈ks.map (·.1)/\v8=.str own:=by
   rw[ZG]at Z8
   cases ek:G[m8]? with
   |none=>rw[ek]at Z8;cases Z8
   |some kv1=>
    rw[ek]at Z8;obtain⟨x,s,hx,e2⟩:=Wl h2 ek;refine⟨x,ZU.mpr ⟨(x,s),ZH hx,rfl⟩,?_⟩;have:=(ZP Z8).symm;rw[this];show kV kv1.1=_;rw[e2];rfl
  refine⟨_,_,Z1 (b8.sb _ _ S2 g7),hv4,?_⟩;have F6:GB p Z H7 H8:=b8.sb.gb;have I3:=(N6.mono D).sb b8.sb (S.sm D);have ha8:=F6 _ _ (Vx (S.sm D) (D _ _ N8)) ((N6.mono D).ne_frz (D _ _ N8)) (D _ _ N8);refine⟨a,Y,rfl,.inr ⟨oA,ha8⟩,fun l N7=>?_⟩;refine up_in N7 _ fun H9 s9 g9=>?_;refine⟨_,Ja.k (k:=Sum.inr M) g9 (Ye (by omega)),l,_,YY,fun t=>?_⟩;have G1:Same H8 (upd (upd H9 l (.dK (putK Y (Sum.inr M) (.str own)))) l (.frz t (.dK (putK Y (Sum.inr M) (.str own))))):=(s9.putN N7).putN N7;have F8:upd (upd H9 l (.dK (putK Y (Sum.inr M) (.str own)))) l (.frz t (.dK (putK Y (Sum.inr M) (.str own)))) l=some (.frz t (.dK (putK Y (Sum.inr M) (.str own)))):=YY;generalize upd (upd H9 l (.dK (putK Y (Sum.inr M) (.str own)))) l (.frz t (.dK (putK Y (Sum.inr M) (.str own))))=H10 at G1 F8 |-
  have N5:AF H10 l (ks.map (·.1)) (m+1) (putK Y (Sum.inr M) (.str own)):=⟨t,F8,by have:=WB Y (Sum.inr M) (.str own);omega,fun k1 hk=>by
   rcases Tc hk with z|z
   .exact ha3 k1 z
   .exact ⟨M,own,z,ho⟩⟩
  have N2:=s8.sm G1;have N0:=I3.mono G1;have N4:GB p Z H' H10:=((R4.trans D.gb).trans F6).trans G1.gb;have lnA:LN H' lA J:=ln6;refine⟨p,Z,l,J,own,ks,G2,_,c,d,m+1,by dsimp only;rw[en];rfl,N2,N0,N5,by exact QJ hm,kk,k6,ho,fun u1 H11 b1 l11 Z9 N1 L2 R8 F1 R6 I2 D0=>?_⟩;refine⟨p,Z,l,l11,y,ks,G2,_,c,d,m+1,by dsimp only;rw[en];rfl,N1,L2,N5.gb Z9 N2 N0,by exact QJ hm,kk,k6,hy,fun u2 H12 b2 l12 N3 U I R7 D3 R5 I1 T2=>?_⟩;refine⟨sl 5,fun t3 ht3=>?_⟩;have X:=Yb ht3 (.tup [.str "let",.str M,.str own,u1,u2]);refine q _ _ (.letb M own b1 b2) l12 (((N4.trans Z9).trans N3).trans X.gb) (U.sm X) (I.mono X) (lnA.trans (R8.trans R7 Z9 U I) N4 U I) ?_ (by unfold Bd.ok;exact⟨R6,R5⟩) (by unfold Bd.dep;exact Q3 I2 I1) (Kd.letb (z4 M F2).2 ho D0 T2);unfold Bd.dat;exact Yy YY (Z2 Y5 (Z2 Y5 (Z2 Y5 (Z2 ((VF (N3.tk N1 L2) _ (Bd.st _) F1).mono X) (Z3 (D3.mono X))))))
end
section
theorem TN:Yr ["stream","world","around","kind","deep","way","shape","one"] ["stream","world","around","kind","deep"] (Yh Mx):=Y7
theorem Kl(F:Fun K "_law_body" "_law_body" Mx f fd)(l:Df P w K mg base L "_law_plain" ["stream","world","around","kind"] (Jc 3)):Yo P w K mg base CX0 (L+1) f fd gps (spG 0):=by
 refine F.oq TN fun r A B s H b Q E j h=>?_;obtain⟨p,Y,a,Z,y,U,O,t,c,d,m,rfl,I,T,g,i,C,o,X,q⟩:=h;have D:=V1 j;refine⟨_,YW (VW D (pv 1) Yn (Y2 Jv (Yz D (pv 1) Yn (fun _ _=>rfl)) YX) rfl)
  (YW (Yx (PW.pt (UK (Yi VB (pv 4) YX (Yq _)) (Js (Yi M8 (Yz D (pv 1) Yn (fun _ _=>rfl)) YX (Yq _))))) (YZ (Yf (Yt l j (pa4 (pv 0) (pv 1) (pv 2) (pv 3))))) Yl)
  (YW V8 (YW V8 (YW V8 (YW V8 (YW V8 (YW V8 (YW V8 (YZ V8))))))))),?_⟩
 obtain⟨N,R,e,G,S,n,x,u,z⟩:=id T;have v:=C.small X;refine⟨_,Wr.left S,_,Ja.k (k:=Sum.inr "left") S (Ye (by show 4<=1000;decide)),?_⟩;rw[DU];have wr1:Wr (upd H Y (wrD N R Z (G-1))) Y U O Z:=T.set S (G-1) u z;have J:GB p Y H (upd H Y (wrD N R Z (G-1))):=FD;have M:VE (upd H Y (wrD N R Z (G-1))) p:=I.keep (Ya (Zq (T.ne I)));show Yj _ _ _ _ (upd H Y (wrD N R Z (G-1)));generalize upd H Y (wrD N R Z (G-1))=H1 at wr1 J M |-;refine⟨rfl,_,rfl,VJ (by decide) (VJ rfl ?_)⟩;exact⟨p,Y,a,Z,y,U,O,t,c,d,rfl,M,wr1,(g.gb J I T).mono (Z6 _) (by omega),C,X,by exact oq0 v,(q.go J (.inl rfl)).le (by omega)⟩
theorem Of(F:Fun K "_law_body" "_law_body" Mx f fd)(DT:Df P w K mg base L "_law_take" ["stream","many"] JE)(DP:Df P w K mg base L "_law_plain" ["stream","world","around","kind"] (Jc 3))(DC:Df P w K mg base L "_law_choose" gps (spG (n+1)))(DR:Df P w K mg base L "_law_part" gps (spG (n+1)))(DL:Df P w K mg base L "_law_let" gps (spG (n+1)))(DA:Df P w K mg base L "_law_ask" gps (spG (n+1)))(DB:Df P w K mg base L "_law_body" gps (spG n)):
  Yo P w K mg base CX0 (L+1) f fd gps (spG (n+1)):=by
 refine F.oq TN fun F2 A N0 s H vs Q E O h=>?_;obtain⟨p,Y,a,J,y,R,Z,S,c,d,m,rfl,hs,hw,ha,C,N,k6,U,q⟩:=h;have hu:=V1 O;refine⟨_,YW (VW hu (pv 1) Yn (Y2 Jv (Yz hu (pv 1) Yn (fun _ _=>rfl)) YX) rfl)
  (YW (Yx (PW.pt (UK (Yi VB (pv 4) YX (Yq _)) (Js (Yi M8 (Yz hu (pv 1) Yn (fun _ _=>rfl)) YX (Yq _))))) (YZ (Yf (Yt DP O (pa4 (pv 0) (pv 1) (pv 2) (pv 3))))) Yl)
  (YW (Yp 5 TN.nd (Yt DT O (pa2 (pv 0) YX)))
  (YW (Yx (Yi VB (pv 5) YX (Yq _)) (YZ (Yf (Yt DP O (pa4 (pv 0) (pv 1) (pv 2) (pv 3))))) Yl)
  (YW (Yx (Yi M8 (pv 5) YX (Yq _)) (YZ (Yf (Yt DC O (pa5 (pv 0) (pv 1) (pv 2) (pv 3) (pv 4))))) Yl)
  (YW (Yx (Yi M8 (pv 5) YX (Yq _)) (YZ (Yf (Yt DR O (pa5 (pv 0) (pv 1) (pv 2) (pv 3) (pv 4))))) Yl)
  (YW (Yx (Yi VB (pv 5) YX (Yq _)) (YZ (Yf (Yt DL O (pa5 (pv 0) (pv 1) (pv 2) (pv 3) (pv 4))))) Yl)
  (YW (Yp 6 TN.nd (Yz hu (Yz hu (pv 1) Yn (fun _ _=>rfl)) (pv 3) (fun _ _=>rfl)))
  (YW (Yx (PW.pt (JU (Yi VB (Yd Yg (pv 6) YX) Yn (Yq _)) (JH (Yi VB (pv 5) YX (Yq _)))))
   (YW (Yp 7 TN.nd (Yt DB O (pa5 (pv 0) (pv 1) (pv 2) (Yd Yg (pv 6) YX) (Y2 Jv (pv 4) YX))))
   (YZ (Yf (Yw (pa3 Yn (pv 7) (Yt DB O (pa5 (pv 0) (pv 1) (pv 2) (Yd Yg (pv 6) YX) (Y2 Jv (pv 4) YX)))))))) Yl)
  (YZ (Yf (Yt DA O (pa5 (pv 0) (pv 1) (pv 2) (pv 3) (pv 4))))))))))))),?_⟩
 dsimp only[JV,Cx.nox,Cx.wish];show let a:=_;let b:=_;let c:=Yj _ b;let d:=Yj (Y9 _ c _) a;let e:=Yj _ d;let f:=_;let g:=Yj (Y9 _ f _) e;let h:=_;let i:=Yj (Y9 _ h _) g;let j:=_;let k:=Yj (Y9 _ j _) i;let l:=_;let m:=Yj (Y9 _ l _) k;let n:=Yj _ m;let o:=_;let p:=Yj (Y9 _ o _) n;Yj _ p _ _ _
 intros
 obtain⟨X,x,ls,I,hW,hS,hH,hL,l3⟩:=id hw;have en:(((n+1:Nat):Int)-1)=((n:Nat):Int):=by exact Ik
 have dy:=N.small U;refine⟨_,Wr.left hW,_,Ja.k (k:=Sum.inr "left") hW (Ye (by show 4<=1000;decide)),?_⟩;rw[DU];have wr1:Wr (upd H Y (wrD X x J (I-1))) Y R Z J:=hw.set hW (I-1) hL l3;have B:GB p Y H (upd H Y (wrD X x J (I-1))):=FD;have M:VE (upd H Y (wrD X x J (I-1))) p:=hs.keep (Ya (Zq (hw.ne hs)));have G1:upd H Y (wrD X x J (I-1)) Y=some (wrD X x J (I-1)):=YY;show Yj _ _ _ _ (upd H Y (wrD X x J (I-1)));generalize upd H Y (wrD X x J (I-1))=H1 at wr1 B M G1 |-;have L2:=ha.gb B hs hw;refine⟨rfl,_,rfl,Y1 (fun z=>by have:=Zr z;injection this;omega) ?_⟩;refine⟨_,Wr.left G1,_,rfl,?_⟩;refine Vq (fun c0=>?_) (fun c0=>?_)
 .exact ⟨p,Y,a,J,y,R,Z,S,c,d,rfl,M,wr1,L2.mono (Z6 _) (by exact Q2 C),N,U,by exact oq0 dy,(q.go B (.inl rfl)).le (by exact Q1 dy)⟩
 refine⟨p,12,rfl,M,by decide,by decide,fun r H2 r0 r1 b2 D=>?_⟩;have G3:GB p Y H1 H2:=b2.sb.gb;have wr2:=wr1.sb b2.sb M;have G:=L2.gb G3 M wr1;have q2:=q.go (B.trans G3) (.inl rfl);refine⟨rfl,_,rfl,?_⟩;refine Vq (fun c1=>?_) (fun c1=>?_)
 .exact ⟨p,Y,a,J,y,R,Z,S,c,d,rfl,D,wr2,G.mono (Z6 _) (by exact Q2 C),N,U,by exact oq0 dy,q2.le (by exact Q1 dy)⟩
 refine⟨_,rfl,?_⟩;refine Vq (fun c2=>?_) (fun c2=>?_)
 .exact ⟨p,Y,a,J,y,R,Z,S,c,d,m,rfl,D,wr2,G,C,N,k6,U,q2⟩
 refine⟨_,rfl,?_⟩;refine Vq (fun c3=>?_) (fun c3=>?_)
 .exact ⟨p,Y,a,J,y,R,Z,S,c,d,m,rfl,D,wr2,G,C,N,k6,U,q2⟩
 refine⟨rfl,_,rfl,?_⟩;refine Vq (fun c4=>?_) (fun c4=>?_)
 .exact ⟨p,Y,a,J,y,R,Z,S,c,d,m,rfl,D,wr2,G,C,N,k6,U,q2⟩
 have ask:spG (n+1) [.ref p,.ref Y,.ref a,.str y,.int ((n+1:Nat):Int)] H2 Q E0:=⟨p,Y,a,J,y,R,Z,S,c,d,m,rfl,D,wr2,G,C,N,k6,U,q2⟩;obtain⟨sh,u⟩:=Vw U;obtain⟨T2,F1,D3,D0,R5,R6,_⟩:=id wr2;obtain⟨o,N7,h1,h2,h3⟩:=id R6;obtain⟨v,hv,J2⟩:=h3 y sh u;have k1:=N.at u;refine⟨_,Wr.shapes R5,v,.inl ⟨N7,Sum.inr y,.inr ⟨o,h1⟩,rfl,hv.symm⟩,?_⟩
 cases sh with
 |tags ts=>
  obtain⟨ps,l,rfl,hp,hl⟩:=JO J2;refine⟨_,_,Z0 hp,rfl,rfl,_,rfl,Y1 (by decide +kernel) (Y1 (by decide) ?_)⟩;exact ask
 |pair e g=>
  obtain⟨t1,t2,t3,t4,t5,t6⟩:=k1;obtain⟨ps,rfl,hp⟩:=V2 J2;refine⟨_,_,Z0 hp,rfl,rfl,_,rfl,VJ (by decide +kernel) ?_⟩;refine⟨rfl,_,rfl,?_⟩;refine Vq (fun c5=>?_) (fun c5=>ask);refine⟨_,_,Z0 hp,rfl,p,Y,a,J,e,R,Z,S,c,d,m,by dsimp only;rw[en];rfl,D,wr2,G,by exact Ej C,N,k6,t1,fun u1 H3 b1 N6 T Z9 wr3 N4 R4 N2 R8 R1=>?_⟩;refine⟨_,_,Z0 (T.tk D wr2 _ _ hp),rfl,p,Y,a,N6,g,R,Z,S,c,d,m,by dsimp only;rw[en];rfl,Z9,wr3,G.gb T D wr2,by exact Ej C,N,k6,t2,fun u2 H4 T0 N5 G2 Z8 wr4 N3 R3 N1 R7 N8=>?_⟩;refine⟨sl 3,fun t ht=>?_⟩;have s5:=Yb ht (.tup [.str "pair",u1,u2]);refine q2 _ _ (.pair b1 T0) N5 ((T.trans G2).trans s5.gb) (Z8.sm s5) (wr4.mono s5) (N4.trans N3 T Z8 wr4) ?_ (by unfold Bd.ok;exact⟨N2,N1⟩) (by unfold Bd.dep;exact Q3 R8 R7) (Kd.pair u R1 N8);unfold Bd.dat;exact Yy YY (Z2 Y5 (Z2 ((VF (G2.tk Z9 wr3) _ (Bd.st _) R4).mono s5) (Z3 (R3.mono s5))))
end
section
theorem Bh:Yo P w K mg base CX0 L f fd ["stream","world","around","kind"] (Jc 0):=.none fun Z H Q E h=>by
 obtain⟨_,_,_,_,_,_,_,_,_,_,_,_,_,_,_,_,Y,_⟩:=h;exact Zu _ Y
theorem Tf(B:Blt mg)(J:∀n,Df P w K mg base (n+2) "_law_take" ["stream","many"] JE)(F:Fun K "_law_plain" "_law_plain" TV f fd)(Z:Binds K fd ["stream","world","around","kind"] [])(Y:mg "_law_plain"=some (.ref f)):
  ∀n,Yo P w K mg base CX0 (0+3+n) f fd ["stream","world","around","kind"] (Jc n)
 |0=>Bh
 |n+1=>KQ (L:=0) B F ((J (1+n)).up (by omega)) (Tf B J F Z Y n) Z Y
theorem O3(B:Blt mg)(Y:∀n,Df P w K mg base (n+2) "_law_take" ["stream","many"] JE)(U:Fun K "_law_plain" "_law_plain" TV fP dP)(A:Binds K dP ["stream","world","around","kind"] [])(T:mg "_law_plain"=some (.ref fP))(M:Fun K "_law_some" "_law_some" Dm fS dS)(F:Binds K dS gps [])(R:mg "_law_some"=some (.ref fS))(X:Fun K "_law_choose" "_law_choose" GZ fC dC)(g:Binds K dC gps [])(z:mg "_law_choose"=some (.ref fC))(Q:Fun K "_law_ask" "_law_ask" Lz fA dA)(k:Binds K dA gps [])(q:mg "_law_ask"=some (.ref fA))(S:Fun K "_law_part" "_law_part" MM fR dR)(t:Binds K dR gps [])(j:mg "_law_part"=some (.ref fR))(C:Fun K "_law_let" "_law_let" Ly fL dL)(m:Binds K dL gps [])(y:mg "_law_let"=some (.ref fL))(N:Fun K "_law_body" "_law_body" Mx fB dB)(I:Binds K dB gps [])(D:mg "_law_body"=some (.ref fB)):
  ∀n,Df P w K mg base (8+4*n) "_law_some" gps (spG n)/\Df P w K mg base (8+4*n) "_law_body" gps (spG n):=by
 have Z:Df P w K mg base 6 "_law_plain" ["stream","world","around","kind"] (Jc 3):=⟨fP,dP,T,U.kp,A,Tf B Y U A T 3⟩;intro n
 induction n with
 |zero=>
  have J:Df P w K mg base 7 "_law_body" gps (spG 0):=⟨fB,dB,D,N.kp,I,Kl N Z⟩;exact⟨⟨fS,dS,R,M.kp,F,D9 M (Y 5) (Z.up (by decide)) J⟩,J.up (by decide)⟩
 |succ n ih=>
  obtain⟨E,G⟩:=ih;have O:Df P w K mg base (8+4*n+1) "_law_choose" gps (spG (n+1)):=⟨fC,dC,z,X.kp,g,Ey B X ((Y (6+4*n)).up (by exact C7)) E G⟩;have d:Df P w K mg base (6+4*n+2+1) "_law_ask" gps (spG (n+1)):=⟨fA,dA,q,Q.kp,k,SA (L:=6+4*n) B Q ((Y (6+4*n)).up (by exact C6)) (Z.up (by exact C5)) (E.up (by exact C4))⟩;have p:Df P w K mg base (6+4*n+3+1) "_law_part" gps (spG (n+1)):=⟨fR,dR,j,S.kp,t,KS (L:=6+4*n) B S ((Y (7+4*n)).up (by exact QI)) (O.up (by exact QH)) (G.up (by exact QG))⟩;have c:Df P w K mg base (6+4*n+3+1) "_law_let" gps (spG (n+1)):=⟨fL,dL,y,C.kp,m,Q8 (L:=6+4*n) B C ((Y (7+4*n)).up (by exact QI)) (O.up (by exact QH)) (G.up (by exact QG))⟩;have J:Df P w K mg base (10+4*n+1) "_law_body" gps (spG (n+1)):=⟨fB,dB,D,N.kp,I,Of (L:=10+4*n) N ((Y (8+4*n)).up (by exact C3)) (Z.up (by exact C2)) (O.up (by exact C1)) (p.up (by exact QF)) (c.up (by exact QF)) (d.up (by exact C0)) (G.up (by exact Cz))⟩;exact⟨⟨fS,dS,R,M.kp,F,(D9 (L:=11+4*n) M ((Y (9+4*n)).up (by exact Cy)) (Z.up (by exact Cw)) (J.up (by exact Cv))).mono (by exact Cu)⟩,J.up (by exact Ct)⟩
end
end K4
namespace L2
open PySem
abbrev Hd:=Str×List (Str×Str)×Str
def WdS(y:Str):Prop:=1<=y.length/\y.length<=8/\∀c∈y.cps.toList,97<=c/\c<97+26
def JL(c:Str->Nat)(ps:List (Str×Str)):Nat:=ps.foldl (fun r p=>r*c p.2) 1
theorem Xw(c:Str->Nat)(ps:List (Str×Str))(p:Str×Str):JL c (ps++[p])=JL c ps*c p.2:=by unfold JL;rw[List.foldl_append];rfl
structure Nd(ns:List Str)(c:Str->Nat)(top:Nat)(h:Hd):Prop where
 len:h.2.1.length<=3
 kin:∀p∈h.2.1,p.2∈ns
 own:h.2.2∈ns
 nd:(h.2.1.map (·.1)).Nodup
 spl:∀p∈h.2.1,WdS p.1
 rows:JL c h.2.1<=top
def HL(H:Hp)(kvs:List (Key×V))(hs:List Hd):Prop:=kvs.map (·.1)=hs.map (fun h=>(Sum.inr h.1:Key))/\HasL H (kvs.map (·.2)) (hs.map fun h=>hdD h.2.1 h.2.2)
theorem K6:∀Y:List Hd,Dat.sts (Y.map fun h=>hdD h.2.1 h.2.2)=true
 |[]=>by unfold List.map Dat.sts;rfl
 |h::Y=>by rw[ZT];unfold Dat.sts;rw[K6 Y,Jw];rfl
theorem HL.tk(h:HL H kvs hs)(t:TK H H'):HL H' kvs hs:=⟨h.1,VG t _ (K6 hs) h.2⟩
theorem HL.len(h:HL H kvs hs):kvs.length=hs.length:=by
 have e:=congrArg List.length h.1;rw[ZA,ZA]at e;exact e
theorem HL.snoc(h:HL H kvs hs)(g:Has H v (hdD ps k)):HL H (kvs++[(Sum.inr f,v)]) (hs++[(f,ps,k)]):=by
 refine⟨by rw[ZI,ZI,h.1];rfl,?_⟩;rw[ZI,ZI];exact Z5 h.2 (Z3 g)
theorem XU{kvs:List (Key×V)}(h:k∉kvs.map (·.1)):Y8 kvs k=none:=by
 unfold Y8
 rw[List.find?_eq_none.mpr (fun Y Z=>by
  intro z;exact h (ZU.mpr ⟨Y,Z,Zr z⟩))]
 rfl
theorem Xk{ys:List Str}(Y:ys.Nodup)(h:ys[i]?=some y):y∉ys.take i:=by
 have e:=take_snoc h;have s:(ys.take i++[y]).Nodup:=by rw[<-e];exact Y.sublist (List.take_sublist _ _)
 exact fun z=>(List.nodup_append.mp s).2.2 y z y (ZO.mpr rfl) rfl
theorem Lh{ys:List Str}{m:Nat}(h:(ys.map V.str)[m]?=some v):∃y,ys[m]?=some y/\v=.str y:=by
 rw[ZG]at h
 cases e:ys[m]? with
 |none=>rw[e]at h;cases h
 |some y=>rw[e]at h;exact⟨y,rfl,(ZP h).symm⟩
theorem Wds.wdS(w:Wds 97 ys)(h:y∈ys):WdS y:=⟨(w.len y h).1,(w.len y h).2,w.abc y h⟩
theorem zR(g:GB p q H H')(G:H p=some u)(J:H q=some v)(Z:∀xs,u≠.tup xs)(Y:∀xs,v≠.tup xs):TK H H':=fun b xs h=>g b _ (fun e=>by rw[e,G]at h;exact Z xs (ZP h)) (fun e=>by rw[e,J]at h;exact Y xs (ZP h)) h
theorem VE.at(s:VE H p):∃xs,H p=some (.lst xs):=let⟨_,_,_,_,h⟩:=s;⟨_,h⟩
theorem Ut(g:GB p q H H')(s:VE H p)(Z:H q=some v)(Y:∀xs,v≠.tup xs):TK H H':=by
 obtain⟨xs,h⟩:=s.at;exact zR g h Z (fun _ z=>by cases z) Y
theorem Qd(Z:0<=r)(Y:r<6):∃k:Nat,k<=3/\atI [V.int 0,.int 1,.int 1,.int 2,.int 2,.int 3] r=some (.int (k:Nat)):=by
 have:r=0\/r=1\/r=2\/r=3\/r=4\/r=5:=by exact QE Y Z
 rcases this with rfl|rfl|rfl|rfl|rfl|rfl
 .exact ⟨0,by decide,rfl⟩
 .exact ⟨1,by decide,rfl⟩
 .exact ⟨1,by decide,rfl⟩
 .exact ⟨2,by decide,rfl⟩
 .exact ⟨2,by decide,rfl⟩
 .exact ⟨3,by decide,rfl⟩
theorem Ge{ks:List (Str×Shp)}{m:Nat}(h:HasL H xs (ks.map Jf))(e:xs[m]?=some v):∃a u y,v=.ref a/\H a=some (.tup [.str y,u])/\y∈ks.map (·.1):=by
 obtain⟨d,Y,Z⟩:=h.get e;rw[ZG]at Y
 cases ek:ks[m]? with
 |none=>rw[ek]at Y;cases Y
 |some k=>
  rw[ek]at Y;cases Y;obtain⟨a,u,rfl,J,G⟩:=WK (y:=k.1) (s:=k.2) Z;exact⟨a,u,k.1,rfl,J,ZU.mpr ⟨k,ZH ek,rfl⟩⟩
end L2
namespace K4
open PySem L2
section
theorem Jy:Yr ["stream","kinds","counts","most","top","names","asks","name","words","rows","parameters","k","kind"] ["stream","kinds","counts","most","top"] (Yh BU):=Y7
def Ry:Sp:=fun vs H Q _=>∃(p kl cn:Addr)(most top:Nat)(ks:List (Str×Shp))(c d:Str->Nat)(xs:List V),vs=[.ref p,.ref kl,.ref cn,.int most,.int top]/\VE H p/\0<most/\most<=8/\0<top/\top<=1000/\kl≠p/\cn≠p/\H kl=some (.lst xs)/\HasL H xs (ks.map Jf)/\
 KK 30 c d ks/\0<ks.length/\ks.length<=6/\Ns H cn ks c/\∀(hA:Addr)(kvs:List (Key×V))(hs:List Hd)(H':Hp),SameB p H H'->VE H' p->H hA=none->hA≠p->H' hA=some (.dK kvs)->0<hs.length->hs.length<=8->HL H' kvs hs->Wds 97 (hs.map (·.1))->(∀h∈hs,Nd (ks.map (·.1)) c top h)->Q (.ref hA) H'
theorem Ki(B:Blt mg)(F:Fun K "_law_heads" "_law_heads" BU f fd)(DT:Df P w K mg base n "_law_take" ["stream","many"] JE)(DS:Df P w K mg base n "_law_small" ["stream","many"] XX):
  Yo P w K mg base CX0 (n+1) f fd ["stream","kinds","counts","most","top"] Ry:=by
 refine F.oq Jy fun cdv A outer s H vs Q E hr h=>?_;obtain⟨p,kl,cn,most,top,ks,c,d,xs,rfl,hs,m0,m7,t0,t3,M,C,F3,T2,kk,k0,k6,hns,q⟩:=h;have hu:=V1 hr;refine⟨_,YW (Yp 5 Jy.nd (Yt DS hr (pa2 (pv 0) (Y2 Vo YX (Yt DT hr (pa2 (pv 0) (pv 3)))))))
  (YW (Yp 6 Jy.nd JC)
  (YW (Vu Zt rfl (V5 (pv 5)) (Yk 7 Jy.nd)
   (YW (Yp 8 Jy.nd (Yt DS hr (pa2 (pv 0) YX)))
   (YW (Yp 9 Jy.nd YX)
   (YW (Yp 10 Jy.nd (VD VT))
   (YW (Vu Zt rfl (Ub rfl B.range (pa1 (Yd Yv (VD (pa6 YX YX YX YX YX YX)) (Yt DT hr (pa2 (pv 0) YX)) (fun _ _=>rfl)))) (Yk 11 Jy.nd)
    (YW (Yp 12 Jy.nd (Yd Yg (Yd Yv (pv 1) (Yt DT hr (pa2 (pv 0) (Y0 Yu rfl B.len Zs (pa1 (pv 1))))) (fun _ _=>rfl)) YX))
    (YZ (Yx (Yi XD (Y2 Jl (pv 9) (Yz hu (pv 2) (pv 12) (fun _ _=>rfl))) (pv 4) (Yq _))
     (YW (Yp 9 Jy.nd (Y2 Jl (pv 9) (Yz hu (pv 2) (pv 12) (fun _ _=>rfl))))
     (YZ (JB (UR Zx Zy Zz JK (pv 10) (pa1 (Yw (pa2 (Yd Yv (pv 8) (pv 11) (fun _ _=>rfl)) (pv 12)))))))) Yl))))
   (YZ (VW hu (pv 6) (pv 7) (Yw (pa2 (Y4 Vm rfl B.tuple Ve (pa1 (pv 10))) (Yd Yg (Yd Yv (pv 1) (Yt DT hr (pa2 (pv 0) (Y0 Yu rfl B.len Zs (pa1 (pv 1))))) (fun _ _=>rfl)) YX))) rfl)))))))
  (YZ (Yf (pv 6))))),?_⟩
 dsimp only[JV,Cx.nox,Cx.wish];show let a:=_;let b:=_;let c:=_;let d:=Yj _ c;let e:=Y9 _ d _;let f:=Yj _ e;let g:=Yj (UE _ _ f) b;let h:=Yj _ g;let i:=Yj _ h;let j:=Yj _ i;let k:=Yj (UE _ _ j) a;let l:=Yj _ k;Yj _ l _ _ _
 intros
 have lx:=T2.length;rw[ZA]at lx;refine⟨p,most,rfl,hs,by exact Ij m0,by omega,fun r H1 r0 r1 b1 s1=>?_⟩;obtain⟨rn,rfl⟩:∃m:Nat,r=m:=⟨r.toNat,by exact U1 r0⟩;refine⟨p,1+rn,(by show[V.ref p,V.int (1+(rn:Int))]=[V.ref p,V.int ((1+rn:Nat):Int)];push_cast;rfl),s1,by omega,fun nm ys H2 b2 s2 f2 np2 F2 hly N7=>?_⟩;intro J G1;have R1:SameB p H H2:=b1.sb.trans b2;have s3:=Yb G1 (.dK []);have g3:upd H2 J (.dK []) J=some (.dK []):=YY;have X:J≠p:=s2.ne G1;have fa:H J=none:=R1.free X G1;generalize upd H2 J (.dK [])=H3 at s3 g3 |-;have Z9:SameB p H H3:=R1.trans s3.sb;have G3:=s3 _ _ F2;have nma:nm≠J:=Yc F2 G1;have kla:kl≠J:=Yc F3 fa;obtain⟨kc,F4,hcv⟩:=id hns;have cna:cn≠J:=Yc F4 fa;have ly:(ys.map V.str).length=ys.length:=ZA _;refine⟨⟨_,Z1 G3⟩,?_⟩
 let I:Nat->St->Hp->Prop:=fun i U Hi=>GB p J H3 Hi/\VE Hi p/\∃Z hs,Hi J=some (.dK Z)/\HL Hi Z hs/\hs.map (fun h:Hd=>h.1)=ys.take i/\(∀h∈hs,Nd (ks.map fun k:Str×Shp=>k.1) c top h)/\∃z7 z8 z9 L2 R O,U=[some (.ref p),some (.ref kl),some (.ref cn),some (.int most),some (.int top),some (.ref nm),some (.ref J),z7,z8,z9,L2,R,O]
 refine WO (xs:=ys.map V.str) I
  ⟨GB.refl _ _ _,s2.sm s3,[],[],g3,⟨rfl,Z4⟩,rfl,(fun kv hk=>nomatch hk),_,_,_,_,_,_,rfl⟩ (fun i U Hi _ z=>Z1 (z.1 _ _ np2 nma G3)) ?_ ?_
 .rintro BB RR i x U Hi hx ⟨gi,si,Z,hs',hai,hli,lki,hpi,z7,z8,z9,L2,R,O,rfl⟩
  obtain⟨name,t,rfl⟩:=Lh hx
  have lkv:Z.length<=i:=by
   have e:=congrArg List.length lki;rw[ZA,ZL]at e;have e2:=hli.len;exact Ai e2 e
  have ilt:i<8:=by have:=(ZE.mp hx).1;omega
  refine⟨p,3,rfl,si,by decide,fun wl wy H4 b4 s4 f4 N3 D3 lwy N6=>?_⟩;refine⟨sl 0,fun G N=>?_⟩;have s5:=Yb N (.lst []);have g5:upd H4 G (.lst []) G=some (.lst []):=YY;have N2:G≠p:=s4.ne N;have F8:=b4 _ _ X hai;have npa:G≠J:=(Yc F8 N).symm;have nwl:wl≠G:=Yc D3 N;have T0:=b4 _ _ M (gi _ _ M kla (Z9 _ _ M F3));have I1:=b4 _ _ C (gi _ _ C cna (Z9 _ _ C F4));have G2:kl≠G:=Yc T0 N;have R4:cn≠G:=Yc I1 N;generalize upd H4 G (.lst [])=H5 at s5 g5 |-;refine⟨sl 6,fun sx F1=>?_⟩;have s6:=Yb F1 (.lst [.int 0,.int 1,.int 1,.int 2,.int 2,.int 3]);have g6:upd H5 sx (.lst [.int 0,.int 1,.int 1,.int 2,.int 2,.int 3]) sx=some (.lst [.int 0,.int 1,.int 1,.int 2,.int 2,.int 3]):=YY;have nsp:sx≠p:=(s4.sm s5).ne F1;generalize upd H5 sx (.lst [.int 0,.int 1,.int 1,.int 2,.int 2,.int 3])=H6 at s6 g6 |-;refine⟨p,6,rfl,(s4.sm s5).sm s6,by decide,by decide,fun r7 H7 r70 r71 b7 s7=>?_⟩;obtain⟨kN,F5,hat⟩:=Qd r70 r71;refine⟨_,_,Z1 (b7.sb _ _ nsp g6),hat,_,rfl,by exact KF,by omega,?_⟩;have T:SameB p H4 H7:=(s5.sb.trans s6.sb).trans b7.sb;have N1:=b7.sb _ _ N2 (s6 _ _ g5);have I4:=T _ _ N3 D3;have R8:=T _ _ M T0;have cn7:=T _ _ C I1;have I9:GB p J H3 H7:=(gi.trans b4.gb).trans T.gb
  have D0:HasL H7 xs (ks.map Jf):=by
   refine VG (fun b D h=>?_) _ (Vt ks) T2;have h3:=Z9 b _ (VN hs h) h;exact I9 b _ (VN hs h) (fun e=>by rw[e,fa]at h;cases h) h3
  let I:Nat->St->Hp->Prop:=fun j U Hj=>GB p G H7 Hj/\VE Hj p/\∃(D:List V)(L:List (Str×Str))(Y:Nat),Hj G=some (.lst D)/\D.length=L.length/\L.length<=j/\HasL Hj D (L.map fun p=>.tup [.str p.1,.str p.2])/\(∀p∈L,p.2∈ks.map fun k:Str×Shp=>k.1)/\(L.map fun p:Str×Str=>p.1).Sublist (wy.take j)/\Y<=1000/\(Y=JL c L/\Y<=top)/\∃R O,
   U=[some (.ref p),some (.ref kl),some (.ref cn),some (.int most),some (.int top),some (.ref nm),some (.ref J),some (.str name),some (.ref wl),some (.int (Y:Nat)),some (.ref G),R,O]
  refine WN (n:=((kN:Nat):Int).toNat) I ⟨GB.refl _ _ _,s7,[],[],1,N1,rfl,ZF _,Z4,(fun p hp=>nomatch hp),List.nil_sublist _,by decide,⟨rfl,t0⟩,_,_,rfl⟩ ?_ ?_
  .rintro BB RR j U Hj hj ⟨gj,sj,D,L,Y,hplj,lz,lp,hzs,hpn,hsub,hrw,hrc,R,O,rfl⟩
   have F7:j<3:=by exact Cr hj F5
   have R6:=gj _ _ M G2 R8;have I5:TK H7 Hj:=Ut gj s7 N1 (fun _ z=>by cases z);refine⟨kl,_,rfl,.inl (Z1 R6),p,_,rfl,sj,by exact Wx lx k0,by exact RU lx k6,fun r8 H8 r80 r81 b8 s8=>?_⟩;obtain⟨m8,v8,N5,N4⟩:=Jq r80 r81;obtain⟨ka,ku,y,rfl,J2,hy⟩:=Ge (VG I5 _ (Vt ks) D0) N5;have kc:=(kk.small hy).2;have cyv:=hcv y hy;have F9:GB p G Hj H8:=b8.sb.gb;refine⟨_,_,Z1 (b8.sb _ _ M R6),N4,_,_,Z0 (b8.sb _ _ (VN sj J2) J2),rfl,?_⟩;have cn8:=b8.sb _ _ C (gj _ _ C R4 cn7);have dg:VP H8 cn (.str y) (some (.int (c y:Nat))):=by rw[<-cyv];exact VP.k (k:=Sum.inr y) cn8
   have R5:((Y:Nat):Int)*((c y:Nat):Int)=((Y*c y:Nat):Int):=by push_cast;rfl
   have mle:Y*c y<=1000*30:=Nat.mul_le_mul hrw kc;refine⟨_,dg,.inl ⟨by exact oq7,by exact D7 hrw⟩,_,rfl,?_⟩;have N0:=b8.sb _ _ N2 hplj;refine Vq (fun c1=>?_) (fun c1=>?_)
   .have c1':((Y:Nat):Int)*((c y:Nat):Int)<=(top:Int):=Zr c1
    rw[R5]at c1';refine⟨_,dg,.inl ⟨by exact oq7,by exact D7 hrw⟩,?_⟩;have I3:=b8.sb _ _ N3 (gj _ _ N3 nwl I4);have F6:j<wy.length:=by exact Cq F7 lwy
    have aw:atI (wy.map V.str) ((0:Int)+(j:Int))=some (.str wy[j]):=by
     rw[Int.zero_add];exact Y3 (by rw[ZG,ZC F6];rfl)
    refine⟨.inl ⟨rfl,_,Z1 N0⟩,_,_,Z1 I3,aw,sl 2,fun t9 ht9=>?_⟩;refine up_in ht9 _ fun H9 s9 g9=>?_;have R3:=s9 _ _ N0;refine⟨G,D,_,rfl,rfl,R3,Ye (by exact Cp F7 lz lp),?_⟩;have u:GB p G H9 (upd H9 G (.lst (D++[.ref t9]))):=FD;have S:TK H9 (upd H9 G (.lst (D++[.ref t9]))):=Ut u (s8.sm s9) R3 (fun _ z=>by cases z);have I7:TK Hj (upd H9 G (.lst (D++[.ref t9]))):=fun b us h=>S _ _ (s9 _ _ (b8.sb _ _ (VN sj h) h));refine⟨((gj.trans F9).trans s9.gb).trans u,(s8.sm s9).keep (Ya (Zq N2)),D++[.ref t9],L++[(wy[j],y)],Y*c y,YY,by simp[lz],by simp;omega,?_,fun pr hpr=>?_,?_,by omega,⟨by rw[Xw,<-hrc.1],by omega⟩,_,_,by rw[<-R5];rfl⟩
    .rw [ZI]
     refine Z5 (VG I7 _ ?_ hzs) (Z3 (UC (S _ _ g9)));have:=Jw L "";unfold hdD Dat.st Dat.sts at this;rw[ZX]at this;have t1:=this.1;unfold Dat.st at t1;exact t1
    .rcases ZV.mp hpr with z|z
     .exact hpn pr z
     .cases ZO.mp z
      exact hy
    .rw [ZI,show wy.take (j+1)=wy.take j++[wy[j]]from take_snoc (ZC F6)]
     exact List.Sublist.append hsub (List.Sublist.refl _)
   .refine ⟨gj.trans F9,s8,D,L,Y,N0,lz,by exact Ek lp,VG (fun b us h=>b8.sb _ _ (VN sj h) h) _ ?_ hzs,hpn,hsub.trans (List.take_sublist_take_left (by exact KH)),hrw,hrc,_,_,rfl⟩
    have:=Jw L "";unfold hdD Dat.st Dat.sts at this;rw[ZX]at this;have t1:=this.1;unfold Dat.st at t1;exact t1
  .rintro U Hj ⟨gj,sj,D,L,Y,hplj,lz,lp,hzs,hpn,hsub,hrw,hrc,R,O,rfl⟩
   have lp3:L.length<=3:=by exact Co lp F5
   refine⟨G,D,rfl,.inl ⟨Z1 hplj,fun t8 ht8=>?_⟩⟩;refine up_in ht8 _ fun H8 s8 g8=>?_;have R7:=s8 _ _ (gj _ _ M G2 R8);have I8:TK H7 H8:=fun b us h=>s8 _ _ (Ut gj s7 N1 (fun _ z=>by cases z) _ _ h);refine⟨kl,_,rfl,.inl (Z1 R7),p,_,rfl,sj.sm s8,by exact Wx lx k0,by exact RU lx k6,fun r9 H9 r90 S2 b9 s9=>?_⟩;obtain⟨m9,v9,N5,N4⟩:=Jq r90 S2;obtain⟨ka,ku,y,rfl,J2,hy⟩:=Ge (VG I8 _ (Vt ks) D0) N5;have S:TK H8 H9:=fun b us h=>b9.sb _ _ (VN (sj.sm s8) h) h;refine⟨_,_,Z1 (b9.sb _ _ M R7),N4,_,_,Z0 (S _ _ J2),rfl,sl 2,fun tA htA=>?_⟩;refine up_in htA _ fun HA sA gA=>?_;have v:GB p G H7 HA:=((gj.trans s8.gb).trans b9.sb.gb).trans sA.gb;have aA7:=T _ _ X F8;have I2:=v _ _ X (Zq npa) aA7;refine⟨_,Ja.k (k:=Sum.inr name) I2 (Ye (by exact AY ilt lkv)),?_⟩;have u:GB p J HA (upd HA J (.dK (putK Z (Sum.inr name) (.ref tA)))):=FD;have N8:VE HA p:=s9.sm sA;have Z8:TK HA (upd HA J (.dK (putK Z (Sum.inr name) (.ref tA)))):=Ut u N8 I2 (fun _ z=>by cases z)
   have frH:∀b o,b≠p->b≠J->H3 b=some o->HA b=some o:=fun b o n1 n2 e=>by
    have e4:=b4 b o n1 (gi b o n1 n2 e);exact v b o n1 (Yc e4 N) (T b o n1 e4)
   have I6:TK Hi HA:=fun b us h=>by
    have e4:=b4 b _ (VN si h) h;exact v b _ (VN si h) (Yc e4 N) (T b _ (VN si h) e4)
   refine⟨fun b o n1 n2 e=>u b o n1 n2 (frH b o n1 n2 e),N8.keep (Ya (Zq X)),putK Z (Sum.inr name) (.ref tA),hs'++[(name,L,y)],YY,?_,by rw[ZI,lki,take_snoc t];rfl,fun h hh=>?_,_,_,_,_,_,_,rfl⟩
   .have ek:putK Z (Sum.inr name) (.ref tA)=Z++[(Sum.inr name,.ref tA)]:=Ua _ (XU (by
     rw[hli.1];intro z;obtain⟨h',hh',e'⟩:=ZU.mp z;have e2:h'.1=name:=Sum.inr.inj e';refine Xk N7.nd t ?_;rw[<-lki];exact ZU.mpr ⟨h',hh',e2⟩))
    refine Eq.mpr (congrArg (fun l=>HL (upd HA J (.dK (putK Z (Sum.inr name) (.ref tA)))) l (hs'++[(name,L,y)])) ek) ((hli.tk (fun b us h=>Z8 _ _ (I6 _ _ h))).snoc ?_);unfold hdD;refine Yy (Z8 _ _ gA) (Z2 (Yy (Z8 _ _ (sA _ _ (S _ _ g8))) ?_) (Z3 Y5));have:=Jw L "";unfold hdD Dat.st Dat.sts at this;rw[ZX]at this;have t1:=this.1;unfold Dat.st at t1;exact VG (fun b us h=>Z8 _ _ (sA _ _ (S _ _ (s8 _ _ h)))) _ t1 hzs
   .rcases ZV.mp hh with z|z
    .exact hpi h z
    .cases ZO.mp z
     exact⟨lp3,hpn,hy,(N6.nd.sublist (List.take_sublist _ _)).sublist hsub,fun p hp=>N6.wdS (Zi (hsub.subset (ZU.mpr ⟨p,hp,rfl⟩))),by show JL c L<=top;rw[<-hrc.1];exact hrc.2⟩
 .rintro U Hi ⟨gi,si,Z,hs',hai,hli,lki,hpi,z7,z8,z9,L2,R,O,rfl⟩
  rw[ly,List.take_length]at lki;have lh:hs'.length=ys.length:=by rw[<-lki,ZA]
  refine q J Z hs' Hi (fun b o n1 e=>gi b o n1 (Yc e fa) (Z9 b o n1 e)) si fa X hai (by exact QD lh hly) (by omega) hli (by rw[lki];exact N7) hpi
end
end K4
namespace L2
open PySem
theorem Bg:∀{ps:List (Str×Str)}{xs:List V},HasL H xs (ps.map fun p=>.tup [.str p.1,.str p.2])->∃(ts:List Addr),xs=ts.map V.ref/\T7 K H ts (ps.map fun p=>((Sum.inr p.1:Key),V.str p.2))
 |[],xs,h=>by
  obtain rfl:=Vb h;exact⟨[],rfl,rfl,fun i a k y e=>by simp at e⟩
 |q::ps,xs,h=>by
  rw[ZT]at h;obtain⟨x,r,rfl,R,O⟩:=Ym h;obtain⟨t,rfl,N⟩:=Jz R;obtain⟨ts,rfl,M,L⟩:=Bg (K:=K) O;refine⟨t::ts,rfl,by simp[M],fun i b k y G J=>?_⟩
  cases i with
  |zero=>
   have Z:some t=some b:=G;have Y:some ((Sum.inr q.1:Key),V.str q.2)=some (k,y):=J;cases Z;cases Y;exact Z0 N
  |succ i=>exact L i b k y G J
abbrev Dd:=Hd×Bd
def W6(x:Dd):Dat:=.tup [.str x.1.1,.tup (x.1.2.1.map fun p=>.tup [.str p.1,.str p.2]),.str x.1.2.2,x.2.dat]
def kvP(ps:List (Str×Str)):List (Key×V):=ps.map fun p=>((Sum.inr p.1:Key),V.str p.2)
def Vh(hs:List Hd):Hds:=fun f=>(hs.find? fun h=>decide (h.1=f)).map (·.2)
structure LX(ks:List (Str×Shp))(hs:List Hd)(x:Dd):Prop where
 kd:Kd ks (Vh hs) (kvP x.1.2.1) x.1.2.2 x.2
 ok:x.2.ok
 dep:x.2.dep<=11
theorem WC(ps:List (Str×Str)):Dat.sts (ps.map fun p=>Dat.tup [.str p.1,.str p.2])=true:=by
 have:=Jw ps "";unfold hdD Dat.st Dat.sts at this;rw[ZX]at this;have Y:=this.1;unfold Dat.st at Y;exact Y
theorem EI(x:Dd):(W6 x).st=true:=by
 unfold W6;simp[Dat.st,Dat.sts,WC,Bd.st]
theorem Md:∀ds:List Dd,Dat.sts (ds.map W6)=true
 |[]=>by unfold List.map Dat.sts;rfl
 |x::ds=>by rw[ZT];unfold Dat.sts;rw[Md ds,EI];rfl
theorem XJ(Z:(Y.map (·.1)).Nodup)(m:h∈Y):Vh Y h.1=some h.2:=by
 induction Y with
 |nil=>exact nomatch m
 |cons g Y ih=>
  rw[ZT,List.nodup_cons]at Z;unfold Vh;rw[List.find?_cons];rcases Zb.mp m with e|e
  .subst e;simp
  .have ne:¬g.1=h.1:=fun q=>Z.1 (by rw[q];exact ZU.mpr ⟨_,e,rfl⟩)
   rw[Zw ne];exact ih Z.2 e
theorem Rm:∀{kvs:List (Key×V)},(kvs.map (·.1)).Nodup->∀{Y:Key×V},Y∈kvs->Y8 kvs Y.1=some Y.2
 |[],_,Y,m=>nomatch m
 |g::kvs,nd,Y,m=>by
  rw[ZT,List.nodup_cons]at nd;unfold Y8;rw[List.find?_cons];rcases Zb.mp m with e|e
  .subst e;simp
  .have ne:¬g.1=Y.1:=fun q=>nd.1 (by rw[q];exact ZU.mpr ⟨_,e,rfl⟩)
   rw[Zw ne];exact Rm nd.2 e
theorem HL.at(h:HL H kvs hs)(Z:(hs.map (·.1)).Nodup){i:Nat}(e:kvs[i]?=some kv):∃g:Hd,hs[i]?=some g/\kv.1=Sum.inr g.1/\Has H kv.2 (hdD g.2.1 g.2.2)/\Y8 kvs (Sum.inr g.1)=some kv.2:=by
 have M:(kvs.map (·.1)).Nodup:=by
  rw[h.1];unfold List.Nodup at Z |-;rw[List.pairwise_map]at Z |-;exact Z.imp fun J q=>J (Sum.inr.inj q)
 have Y:(kvs.map (·.1))[i]?=(hs.map (fun h=>(Sum.inr h.1:Key)))[i]?:=by rw[h.1]
 rw[ZG,ZG,e]at Y
 cases eg:hs[i]? with
 |none=>rw[eg]at Y;cases Y
 |some g=>
  rw[eg]at Y;have G:kv.1=Sum.inr g.1:=ZP Y;obtain⟨d,L,N⟩:=h.2.get (show(kvs.map (·.2))[i]?=some kv.2 by rw[ZG,e];rfl);rw[ZG,eg]at L;cases L;exact⟨g,rfl,G,N,by rw[<-G];exact Rm M (ZH e)⟩
theorem VE.tkB(s:VE H p)(b:SameB p H H'):TK H H':=fun c Y h=>b c _ (VN s h) h
theorem QX(Z:0<=r)(Y:r<2):∃k:Nat,k<=2/\atI [V.int 0,.int 2] r=some (.int (k:Nat)):=by
 have:r=0\/r=1:=by exact Q5 Y Z
 rcases this with rfl|rfl
 .exact ⟨0,by decide,rfl⟩
 .exact ⟨2,by decide,rfl⟩
end L2
namespace K4
open PySem L2
section
theorem FV:bootBuiltins "min"=some (.builtin "min"):=by decide +kernel
theorem J8:Yr ["cell","most","many","top","left","stream","kinds","counts","asks","lets","definitions","f","around","world","body"] ["cell","most","many","top","left"] (Yh IO):=Y7
def Nu:Sp:=fun vs H Q _=>∃(cell:Int)(most many top:Nat)(left:Int),vs=[.int cell,.int most,.int many,.int top,.int left]/\0<most/\most<=6/\0<many/\many<=8/\30<=top/\top<=1000/\
 ∀(r kl dl:Addr)(ks:List (Str×Shp))(c d:Str->Nat)(hs:List Hd)(ds:List Dd)(xs zs:List V)(H':Hp),Same H H'->H' r=some (.tup [.ref kl,.ref dl])->H' kl=some (.lst xs)->HasL H' xs (ks.map Jf)->KK 30 c d ks->(ks.map (·.1)).Nodup->0<ks.length->ks.length<=6->KG ks->H' dl=some (.lst zs)->HasL H' zs (ds.map W6)->ds.map (·.1)=hs->0<hs.length->hs.length<=8->Wds 97 (hs.map (·.1))->(∀h∈hs,Nd (ks.map (·.1)) c top h)->(∀x∈ds,LX ks hs x)->Q (.ref r) H'
theorem Oe(B:Blt mg)(mm:mg "min"=none)(F:Fun K "_law_book" "_law_book" IO f fd)(DM:Df P w K mg base n "_law_stream" ["cell"] Gy)(DT:Df P w K mg base n "_law_take" ["stream","many"] JE)(DS:Df P w K mg base n "_law_small" ["stream","many"] XX)(DK:Df P w K mg base n "_law_kinds" ["stream","most","top"] Rv)(DH:Df P w K mg base n "_law_heads" ["stream","kinds","counts","most","top"] Ry)(DB:Df P w K mg base n "_law_body" gps (spG 9))(DP:Df P w K mg base n "_law_plain" ["stream","world","around","kind"] (Jc 3))(DZ:Df P w K mg base n "_law_size" ["body"] (U9 12)):
  Yo P w K mg base CX0 (n+1) f fd ["cell","most","many","top","left"] Nu:=by
 refine F.oq J8 fun cdv A outer s H vs Q E hr h=>?_;obtain⟨cell,most,many,top,left,rfl,m0,m6,n0,n7,t0,t3,q⟩:=h;have hu:=V1 hr;refine⟨_,YW (Yp 5 J8.nd (Yt DM hr (pa1 (pv 0))))
  (YW (Je (Yt DK hr (pa3 (pv 5) (pv 1) (Y0 (FN rfl) rfl mm FV (pa2 (pv 3) YX)))) (Vn (n:=2) rfl (Ys (Yk 6 J8.nd) (Ys (Yk 7 J8.nd) VO))))
  (YW (We (Yp 8 J8.nd (Yt DH hr (pa5 (pv 5) (pv 6) (pv 7) (pv 2) (pv 3)))))
  (YW (Yp 9 J8.nd (Yt DS hr (pa2 (pv 5) YX)))
  (YW (Je (Yd Yv (pv 9) (Yd Yv (VD (pa2 YX YX)) (Yt DT hr (pa2 (pv 5) YX)) (fun _ _=>rfl)) (fun _ _=>rfl)) (Tg (pv 9) YX set_list))
  (YW (Yp 10 J8.nd (VD VT))
  (YW (Vu Zt rfl (UL (pv 8)) (Yk 11 J8.nd)
   (YW (We (Yp 12 J8.nd (Y4 (Uj rfl) rfl B.dict JF (pa1 (Yd Yg (Yz hu (pv 8) (pv 11) (fun _ _=>rfl)) YX)))))
   (YW (We (Yp 13 J8.nd (Dy (J6 Yn (Y4 (r:=Tb K) (Ux rfl) rfl B.dict JF (pa1 (pv 6))) (J6 Yn (pv 8) (J6 Yn (pv 9) (J6 Yn (pv 4) Du)))) rfl rfl (by simp) (by decide))))
   (YW (Yp 14 J8.nd (Yt DB hr (pa5 (pv 5) (pv 13) (pv 12) (Yd Yg (Yz hu (pv 8) (pv 11) (fun _ _=>rfl)) YX) YX)))
   (YW (Yx (Yi XE (Yt DZ hr (pa1 (pv 14))) YX (Yq _))
    (YZ (Yp 14 J8.nd (Yt DP hr (pa4 (pv 5) (pv 13) (pv 12) (Yd Yg (Yz hu (pv 8) (pv 11) (fun _ _=>rfl)) YX))))) Yl)
   (YZ (JB (UR Zx Zy Zz JK (pv 10) (pa1 (Yw (pa4 (pv 11) (Yd Yg (Yz hu (pv 8) (pv 11) (fun _ _=>rfl)) YX) (Yd Yg (Yz hu (pv 8) (pv 11) (fun _ _=>rfl)) YX) (pv 14))))))))))))
  (YZ (Yf (Yw (pa2 (pv 6) (pv 10))))))))))),?_⟩
 dsimp only[JV,Cx.nox,Cx.wish];show let a:=_;let b:=_;let c:=_;let d:=Yj (Y9 _ c _) b;let e:=Yj _ d;let f:=Yj _ e;let g:=Yj _ f;let h:=Yj (UE _ _ g) a;let i:=Yj _ h;let j:=Yj _ i;let k:=Yj _ j;let l:=Yj _ k;let m:=Yj _ l;Yj _ m _ _ _
 intros
 have emin:(if(30:Int)<(top:Int)then(30:Int)else(top:Int))=((30:Nat):Int):=by split <;> omega
 refine⟨cell,rfl,fun p H1 fp b1 s1=>?_⟩;refine⟨_,_,rfl,p,most,30,by rw[emin];rfl,s1,m0,m6,by decide,fun r2 kl cn ks c d xs H2 b2 s2 f2 nr2 hr2 fkl N0 hkl hxs kk nd k0 k6 kg fcn ncp hns=>?_⟩;refine⟨_,Z0 hr2,rfl,?_⟩;refine⟨p,kl,cn,many,top,ks,c,d,xs,rfl,s2,n0,n7,by omega,t3,N0,ncp,hkl,hxs,kk,k0,k6,hns,fun M J hs H3 b3 s3 fhA C hhA lk0 F8 hp G2 N2=>?_⟩;refine⟨M,J,hhA,fun oH=>?_⟩;have b4:SameB p H2 (upd H3 M (.frz oH (.dK J))):=fun b o n e=>by rw[Ya (Yc e fhA)];exact b3 b o n e
 have g4:upd H3 M (.frz oH (.dK J)) M=some (.frz oH (.dK J)):=YY;have F5:VE (upd H3 M (.frz oH (.dK J))) p:=s3.keep (Ya (Zq C));have tk4:TK H3 (upd H3 M (.frz oH (.dK J))):=fun b us h=>by rw[Ya (fun e=>by rw[e,hhA]at h;cases h)];exact h
 have hp4:=hp.tk tk4;generalize upd H3 M (.frz oH (.dK J))=H4 at b4 g4 F5 hp4 |-;refine⟨p,3,rfl,F5,by decide,fun R O H5 b5 s5 flA F7 hlA lly wdl=>?_⟩;refine⟨sl 2,fun sx hsx=>?_⟩;have s6:=Yb hsx (.lst [.int 0,.int 2]);have g6:upd H5 sx (.lst [.int 0,.int 2]) sx=some (.lst [.int 0,.int 2]):=YY;have nsp:sx≠p:=s5.ne hsx;generalize upd H5 sx (.lst [.int 0,.int 2])=H6 at s6 g6 |-;refine⟨p,2,rfl,s5.sm s6,by decide,by decide,fun r7 H7 r70 r71 b7 s7=>?_⟩;obtain⟨kN,hkN,hat⟩:=QX r70 r71;have lA7:H7 R=some (.lst (O.map V.str)):=b7.sb _ _ F7 (s6 _ _ hlA);have kl3:kN<O.length:=by omega
 have lml:(O.map V.str).length=O.length:=ZA _;have aw:atI (O.map V.str) ((kN:Nat):Int)=some (.str O[kN]):=Y3 (by rw[ZG,ZC kl3];rfl)
 have ix2:ixN (O.map V.str).length 2=some 2:=by
  unfold ixN;rw[Zn (by decide),Zn (by omega)];rfl
 refine⟨_,_,Z1 (b7.sb _ _ nsp g6),hat,_,_,Z1 lA7,aw,R,_,2,2,rfl,rfl,lA7,ix2,?_⟩;have emap:(O.map V.str).set 2 (.str O[kN])=(O.set 2 O[kN]).map V.str:=by rw[List.map_set]
 rw[emap]
 have b8:SameB p H4 (upd H7 R (.lst ((O.set 2 O[kN]).map V.str))):=fun b o n e=>by
  rw[Ya (Yc e flA)];exact b7.sb b o n (s6 b o (b5 b o n e))
 have g8:upd H7 R (.lst ((O.set 2 O[kN]).map V.str)) R=some (.lst ((O.set 2 O[kN]).map V.str)):=YY;have F4:VE (upd H7 R (.lst ((O.set 2 O[kN]).map V.str))) p:=s7.keep (Ya (Zq F7));generalize upd H7 R (.lst ((O.set 2 O[kN]).map V.str))=H8 at b8 g8 F4 |-;refine⟨sl 0,fun T J2=>?_⟩;have s9:=Yb J2 (.lst []);have g9:upd H8 T (.lst []) T=some (.lst []):=YY;have ndp:T≠p:=F4.ne J2;have nld:R≠T:=Yc g8 J2;have kl8:=b8 _ _ N0 (b4 _ _ N0 hkl);have hA8:=b8 _ _ C g4;have S2:kl≠T:=Yc kl8 J2;have nhd:M≠T:=Yc hA8 J2;generalize upd H8 T (.lst [])=H9 at s9 g9 |-;have b49:SameB p H4 H9:=b8.trans s9.sb;have b29:SameB p H2 H9:=b4.trans b49;have F3:=F4.sm s9;have hx9:HasL H9 xs (ks.map Jf):=VG (s2.tkB b29) _ (Vt ks) hxs;have hp9:HL H9 J hs:=hp4.tk (F5.tkB b49);have F9:=hp9.len;have kl9:=s9 _ _ kl8;have I2:=s9 _ _ hA8;have lA9:=s9 _ _ g8
 have sH9:Same H H9:=fun b o e=>by
  have n1:=Yc e fp;exact b29 b o n1 (b2 b o n1 ((b1 b n1).trans e))
 have sH8:Same H H8:=fun b o e=>by
  have n1:=Yc e fp;exact b8 b o n1 (b4 b o n1 (b2 b o n1 ((b1 b n1).trans e)))
 have fdl:H T=none:=sH8.free J2;refine⟨M,oH,J,rfl,I2,?_⟩
 let I:Nat->St->Hp->Prop:=fun i U S=>GB p T H9 S/\VE S p/\∃(zs:List V)(ds:List Dd),S T=some (.lst zs)/\HasL S zs (ds.map W6)/\ds.map (fun x:Dd=>x.1)=hs.take i/\(∀x∈ds,LX ks hs x)/\∃F2 F1 D3 D0,U=[some (.int cell),some (.int most),some (.int many),some (.int top),some (.int left),some (.ref p),some (.ref kl),some (.ref cn),some (.ref M),some (.ref R),some (.ref T),F2,F1,D3,D0]
 refine EF I
  ⟨GB.refl _ _ _,F3,[],[],g9,Z4,rfl,(fun z hz=>nomatch hz),_,_,_,_,rfl⟩ (fun i U S _ z=>z.1 _ _ C nhd I2) ?_ ?_
 .rintro BB RR i kv U S hkv ⟨gi,si,zs,ds,hdi,hzi,lzi,dfi,F2,F1,D3,D0,rfl⟩
  have hkm:=ZH hkv;have i8:i<8:=by have:=(ZE.mp hkv).1;exact yM this F9 F8
  have N3:TK H9 S:=Ut gi F3 g9 (fun _ z=>by cases z);have hpi:=hp9.tk N3;obtain⟨⟨fn,ps,k⟩,hgi,ek1,hh,hv⟩:=hpi.at G2.nd hkv;have hgm:=ZH hgi;obtain⟨p3,pk,hk,N6,psw,psr⟩:=N2 _ hgm;have hfd:Vh hs fn=some (ps,k):=XJ G2.nd hgm
  have lzs:zs.length<=i:=by
   have e1:=hzi.length;have e2:=congrArg List.length lzi;rw[ZA]at e1 e2;rw[ZL]at e2;exact Ai e1 e2
  rw[ek1];dsimp only at hh hv p3 pk hk N6;generalize kv.2=v at hh hv;obtain⟨t,l,xp,rfl,ht,hl,R6⟩:=Ma hh;have G1:=gi _ _ C nhd I2;have kli:=gi _ _ N0 S2 kl9;have lAi:=gi _ _ F7 nld lA9;obtain⟨tp,rfl,F6⟩:=Bg (K:=K) R6;replace F6:T7 K S tp (kvP ps):=F6;have lps:(kvP ps).length=ps.length:=ZA _
  have ndk:((kvP ps).map (·.1)).Nodup:=by
   unfold kvP;rw[List.map_map];unfold List.Nodup at N6 |-;rw[List.pairwise_map]at N6 |-;exact N6.imp fun hab q=>hab (Sum.inr.inj q)
  have dg:∀{Hx:Hp},Hx M=some (.frz oH (.dK J))->VP Hx M (.str fn) (some (.ref t)):=fun e=>.inl ⟨J,Sum.inr fn,.inr ⟨oH,e⟩,rfl,hv.symm⟩;refine⟨_,dg G1,_,_,Z0 ht,rfl,l,tp,_,rfl,hl,F6,ndk,fun aA haA=>⟨aA,_,YY,fun oA=>?_⟩⟩;rw[W9];refine up_in haA _ fun G N5 g10=>?_
  have T2:AF G aA (ks.map (·.1)) 3 (kvP ps):=⟨oA,g10,by exact yL lps p3,fun kv I1=>by
   obtain⟨pr,hpr,e⟩:=ZU.mp I1;exact⟨pr.1,pr.2,e.symm,pk pr hpr⟩⟩
  intro L Z9;have sK:TK H9 (upd G L (.dK [])):=fun b us h=>Yb Z9 _ _ _ (N5 _ _ (N3 _ _ h));obtain⟨ts,Z,exs,prK,ek,hshK⟩:=Ue (K:=K) (VG sK _ (Vt ks) hx9);refine⟨kl,ts,Z,rfl,Z1 (by rw[<-exs];exact Yb Z9 _ _ _ (N5 _ _ kli)),prK,Gf ek nd,fun Y D=>?_⟩;have N7:Y≠L:=fun e=>by rw[e,YY]at D;cases D
  have N1:G Y=none:=by rw[Ya N7]at D;exact D
  refine ?_;refine⟨by rw[Ya (Zq N7),YY],[(Sum.inr "shapes",.ref Y),(Sum.inr "heads",.ref M),(Sum.inr "lets",.ref R),(Sum.inr "left",.int left)],rfl,by show 4<=15;decide,?_⟩;refine⟨Y,Z,by rw[Ya N7,YY],fun oS=>?_⟩
  have R1:TK (upd G L (.dK [])) (upd (upd (upd (upd G L (.dK [])) Y (.dK Z)) L (wrD Y M R left)) Y (.frz oS (.dK Z))):=fun b us h=>by
   have n1:b≠L:=fun e=>by rw[e,YY]at h;cases h
   have n2:b≠Y:=fun e=>by rw[e,D]at h;cases h
   rw[Ya n2,Ya n1,Ya n2];exact h
  have N4:Same G (upd (upd (upd (upd G L (.dK [])) Y (.dK Z)) L (wrD Y M R left)) Y (.frz oS (.dK Z))):=((((Z6 G).putN Z9).putN N1).putN Z9).putN N1;have g12:upd (upd (upd (upd G L (.dK [])) Y (.dK Z)) L (wrD Y M R left)) Y (.frz oS (.dK Z)) Y=some (.frz oS (.dK Z)):=YY;have I5:upd (upd (upd (upd G L (.dK [])) Y (.dK Z)) L (wrD Y M R left)) Y (.frz oS (.dK Z)) L=some (wrD Y M R left):=by rw[Ya (Zq N7),YY]
  show Yj _ _ _ _ (upd (upd (upd (upd G L (.dK [])) Y (.dK Z)) L (wrD Y M R left)) Y (.frz oS (.dK Z)));generalize upd (upd (upd (upd G L (.dK [])) Y (.dK Z)) L (wrD Y M R left)) Y (.frz oS (.dK Z))=H12 at N4 g12 I5 R1 |-;have tkW:=R1;have sI:Same S H12:=N5.trans N4;have R4:=si.sm sI
  have hHF:HF S M (ks.map (·.1)) (Vh hs):=⟨oH,J,G1,by exact Ac F9 F8,fun k1 I1=>by
   obtain⟨j1,hj1⟩:=List.mem_iff_getElem?.mp I1;obtain⟨g1,a1,a2,a3,_⟩:=hpi.at G2.nd hj1;have m1:=ZH a1;exact⟨g1.1,g1.2.1,g1.2.2,a2,a3,(N2 _ m1).len,(N2 _ m1).kin,(N2 _ m1).own,XJ G2.nd m1⟩⟩
  have N8:Wr H12 L ks (Vh hs) R:=⟨Y,M,_,left,I5,⟨oS,Z,g12,ek,fun y s e=>let⟨v,e1,e2⟩:=hshK y s e;⟨v,e1,VF tkW _ (Shp.st _) e2⟩⟩,hHF.mono sI,sI _ _ lAi,by rw[List.length_set];exact yK lly⟩
  have hwi:S L=none:=by
   cases e:S L with
   |none=>rfl
   |some u=>rw[N5 _ _ e]at Z9;cases Z9
  refine⟨_,dg (sI _ _ G1),_,_,Z0 (sI _ _ ht),rfl,p,L,aA,R,k,ks,Vh hs,kvP ps,c,d,3,rfl,R4,N8,T2.mono N4 (ZF _),by decide,kk,k6,hk,fun u1 H13 I3 l13 R8 R3 I4 ln13 R7 R5 T0 kd13=>?_⟩;have I8:SameB p S H13:=fun b o n e=>R8 b o n (Yc e hwi) (sI b o e);dsimp only[JG];refine VQ (fun U' H'=>∃(v:V)(b:Bd),SameB p S H'/\VE H' p/\Has H' v b.dat/\LX ks hs ((fn,ps,k),b)/\U'=[some (.int cell),some (.int most),some (.int many),some (.int top),some (.int left),some (.ref p),some (.ref kl),some (.ref cn),some (.ref M),some (.ref R),some (.ref T),some (.str fn),some (.ref aA),some (.ref L),some v]) ?_ ?_
  .rintro U' H' ⟨v,b,sb,st,hb,okb,rfl⟩
   have L2:=si.tkB sb;have dl':=sb _ _ ndp hdi;refine⟨.inl ⟨rfl,_,Z1 dl'⟩,_,dg (sb _ _ C G1),_,_,Z0 (L2 _ _ ht),rfl,_,dg (sb _ _ C G1),_,_,Z0 (L2 _ _ ht),rfl,sl 4,fun tt htt=>?_⟩;refine up_in htt _ fun HT sT gT=>?_;have dlT:=sT _ _ dl';refine⟨T,zs,_,rfl,rfl,dlT,Ye (by exact AY i8 lzs),?_⟩;have gbw:GB p T HT (upd HT T (.lst (zs++[.ref tt]))):=FD;have G3:TK HT (upd HT T (.lst (zs++[.ref tt]))):=Ut gbw (st.sm sT) dlT (fun _ z=>by cases z);refine⟨fun b o n1 n2 e=>gbw b o n1 n2 (sT b o (sb b o n1 (gi b o n1 n2 e))),(st.sm sT).keep (Ya (Zq ndp)),zs++[.ref tt],ds++[((fn,ps,k),b)],YY,?_,by rw[ZI,lzi,take_snoc hgi];rfl,fun z hz=>?_,_,_,_,_,rfl⟩
   .rw [ZI]
    refine Z5 (VG (fun b us h=>G3 _ _ (sT _ _ (L2 _ _ h))) _ (Md ds) hzi) (Z3 ?_);unfold W6;exact Yy (G3 _ _ gT) (Z2 Y5 (Z2 (Yy (G3 _ _ (sT _ _ (L2 _ _ hl))) (VG (fun b us h=>G3 _ _ (sT _ _ (L2 _ _ h))) _ (WC ps) R6)) (Z2 Y5 (Z3 (VF (fun b us h=>G3 _ _ (sT _ _ h)) _ (Bd.st _) hb)))))
   .rcases ZV.mp hz with hz|hz
    .exact dfi z hz
    .cases ZO.mp hz
     exact okb
  .intro N key
   refine⟨u1,I3,rfl,R7,R5,by exact yJ T0,by exact yI T0,fun H14 Z8=>?_⟩;refine⟨_,rfl,?_⟩;have X:SameB p S H14:=I8.trans Z8.sb;refine Vq (fun c1=>?_) (fun c1=>key _ _ ⟨u1,I3,X,R3.sm Z8,R7.mono Z8,⟨kd13,R5,by show I3.dep<=11;omega⟩,rfl⟩)
   .have wr14:=I4.mono Z8
    have I7:=R3.sm Z8;have dk:=kk.small hk;refine⟨_,dg (X _ _ C G1),_,_,Z0 (si.tkB X _ _ ht),rfl,p,L,aA,l13,k,ks,Vh hs,kvP ps,c,d,rfl,I7,wr14,((T2.mono N4 (ZF _)).gb R8 R4 N8).mono Z8 (by decide),kk,hk,by exact oq0 dk,fun u5 H15 b15 l15 gb15 I6 wr15 ln15 hu15 I9 dp15 kd15=>?_⟩;exact key _ _ ⟨u5,b15,fun b o n e=>gb15 b o n (Yc e hwi) (X b o n e),I6,hu15,⟨kd15,I9,by show b15.dep<=11;omega⟩,rfl⟩
 .rintro U S ⟨gi,si,zs,ds,hdi,hzi,lzi,dfi,F2,F1,D3,D0,rfl⟩
  refine⟨sl 2,fun t ht=>?_⟩;have sT:=Yb ht (.tup [.ref kl,.ref T]);have N3:TK H9 S:=Ut gi F3 g9 (fun _ z=>by cases z);rw[F9,List.take_length]at lzi;exact q t kl T ks c d hs ds xs zs _ (fun b o e=>sT _ _ (gi b o (Yc e fp) (Yc e fdl) (sH9 b o e))) YY (sT _ _ (gi _ _ N0 S2 kl9)) (VG (fun b us h=>sT _ _ (N3 _ _ h)) _ (Vt ks) hx9) kk nd k0 k6 kg (sT _ _ hdi) (hzi.mono sT) lzi lk0 F8 G2 N2 dfi
end
end K4
namespace L2
open PySem
end L2
namespace K4
open PySem L2
section
def GE:Sp:=fun vs H Q _=>∃(x:Str)(o:Nat),vs=[.str x,.str (alpha o)]/\(o=97\/o=65)/\1<=x.length/\x.length<=8/\(∀c∈x.cps.toList,o<=c/\c<o+26)/\∀H',Same H H'->Q (.bl true) H'
theorem Lm:Yr ["text","letters"] ["text","letters"] (Yh BC):=Y7
theorem zI:List.Nodup [("sign":Str),"letters"]:=by decide +kernel
theorem KN(B:Blt mg)(F:Fun K "is_spelt" "is_spelt" BC f fd)(X:mg "LONGEST"=some u)(M:RelV (.int 8) u):Yo P w K mg base CX0 (n+1) f fd ["text","letters"] GE:=by
 refine F.oq Lm fun g A J s H Y Q E d h=>?_;obtain⟨x,o,rfl,I,T,L,U,q⟩:=h;refine⟨_,YW (Yx (Jt (V9 (Jj rfl B.isi rfl B.str Xp (pv 0)))) (YZ (Yf RO)) Yl)
  (YZ (Yf (UV (IY XD XD YX (Y0 Mj rfl B.len Zs (pa1 (pv 0))) (Jk rfl X M))
   (Up (Y0 (T3 rfl) rfl B.all Wp (pa1 (V6 ["sign"] [1] (Qw (pv 0)) (Vl (i:=0) (by decide))
    (fun m C j s H=>Yk 0 zI rfl (Or.inl rfl) (Or.inr rfl)) (fun m C j s H=>Vs Em (pv 0) (pv 1) rfl)))))))),?_⟩
 refine⟨_,_,_,_,rfl,.str x,NG K "str",_,rfl,?_⟩;refine Y1 (by simp) ?_;have O:x.length<=sizeLine:=Zf (Ye (by exact OE L));refine⟨x,rfl,O,_,rfl,?_⟩;refine VJ (by simp;exact QC T) ?_;refine⟨_,rfl,?_⟩;refine VJ (by simp;omega) ?_;refine⟨x,rfl,?_⟩;have k:x.cps.size=x.length:=rfl;refine VR x.length (Ye (by exact OE L)) (fun i Y Z=>Same H Z/\Y=List.replicate i (V.bl true)) ⟨Z6 _,rfl⟩ (fun i Y Z z=>by rw[z.2];simp) ?_ ?_ ?_ ?_
 .intro i Y Z hi z
  exact hi
 .intro Y Z z
  exact ZF _
 .intro i Y Z v H'' R hi z yl hR
  obtain⟨rfl,c,G,rfl⟩:=yl;refine⟨_,_,rfl,rfl,?_⟩
  have S:c∈x.cps.toList:=by
   have:=Array.mem_of_getElem? G;exact Array.mem_toList_iff.mpr this
  obtain⟨D,N,t⟩:=Kp I (U c S);have y:Builtin.Str.occurrences (alpha o) ⟨#[c]⟩ 0 (alpha o).length 1=D::N:=t;rw[y];exact hR _ _ ⟨z.1,by rw[z.2,List.replicate_succ'];rfl⟩
 .intro Y Z p z hp
  refine⟨p,List.replicate x.length true,rfl,Z1 (by rw[YY,z.2,List.map_replicate]),?_⟩;rw[show(List.replicate x.length true).all id=true by simp];exact q _ (z.1.trans (Yb hp _))
def U8(o:Nat):Sp:=fun vs H Q _=>∃(x:Str),vs=[.str x]/\1<=x.length/\x.length<=8/\(∀c∈x.cps.toList,o<=c/\c<o+26)/\∀H',Same H H'->Q (.bl true) H'
theorem Fu:Yr ["text"] ["text"] (Yh MQ):=Y7
theorem Ex(F:Fun K "is_name" "is_name" MQ f fd)(G:Yo P w K mg base CX0 n g gd ["text","letters"] GE)(D:Binds K gd ["text","letters"] [])(N:W.keepIn K (.ref g)=true)(J:mg "is_spelt"=some (.ref g))(T:mg "SMALL"=some u)(Z:RelV (.str (Str.ofString "abcdefghijklmnopqrstuvwxyz")) u):Yo P w K mg base CX0 (n+1) f fd ["text"] (U8 97):=by
 refine F.oq Fu fun B A Y s H I Q E O h=>?_;obtain⟨x,rfl,M,L,R,q⟩:=h;refine⟨_,YZ (Yf (Va G O rfl J N D .nil VH (pa2 (pv 0) (Jk rfl T Z)))),?_⟩;refine⟨x,97,?_,.inl rfl,M,L,R,q⟩;rw[<-RL];rfl
theorem Lu:Yr ["text"] ["text"] (Yh BS):=Y7
theorem Kh(F:Fun K "is_tag" "is_tag" BS f fd)(G:Yo P w K mg base CX0 n g gd ["text","letters"] GE)(D:Binds K gd ["text","letters"] [])(N:W.keepIn K (.ref g)=true)(J:mg "is_spelt"=some (.ref g))(T:mg "GREAT"=some u)(Z:RelV (.str (Str.ofString "ABCDEFGHIJKLMNOPQRSTUVWXYZ")) u):Yo P w K mg base CX0 (n+1) f fd ["text"] (U8 65):=by
 refine F.oq Lu fun B A Y s H I Q E O h=>?_;obtain⟨x,rfl,M,L,R,q⟩:=h;refine⟨_,YZ (Yf (Va G O rfl J N D .nil VH (pa2 (pv 0) (Jk rfl T Z)))),?_⟩;refine⟨x,65,?_,.inr rfl,M,L,R,q⟩;rw[<-RZ];rfl
end
end K4
namespace L2
open PySem
def X0(ks:List (Str×Shp)):Nat->Str->Nat
 |0,_=>0
 |n+1,y=>match Vd ks y with
  |none=>0
  |some (.tags _)=>1
  |some (.pair a b)=>1+X0 ks n a+X0 ks n b
def JS(t:Str):Shp->Bool
 |.tags ts=>decide (t∈ts)
 |.pair _ _=>false
def V0(a b:Str):Shp->Bool
 |.tags _=>false
 |.pair c e=>decide (c=a) && decide (e=b)
def V4(ks:List (Str×Shp))(t:Str):Option Str:=(ks.find? fun k=>JS t k.2).map (·.1)
def Vg(ks:List (Str×Shp))(a b:Str):Option Str:=(ks.find? fun k=>V0 a b k.2).map (·.1)
theorem Xm{α:Type}(p:α->Bool)(l:List α)(x:α):(l++[x]).find? p=(l.find? p).or (if p x=true then some x else none):=by
 rw[List.find?_append]
 congr 1
 rw[List.find?_cons];cases p x <;> simp
theorem WY(h:z∈ks.map (·.1)):Vd (ks++[x]) z=Vd ks z:=by
 obtain⟨s,Y⟩:=Vw h;unfold Vd at Y |-;rw[Xm]
 cases e:ks.find? fun k=>decide (k.1=z)with
 |none=>rw[e]at Y;cases Y
 |some k=>rfl
theorem Ec(h:z∉ks.map (·.1)):Vd ks z=none:=by
 cases e:Vd ks z with
 |none=>rfl
 |some s=>exact Zp (ZU.mpr ⟨_,XA e,rfl⟩) h
theorem TD(h:z∉ks.map (·.1)):Vd (ks++[(z,s)]) z=some s:=by
 have q:=Ec h;unfold Vd at q |-;rw[Xm]
 cases e:ks.find? fun k=>decide (k.1=z)with
 |none=>simp
 |some k=>rw[e]at q;cases q
theorem J1(h:KK top c d ks)(x:Str×Shp):∀(n:Nat)(z:Str),z∈ks.map (·.1)->VA (ks++[x]) n z=VA ks n z
 |0,_,_=>rfl
 |n+1,z,hz=>by
  obtain⟨s,Y⟩:=Vw hz;rw[XT Y,XT ((WY hz).trans Y)]
  cases s with
  |tags G=>rfl
  |pair a b=>
   obtain⟨J,Z,_⟩:=h.at Y;show(W.non::_)=(W.non::_);rw[J1 h x n a J,J1 h x n b Z]
def hOf(ks:List (Str×Shp))(n:Nat):Shp->Nat
 |.tags _=>1
 |.pair a b=>1+X0 ks n a+X0 ks n b
theorem WJ(h:Vd ks y=some s):X0 ks (n+1) y=hOf ks n s:=by
 conv=>lhs;unfold X0
 rw[h];cases s <;> rfl
theorem Ug(h:KK top c d ks)(x:Str×Shp):∀(n:Nat)(z:Str),z∈ks.map (·.1)->X0 (ks++[x]) n z=X0 ks n z
 |0,_,_=>rfl
 |n+1,z,hz=>by
  obtain⟨s,Y⟩:=Vw hz;rw[WJ Y,WJ ((WY hz).trans Y)]
  cases s with
  |tags G=>rfl
  |pair a b=>
   obtain⟨J,Z,_⟩:=h.at Y;show 1+_+_=1+_+_;rw[Ug h x n a J,Ug h x n b Z]
theorem Xl(h:KK top c d ks):∀(n m:Nat)(y:Str),y∈ks.map (·.1)->d y<n->d y<m->X0 ks n y=X0 ks m y
 |0,_,_,_,h1,_=>Zp h1 (Zu _)
 |_+1,0,_,_,_,h2=>Zp h2 (Zu _)
 |n+1,m+1,y,hy,h1,h2=>by
  obtain⟨s,Z⟩:=Vw hy;have L:=h.at Z;rw[WJ Z,WJ Z]
  cases s with
  |tags M=>rfl
  |pair a b=>
   obtain⟨G,J,R,O,Y,N⟩:=L;have B:=Nat.le_max_left (d a) (d b);have T:=Nat.le_max_right (d a) (d b);show 1+_+_=1+_+_;rw[Xl h n m a G (by exact RT h1 Y) (by exact RT h2 Y),Xl h n m b J (by exact RS h1 Y) (by exact RS h2 Y)]
structure KA6 where
 t:Addr
 dx:Addr
 sh:Addr
 wo:Addr
 he:Addr
 pd:Addr
 tk:Addr
 pk:Addr
structure KC where
 sh:List (Key×V)
 wo:List (Key×V)
 he:List (Key×V)
 pd:List (Key×V)
 tk:List (Key×V)
 pk:List (List Key×V)
def W5(A:KA6):List (Str×V):=[("shapes",.ref A.sh),("worths",.ref A.wo),("heights",.ref A.he),("pairs_deep",.ref A.pd),("tag_kinds",.ref A.tk),("pair_kinds",.ref A.pk)]
def KA6.ds(A:KA6):List Addr:=[A.sh,A.wo,A.he,A.pd,A.tk,A.pk]
structure KD(H:Hp)(C:Addr)(A:KA6)(S:KC):Prop where
 ins:H A.t=some (.ins C A.dx (W5 A))
 sh:H A.sh=some (.dK S.sh)
 wo:H A.wo=some (.dK S.wo)
 he:H A.he=some (.dK S.he)
 pd:H A.pd=some (.dK S.pd)
 tk:H A.tk=some (.dK S.tk)
 pk:H A.pk=some (.dT S.pk)
 nd:A.ds.Nodup
structure KR(H:Hp)(S:KC)(ks:List (Str×Shp))(d:Str->Nat):Prop where
 ke:S.sh.map (·.1)=ks.map (fun k=>Sum.inr k.1)
 sh:∀y s,Vd ks y=some s->∃v,Y8 S.sh (Sum.inr y)=some v/\Has H v s.dat
 wo:∀y∈ks.map (·.1),∃l xs,Y8 S.wo (Sum.inr y)=some (.ref l)/\H l=some (.lst xs)/\HasL H xs ((VA ks 3 y).map W.dat)
 he:∀y∈ks.map (·.1),Y8 S.he (Sum.inr y)=some (.int (X0 ks 3 y:Nat))
 pd:∀y∈ks.map (·.1),Y8 S.pd (Sum.inr y)=some (.int (d y:Nat))
 tk:∀x:Str,Y8 S.tk (Sum.inr x)=(V4 ks x).map V.str
 pk:∀a b:Str,Y8 S.pk [Sum.inr a,Sum.inr b]=(Vg ks a b).map V.str
 ln:S.sh.length<=4*ks.length/\S.wo.length<=4*ks.length/\S.he.length<=4*ks.length/\S.pd.length<=4*ks.length/\S.tk.length<=4*ks.length/\S.pk.length<=4*ks.length
def KI(H:Hp)(C t:Addr)(ks:List (Str×Shp))(d:Str->Nat):Prop:=∃A S,A.t=t/\KD H C A S/\KR H S ks d
theorem KD.mono(k:KD H C A S)(e:Same H H'):KD H' C A S:=⟨e _ _ k.ins,e _ _ k.sh,e _ _ k.wo,e _ _ k.he,e _ _ k.pd,e _ _ k.tk,e _ _ k.pk,k.nd⟩
def TL(H H':Hp):Prop:=(∀b xs,H b=some (.tup xs)->H' b=some (.tup xs))/\∀b xs,H b=some (.lst xs)->H' b=some (.lst xs)
theorem Same.tl(e:Same H H'):TL H H':=⟨fun b Y h=>e _ _ h,fun b Y h=>e _ _ h⟩
theorem TL.trans(a:TL H H1)(b:TL H1 H2):TL H H2:=⟨fun c Y h=>b.1 _ _ (a.1 _ _ h),fun c Y h=>b.2 _ _ (a.2 _ _ h)⟩
mutual
theorem Has.tl{H H':Hp}(e:TL H H'):∀(d:Dat){v:V},Has H v d->Has H' v d
 |.non,_,h=>by unfold Has at h |-;exact h
 |.bl _,_,h=>by unfold Has at h |-;exact h
 |.int _,_,h=>by unfold Has at h |-;exact h
 |.str _,_,h=>by unfold Has at h |-;exact h
 |.tup ds,_,h=>by
  unfold Has at h |-;obtain⟨a,Y,G,J,Z⟩:=h;exact⟨a,Y,G,e.1 _ _ J,HasL.tl e ds Z⟩
 |.lst ds,_,h=>by
  unfold Has at h |-;obtain⟨a,Y,G,J,Z⟩:=h;exact⟨a,Y,G,e.2 _ _ J,HasL.tl e ds Z⟩
theorem HasL.tl{H H':Hp}(e:TL H H'):∀(ds:List Dat){xs:List V},HasL H xs ds->HasL H' xs ds
 |[],[],h=>by unfold HasL;trivial
 |[],_::_,h=>by unfold HasL at h;exact h.elim
 |_::_,[],h=>by unfold HasL at h;exact h.elim
 |d::ds,x::xs,h=>by
  unfold HasL at h |-;exact⟨Has.tl e d h.1,HasL.tl e ds h.2⟩
end
theorem KR.tl(k:KR H S ks d)(e:TL H H'):KR H' S ks d:=
 ⟨k.ke,fun y s h=>let⟨v,Z,Y⟩:=k.sh y s h;⟨v,Z,Has.tl e _ Y⟩,fun y h=>let⟨l,J,Z,Y,G⟩:=k.wo y h;⟨l,J,Z,e.2 _ _ Y,HasL.tl e _ G⟩,k.he,k.pd,k.tk,k.pk,k.ln⟩
theorem KI.mono(k:KI H C t ks d)(e:Same H H'):KI H' C t ks d:=by
 obtain⟨A,S,J,Z,Y⟩:=k;exact⟨A,S,J,Z.mono e,Y.tl e.tl⟩
inductive Th where
 |non|str (x:Str)|oth|tupn|pair (a b:Th)
theorem XI(x:Str)(ts:List Str):inV (.str x) (ts.map V.str)=decide (x∈ts):=by
 induction ts with
 |nil=>rfl
 |cons t ts ih=>
  have e:inV (.str x) ((t::ts).map V.str)=((t==x) || inV (.str x) (ts.map V.str)):=rfl;rw[e,ih]
  by_cases h:t=x
  .subst h;simp
  .have h':¬x=t:=fun q=>h q.symm
   simp[h,h']
theorem Uh(ts:List Str):(ts.map V.str).all WM=true:=by
 induction ts with
 |nil=>rfl
 |cons t ts ih=>simp only[ZT,List.all_cons,ih];rfl
structure KCl(K:W.Frag)(C:Addr):Prop where
 cl:Cls K C
 sh:JW K C "shapes"
 wo:JW K C "worths"
 he:JW K C "heights"
 pd:JW K C "pairs_deep"
 tk:JW K C "tag_kinds"
 pk:JW K C "pair_kinds"
theorem B2(A:KA6):(W5 A).lookup ("shapes":Str)=some (V.ref A.sh):=rfl
theorem LI(A:KA6):(W5 A).lookup ("worths":Str)=some (V.ref A.wo):=rfl
theorem O1(A:KA6):(W5 A).lookup ("heights":Str)=some (V.ref A.he):=rfl
theorem O0(A:KA6):(W5 A).lookup ("pairs_deep":Str)=some (V.ref A.pd):=rfl
theorem Sa(A:KA6):(W5 A).lookup ("tag_kinds":Str)=some (V.ref A.tk):=rfl
theorem Sb(A:KA6):(W5 A).lookup ("pair_kinds":Str)=some (V.ref A.pk):=rfl
theorem Eb(k:KD H C A S)(r:KR H S ks d)(h:Vd ks y=some s):∃v,VP H A.sh (.str y) (some v)/\Has H v s.dat:=by
 obtain⟨v,Z,Y⟩:=r.sh y s h;exact⟨v,by rw[<-Z];exact VP.k (k:=Sum.inr y) k.sh,Y⟩
end L2
namespace K4
open PySem L2
section
variable{f g C:Addr}
def Xa(C:Addr):Sp:=fun vs H Q _=>∃(t:Addr)(ks:List (Str×Shp))(d:Str->Nat),vs=[.ref t]/\KI H C t ks d/\∀l H',Same H H'->H l=none->H' l=some (.lst (ks.map fun k=>V.str k.1))->Q (.ref l) H'
theorem Lo:Yr ["self"] ["self"] (Yh BK):=Y7
theorem KY(B:Blt mg)(T:KCl K C)(F:Fun K "names" "Kinds.names" BK f fd):Yo P w K mg base CX0 (n+1) f fd ["self"] (Xa C):=by
 refine F.oq Lo fun M A Y s H N Q E R h=>?_;obtain⟨t,O,d,rfl,⟨D,S,rfl,Z,L⟩,q⟩:=h;refine⟨_,YZ (Yf (Y4 (XQ rfl) rfl B.list Vc (pa1 (VI (pv 0) rfl)))),?_⟩;refine⟨C,_,_,_,Z.ins,T.cl,T.sh,B2 _,_,_,rfl,Z.sh,fun l J=>?_⟩;refine q l _ (Yb J _) J ?_;rw[YY];have e:(S.sh.map fun G=>kV G.1)=(S.sh.map (·.1)).map kV:=by rw[List.map_map];rfl
 rw[e,L.ke,List.map_map]
 rfl
def XY(C:Addr):Sp:=fun vs H Q _=>∃(t:Addr)(ks:List (Str×Shp))(d:Str->Nat)(y:Str)(s:Shp),vs=[.ref t,.str y]/\KI H C t ks d/\Vd ks y=some s/\∀v,Has H v s.dat->Q v H
theorem Ee:Yr ["self","kind"] ["self","kind"] (Yh TU):=Y7
theorem Bo(T:KCl K C)(F:Fun K "shape_of" "Kinds.shape_of" TU f fd):Yo P w K mg base CX0 (n+1) f fd ["self","kind"] (XY C):=by
 refine F.oq Ee fun R A Y s H B Q E M h=>?_;obtain⟨t,D,d,y,s,rfl,⟨I,S,rfl,Z,J⟩,L,q⟩:=h;have G:=V1 M;obtain⟨v,O,N⟩:=Eb Z J L;refine⟨_,YZ (Yf (Yz G (VI (pv 0) rfl) (pv 1) (fun _ _=>rfl))),?_⟩;exact⟨C,_,_,_,Z.ins,T.cl,T.sh,B2 _,v,O,q v N⟩
def G5(C:Addr):Sp:=fun vs H Q _=>∃(t:Addr)(ks:List (Str×Shp))(d:Str->Nat)(x:Str),vs=[.ref t,.str x]/\KI H C t ks d/\Q (((V4 ks x).map V.str).getD .non) H
theorem Ft:Yr ["self","tag"] ["self","tag"] (Yh MP):=Y7
theorem Ew(T:KCl K C)(F:Fun K "kind_of_tag" "Kinds.kind_of_tag" MP f fd):Yo P w K mg base CX0 (n+1) f fd ["self","tag"] (G5 C):=by
 refine F.oq Ft fun M A Y s H N Q E L h=>?_;obtain⟨t,O,d,x,rfl,⟨R,S,rfl,Z,J⟩,q⟩:=h;have G:=V1 L;refine⟨_,YZ (Yf (WE G (VI (pv 0) rfl) (pv 1) ⟨rfl,rfl,rfl,rfl⟩)),?_⟩;exact⟨C,_,_,_,Z.ins,T.cl,T.tk,Sa _,.inl ⟨_,.inl Z.tk⟩,_,by rw[<-J.tk x];exact VP.k (k:=Sum.inr x) Z.tk,q⟩
def WV(C:Addr):Sp:=fun vs H Q _=>∃(t:Addr)(ks:List (Str×Shp))(d:Str->Nat)(a b:Str),vs=[.ref t,.str a,.str b]/\KI H C t ks d/\∀H',Same H H'->Q (((Vg ks a b).map V.str).getD .non) H'
theorem Ef:Yr ["self","one","other"] ["self","one","other"] (Yh TX):=Y7
theorem Bq(T:KCl K C)(F:Fun K "kind_of_pair" "Kinds.kind_of_pair" TX f fd):Yo P w K mg base CX0 (n+1) f fd ["self","one","other"] (WV C):=by
 refine F.oq Ef fun O A Y s H R Q E M h=>?_;obtain⟨t,B,d,a,b,rfl,⟨D,S,rfl,Z,G⟩,q⟩:=h;have L:=V1 M;refine⟨_,YZ (Yf (WE L (VI (pv 0) rfl) (Yw (pa2 (pv 1) (pv 2))) ⟨rfl,rfl,rfl,rfl⟩)),?_⟩;refine⟨C,_,_,_,Z.ins,T.cl,T.pk,Sb _,.inr ⟨_,.inl Z.pk⟩,sl 2,fun p N=>?_⟩;have J:=Yb N (.tup [.str a,.str b]);exact⟨_,by rw[<-G.pk a b];exact VP.t (k:=[Sum.inr a,Sum.inr b]) (J _ _ Z.pk) YY,q _ J⟩
def UF(C:Addr):Sp:=fun vs H Q _=>∃(t:Addr)(ks:List (Str×Shp))(d:Str->Nat)(y:Str),vs=[.ref t,.str y]/\KI H C t ks d/\y∈ks.map (·.1)/\
 ∀l xs H',Same H H'->H l=none->H' l=some (.lst xs)->HasL H' xs ((VA ks 3 y).map W.dat)->Q (.ref l) H'
theorem Nx:Yr ["self","kind"] ["self","kind"] (Yh Wa):=Y7
theorem M9(B:Blt mg)(T:KCl K C)(F:Fun K "worths_of" "Kinds.worths_of" Wa f fd):Yo P w K mg base CX0 (n+1) f fd ["self","kind"] (UF C):=by
 refine F.oq Nx fun X A J s H j Q E R h=>?_;obtain⟨t,z,d,y,rfl,⟨m,S,rfl,L,M⟩,N,q⟩:=h;have O:=V1 R;obtain⟨l,Z,U,I,D⟩:=M.wo y N;refine⟨_,YZ (Yf (Y4 JN rfl B.list Vc (pa1 (Yz O (VI (pv 0) rfl) (pv 1) (fun _ _=>rfl))))),?_⟩;refine⟨C,_,_,_,L.ins,T.cl,T.wo,LI _,_,by rw[<-U];exact VP.k (k:=Sum.inr y) L.wo,l,Z,rfl,.inl (Z1 I),fun r Y=>?_⟩;have G:=Yb Y (.lst Z);exact q r Z _ G Y YY (D.mono G)
end
end K4
namespace L2
open PySem
def Kr(ks:List (Str×Shp))(hd:Hds)(kv:List (Key×V))(y:Str):Bd->List Str->Prop
 |.tag t,zs=>zs=[]/\∃ts,Vd ks y=some (.tags ts)/\t∈ts
 |.name x,zs=>zs=[]/\Y8 kv (Sum.inr x)=some (.str y)
 |.pair _ _,zs=>∃a b,zs=[a,b]/\Vd ks y=some (.pair a b)
 |.one _,zs=>∃z b,zs=[z]/\Vd ks z=some (.pair y b)
 |.other _,zs=>∃z a,zs=[z]/\Vd ks z=some (.pair a y)
 |.choose _ ts bs,zs=>∃z,zs=z::List.replicate bs.length y/\Vd ks z=some (.tags ts)/\bs.length=ts.length
 |.ask f _,zs=>∃ps:List (Str×Str),hd f=some (ps,y)/\zs=ps.map (·.2)
 |.letb x z _ _,zs=>zs=[z,y]/\Y8 kv (Sum.inr x)=none/\z∈ks.map (·.1)
def wth(kv:List (Key×V)):Bd->List (Key×V)
 |.letb x z _ _=>putK kv (Sum.inr x) (.str z)
 |_=>kv
theorem Kd.inv(h:Kd ks hd kv y b):
  ∃M,Kr ks hd kv y b M/\M.length=b.parts.length/\∀(i:Nat)(p:Bd)(z:Str),b.parts[i]?=some p->M[i]?=some z->Kd ks hd (wth kv b) z p:=by
 cases h with
 |tag J G=>exact⟨[],⟨rfl,_,J,G⟩,rfl,fun i p z e=>nomatch e⟩
 |name J=>exact⟨[],⟨rfl,J⟩,rfl,fun i p z e=>nomatch e⟩
 |pair J G L=>
  refine⟨_,⟨_,_,rfl,J⟩,rfl,fun i p z Z Y=>?_⟩;rcases i with _|_|i
  .cases Z;cases Y;exact G
  .cases Z;cases Y;exact L
  .exact nomatch Z
 |one J G=>
  refine⟨_,⟨_,_,rfl,J⟩,rfl,fun i p z Z Y=>?_⟩;rcases i with _|i
  .cases Z;cases Y;exact G
  .exact nomatch Z
 |other J G=>
  refine⟨_,⟨_,_,rfl,J⟩,rfl,fun i p z Z Y=>?_⟩;rcases i with _|i
  .cases Z;cases Y;exact G
  .exact nomatch Z
 | @choose _ _ D E e O J G L N=>
  refine⟨_,⟨_,rfl,J,L⟩,by simp[Bd.parts],fun i p z Z Y=>?_⟩;rcases i with _|i
  .cases Z;cases Y;exact G
  .have m:=ZH (show O[i]?=some p from Z)
   have B:(List.replicate O.length y)[i]?=some z:=Y;have T:=ZH B;cases List.eq_of_mem_replicate T;exact N p m
 | @ask _ _ f R F J G L=>
  refine⟨_,⟨_,J,rfl⟩,by rw[ZA];exact G.symm,fun i p z Z Y=>?_⟩;rw[ZG]at Y
  cases ep:R[i]? with
  |none=>rw[ep]at Y;cases Y
  |some q=>
   rw[ep]at Y;cases Y;exact L i p q Z ep
 |letb J G L N=>
  refine⟨_,⟨rfl,J,G⟩,rfl,fun i p z Z Y=>?_⟩;rcases i with _|_|i
  .cases Z;cases Y;exact L
  .cases Z;cases Y;exact N
  .exact nomatch Z
end L2
namespace L2
open PySem PySem.Spec PyProof.Rows
section
variable{X:Cx}{CX:CXT}{k:Nat}{E:XK}{ta ti:TE}{t:TA}
def Qc(X:Cx)(CX:CXT)(k:Nat)(E:XK)(ta:TE)(t:TA):TE:=fun U H Q=>ta U H fun v H1=>∃(f:Addr)(fd:FuncData)(ps:List Str)(sp:Sp),v=.ref f/\Yo X.prog X.w X.K X.mg X.base CX k f fd ps sp/\W.keepIn X.K (.ref f)=true/\Binds X.K fd ps []/\Fh sp [] E t U H1 Q
theorem IZ(B:PE X (.Name x p) ta)(R:V7 k X.A)(hx:XS CX X E)(A:PA X (e::es) t)(he:starEach (e::es) X.env=(false,eval e X.env)::starEach es X.env:=by rfl)(Z:(backTo pos (starEach es X.env)).any (·.1)=false:=by rfl):
  PE X (.Call (.Name x p) (e::es) [] pos) (Qc X CX k E ta t):=by
 intro Y s U H Q I h;refine wpAny_Call_Name_kw (thn (B Y s U H _ I h) fun u L ⟨v,C,G,N,f,g,m,y,S,F,T,D,q⟩=>?_);subst S;obtain rfl:u=Value.ref f:=N;refine W.callWith_K (h₀:=X.base) G.ok.mod.kin T (thn (A pos Y L U C _ G q) fun j z ⟨P,c,J,M,O⟩=>⟨J.kIn,?_⟩) he Z;exact MU F R D .nil hx J M O
def Sw(a:Addr)(m:Key->Option Value)(ti:TE):TE:=fun U H Q=>ti U H fun v H1=>∃(q:Key)(u:Value)(y:V),v=kV q/\m q=some u/\RelV y u/\Q y H1
theorem L5(B:Gl X x)(T:X.mg x=some (.ref a))(D:X.base.MapOf (VC X.prog X.w) a m)(z:X.A.units+1<cLine)(hi:PE X i ti)(R:Sj i)(J:(x==("__debug__":Str))=false:=by decide):
  PE X (.Subscript (.Name x p) i pos) (Sw a m ti):=by
 intro Y s U H Q I h;refine DY PySem.F.slot_dict_getitem.lookup R (Gd I B T ?_ J);refine thn (hi Y s U H _ I h) fun j G ⟨v,P,L,M,q,u,y,F,O,Z,N⟩=>?_;subst F;have M2:G.heap.MapOf (VC X.prog X.w) a m:=let⟨o,A,S,E,r⟩:=D;⟨o,A,S,L.bk _ _ E,r⟩
 have C:G.TypeIs (.ref a) "dict":=M2.typeIs;refine⟨C,?_⟩;exact wpAny_getItem_of (Xs M) M2 O ⟨y,P,L.tok _,Z,N⟩
end
structure BA where
 t:Addr
 dx:Addr
 so:Addr
 td:Addr
 rd:Addr
 tn:Addr
def XR(A:BA):List (Str×V):=[("sorts",.ref A.so),("told",.ref A.td),("rows",.ref A.rd),("turns",.ref A.tn)]
def psD(ps:List (Str×Str)):Dat:=.tup (ps.map fun p=>.tup [.str p.1,.str p.2])
def U6(x:Dd):Dat:=.tup [psD x.1.2.1,.str x.1.2.2,x.2.dat]
structure BD(H:Hp)(C CK:Addr)(A:BA)(kv:List (Key×V))(ks:List (Str×Shp))(d:Str->Nat)(ds:List Dd):Prop where
 ins:H A.t=some (.ins C A.dx (XR A))
 so:KI H CK A.so ks d
 td:H A.td=some (.dK kv)
 ke:kv.map (·.1)=ds.map (fun x=>(Sum.inr x.1.1:Key))
 va:HasL H (kv.map (·.2)) (ds.map U6)
 nd:(ds.map fun x=>x.1.1).Nodup
def BI(H:Hp)(C CK t:Addr)(ks:List (Str×Shp))(d:Str->Nat)(ds:List Dd):Prop:=∃A kv,A.t=t/\BD H C CK A kv ks d ds
theorem BI.mono(b:BI H C CK t ks d ds)(e:Same H H'):BI H' C CK t ks d ds:=by
 obtain⟨A,Y,h,k⟩:=b;exact⟨A,Y,h,e _ _ k.ins,k.so.mono e,e _ _ k.td,k.ke,k.va.mono e,k.nd⟩
structure BCl(K:W.Frag)(C:Addr):Prop where
 cl:Cls K C
 so:JW K C "sorts"
 td:JW K C "told"
 rd:JW K C "rows"
 tn:JW K C "turns"
theorem LE(A:BA):(XR A).lookup ("sorts":Str)=some (V.ref A.so):=rfl
theorem FE(A:BA):(XR A).lookup ("told":Str)=some (V.ref A.td):=rfl
theorem zS(A:BA):(XR A).lookup ("told_of":Str)=none:=rfl
theorem BD.at(b:BD H C CK A kv ks d ds)(h:x∈ds):∃v,VP H A.td (.str x.1.1) (some v)/\Has H v (U6 x):=by
 obtain⟨i,G⟩:=List.mem_iff_getElem?.mp h;have Y:(kv.map (·.1))[i]?=(ds.map (fun x=>(Sum.inr x.1.1:Key)))[i]?:=by rw[b.ke]
 rw[ZG,ZG,G]at Y
 cases ek:kv[i]? with
 |none=>rw[ek]at Y;cases Y
 |some q=>
  rw[ek]at Y;have O:q.1=Sum.inr x.1.1:=ZP Y
  have N:(kv.map (·.1)).Nodup:=by
   rw[b.ke];have Z:=b.nd;unfold List.Nodup at Z |-;rw[List.pairwise_map]at Z |-;exact Z.imp fun J z=>J (Sum.inr.inj z)
  obtain⟨T,M,R⟩:=b.va.get (show(kv.map (·.2))[i]?=some q.2 by rw[ZG,ek];rfl);rw[ZG,G]at M;cases M;refine⟨q.2,?_,R⟩;have L:=Rm N (ZH ek);rw[O]at L;rw[<-L];exact VP.k (k:=Sum.inr x.1.1) b.td
theorem Tq(h:Has H v (U6 x)):∃a u w,v=.ref a/\H a=some (.tup [u,.str x.1.2.2,w])/\Has H u (psD x.1.2.1)/\Has H w x.2.dat:=by
 unfold U6 at h;obtain⟨t,B,rfl,M,N⟩:=Y6 h;obtain⟨L,A,rfl,T,J⟩:=Ym N;obtain⟨D,F,rfl,R,Z⟩:=Ym J;obtain⟨G,E,rfl,O,Y⟩:=Ym Z;obtain rfl:=Vb Y;obtain rfl:=has_str R;exact⟨t,L,G,rfl,M,T,O⟩
end L2
namespace K4
open PySem L2
section
variable{f g C CK:Addr}
def J4(C CK:Addr):Sp:=fun vs H Q _=>∃(t:Addr)(ks:List (Str×Shp))(d:Str->Nat)(ds:List Dd),vs=[.ref t]/\BI H C CK t ks d ds/\∀so,KI H CK so ks d->Q (.ref so) H
theorem Fw:Yr ["self"] ["self"] (Yh MS):=Y7
theorem E1(T:BCl K C)(F:Fun K "kinds" "Book.kinds" MS f fd):Yo P w K mg base CX0 (n+1) f fd ["self"] (J4 C CK):=by
 refine F.oq Fw fun Z A Y s H J Q E M h=>?_;obtain⟨t,L,d,N,rfl,⟨O,G,rfl,b⟩,q⟩:=h;refine⟨_,YZ (Yf (VI (pv 0) rfl)),?_⟩;exact⟨C,_,_,_,b.ins,T.cl,T.so,LE _,q _ b.so⟩
def X8(C CK:Addr):Sp:=fun vs H Q _=>∃(t:Addr)(ks:List (Str×Shp))(d:Str->Nat)(ds:List Dd),vs=[.ref t]/\BI H C CK t ks d ds/\∀l H',Same H H'->H l=none->H' l=some (.lst (ds.map fun x=>V.str x.1.1))->Q (.ref l) H'
theorem Fv:Yr ["self"] ["self"] (Yh MR):=Y7
theorem Ez(B:Blt mg)(T:BCl K C)(F:Fun K "names" "Book.names" MR f fd):Yo P w K mg base CX0 (n+1) f fd ["self"] (X8 C CK):=by
 refine F.oq Fv fun G A Y s H L Q E N h=>?_;obtain⟨t,M,d,O,rfl,⟨R,Z,rfl,b⟩,q⟩:=h;refine⟨_,YZ (Yf (Y4 (XQ rfl) rfl B.list Vc (pa1 (VI (pv 0) rfl)))),?_⟩;refine⟨C,_,_,_,b.ins,T.cl,T.td,FE _,_,_,rfl,b.td,fun l J=>?_⟩;refine q l _ (Yb J _) J ?_;rw[YY];have e:(Z.map fun q=>kV q.1)=(Z.map (·.1)).map kV:=by rw[List.map_map];rfl
 rw[e,b.ke,List.map_map]
 rfl
def Rq(C CK:Addr):Sp:=fun vs H Q _=>∃(t:Addr)(ks:List (Str×Shp))(d:Str->Nat)(ds:List Dd)(x:Dd),vs=[.ref t,.str x.1.1]/\BI H C CK t ks d ds/\x∈ds/\∀v,Has H v (U6 x)->Q v H
theorem Lv:Yr ["self","F"] ["self","F"] (Yh BW):=Y7
theorem OL(B:Blt mg)(T:BCl K C)(F:Fun K "told_of" "Book.told_of" BW f fd):Yo P w K mg base CX0 (n+1) f fd ["self","F"] (Rq C CK):=by
 refine F.oq Lv fun N A Y s H O Q E L h=>?_;obtain⟨t,D,d,I,x,rfl,⟨S,R,rfl,b⟩,G,q⟩:=h;have Z:=V1 L;obtain⟨v,J,M⟩:=b.at G;refine⟨_,YW (Yx (PW.pt (UK (Jt (V9 (Jj rfl B.isi rfl B.str Xp (pv 1)))) (Js (Ju (Uc Z (pv 1) (VI (pv 0) rfl)))))) (YZ V8) Yl)
  (YZ (Yf (Yz Z (VI (pv 0) rfl) (pv 1) (fun _ _=>rfl)))),?_⟩
 show let a:=_;let b:=_;Yj (Y9 _ b _) a _ _ _
 intros
 refine⟨_,_,_,_,rfl,.str _,NG K "str",_,rfl,Y1 (by simp) ?_⟩;refine⟨C,_,_,_,b.ins,T.cl,T.td,FE _,_,J,_,rfl,Y1 (by simp) ?_⟩;exact⟨C,_,_,_,b.ins,T.cl,T.td,FE _,v,J,q v M⟩
end
end K4
namespace L2
open PySem
def KFr(A:KA6)(H H':Hp):Prop:=∀b o,b∉A.ds->H b=some o->H' b=some o
theorem KFr.refl(A:KA6)(H:Hp):KFr A H H:=fun _ _ _ h=>h
theorem KFr.trans(a:KFr A H H1)(b:KFr A H1 H2):KFr A H H2:=fun c o Y h=>b c o Y (a c o Y h)
theorem Same.kfr(e:Same H H'):KFr A H H':=fun b o _ h=>e b o h
theorem KFr.put(a:KFr A H H')(hx:x∈A.ds)(o:HO):KFr A H (upd H' x o):=fun b u Y h=>by
 have Z:b≠x:=fun z=>by rw[z]at Y;exact Y hx
 rw[Ya Z];exact a b u Y h
theorem KFr.tl(a:KFr A H H')(k:KD H C A S):TL H H':=by
 have J:∀b u,H b=some u->(∀l,u≠.dK l)->(∀l,u≠.dT l)->b∉A.ds:=fun b u Y Z M G=>by
  simp only[KA6.ds,Zb,List.not_mem_nil,or_false]at G;rcases G with z|z|z|z|z|z
  .rw [z,k.sh]at Y;exact Z _ (ZP Y).symm
  .rw [z,k.wo]at Y;exact Z _ (ZP Y).symm
  .rw [z,k.he]at Y;exact Z _ (ZP Y).symm
  .rw [z,k.pd]at Y;exact Z _ (ZP Y).symm
  .rw [z,k.tk]at Y;exact Z _ (ZP Y).symm
  .rw [z,k.pk]at Y;exact M _ (ZP Y).symm
 exact⟨fun b L h=>a b _ (J b _ h (fun l=>by intro z;cases z) (fun l=>by intro z;cases z)) h,fun b L h=>a b _ (J b _ h (fun l=>by intro z;cases z) (fun l=>by intro z;cases z)) h⟩
theorem KA6.apart{A:KA6}(n:A.ds.Nodup):(A.sh≠A.wo/\A.sh≠A.he/\A.sh≠A.pd/\A.sh≠A.tk/\A.sh≠A.pk)/\(A.wo≠A.he/\A.wo≠A.pd/\A.wo≠A.tk/\A.wo≠A.pk)/\(A.he≠A.pd/\A.he≠A.tk/\A.he≠A.pk)/\(A.pd≠A.tk/\A.pd≠A.pk)/\A.tk≠A.pk:=by
 simpa[KA6.ds]using n
section
theorem KD.put_sh(k:KD H C A S)(l:List (Key×V)):KD (upd H A.sh (.dK l)) C A {S with sh:=l}:=by
 obtain⟨⟨L,G,J,Z,Y⟩,_⟩:=KA6.apart k.nd;exact⟨(Ya (Vv k.ins k.sh (by intro z;cases z))).trans k.ins,YY,(Ya L.symm).trans k.wo,(Ya G.symm).trans k.he,(Ya J.symm).trans k.pd,(Ya Z.symm).trans k.tk,(Ya Y.symm).trans k.pk,k.nd⟩
theorem KD.put_wo(k:KD H C A S)(l:List (Key×V)):KD (upd H A.wo (.dK l)) C A {S with wo:=l}:=by
 obtain⟨⟨L,_⟩,⟨G,J,Z,Y⟩,_⟩:=KA6.apart k.nd;exact⟨(Ya (Vv k.ins k.wo (by intro z;cases z))).trans k.ins,(Ya L).trans k.sh,YY,(Ya G.symm).trans k.he,(Ya J.symm).trans k.pd,(Ya Z.symm).trans k.tk,(Ya Y.symm).trans k.pk,k.nd⟩
theorem KD.put_he(k:KD H C A S)(l:List (Key×V)):KD (upd H A.he (.dK l)) C A {S with he:=l}:=by
 obtain⟨⟨_,L,_⟩,⟨G,_⟩,⟨J,Z,Y⟩,_⟩:=KA6.apart k.nd;exact⟨(Ya (Vv k.ins k.he (by intro z;cases z))).trans k.ins,(Ya L).trans k.sh,(Ya G).trans k.wo,YY,(Ya J.symm).trans k.pd,(Ya Z.symm).trans k.tk,(Ya Y.symm).trans k.pk,k.nd⟩
theorem KD.put_pd(k:KD H C A S)(l:List (Key×V)):KD (upd H A.pd (.dK l)) C A {S with pd:=l}:=by
 obtain⟨⟨_,_,L,_⟩,⟨_,G,_⟩,⟨J,_⟩,⟨Z,Y⟩,_⟩:=KA6.apart k.nd;exact⟨(Ya (Vv k.ins k.pd (by intro z;cases z))).trans k.ins,(Ya L).trans k.sh,(Ya G).trans k.wo,(Ya J).trans k.he,YY,(Ya Z.symm).trans k.tk,(Ya Y.symm).trans k.pk,k.nd⟩
theorem KD.put_tk(k:KD H C A S)(l:List (Key×V)):KD (upd H A.tk (.dK l)) C A {S with tk:=l}:=by
 obtain⟨⟨_,_,_,L,_⟩,⟨_,_,G,_⟩,⟨_,J,_⟩,⟨Z,_⟩,Y⟩:=KA6.apart k.nd;exact⟨(Ya (Vv k.ins k.tk (by intro z;cases z))).trans k.ins,(Ya L).trans k.sh,(Ya G).trans k.wo,(Ya J).trans k.he,(Ya Z).trans k.pd,YY,(Ya Y.symm).trans k.pk,k.nd⟩
theorem KD.put_pk(k:KD H C A S)(l:List (List Key×V)):KD (upd H A.pk (.dT l)) C A {S with pk:=l}:=by
 obtain⟨⟨_,_,_,_,L⟩,⟨_,_,_,G⟩,⟨_,_,J⟩,⟨_,Z⟩,Y⟩:=KA6.apart k.nd;exact⟨(Ya (Vv k.ins k.pk (by intro z;cases z))).trans k.ins,(Ya L).trans k.sh,(Ya G).trans k.wo,(Ya J).trans k.he,(Ya Z).trans k.pd,(Ya Y).trans k.tk,YY,k.nd⟩
end
theorem UW{α:Type}{l:List α}{x a:α}(h:l[i]?=some a):x∈l.take (i+1)↔x∈l.take i\/x=a:=by
 rw[take_snoc h,ZV,ZO]
end L2
namespace K4
open PySem L2
section
variable{f g C:Addr}
def Nn(C:Addr):Sp:=fun vs H Q _=>∃(A:KA6)(S:KC)(y:Str)(l:Addr)(ts:List Str),vs=[.ref A.t,.str y,.ref l]/\KD H C A S/\H l=some (.tup (ts.map V.str))/\1<=ts.length/\ts.length<=4/\Wds 65 ts/\(∀x∈ts,Y8 S.tk (Sum.inr x)=none)/\
 S.tk.length<=100/\S.wo.length<=100/\S.he.length<=100/\S.pd.length<=100/\
 ∀H' tk' r,KFr A H H'->KD H' C A ⟨S.sh,putK S.wo (Sum.inr y) (.ref r),putK S.he (Sum.inr y) (.int 1),putK S.pd (Sum.inr y) (.int 0),tk',S.pk⟩->
  (∀x:Str,Y8 tk' (Sum.inr x)=if x∈ts then some (.str y)else Y8 S.tk (Sum.inr x))->tk'.length<=S.tk.length+4->H' r=some (.lst (.non::ts.map V.str))->Q .non H'
theorem Fn:Yr ["self","name","tags","tag"] ["self","name","tags"] (Yh Fy):=Y7
theorem ON(B:Blt mg)(T:KCl K C)(F:Fun K "take_tags" "Kinds.take_tags" Fy f fd)(hM:mg "MOST_TAGS"=some u)(rM:RelV (.int 4) u)(G:Yo P w K mg base CX0 n g gd ["text"] (U8 65))(bG:Binds K gd ["text"] [])(kG:W.keepIn K (.ref g)=true)(mG:mg "is_tag"=some (.ref g)):Yo P w K mg base CX0 (n+1) f fd ["self","name","tags"] (Nn C):=by
 refine F.oq Fn fun G3 A Z8 s H vs Q E hr h=>?_;obtain⟨R,S,y,l,Z,rfl,kd,hl,l1,l4,wt,tn,b1,b2,b3,b4,q⟩:=h;have X:=V1 hr;refine⟨_,YW (Yx (Jt (Mz XD XD YX (Y0 Yu rfl B.len Zs (pa1 (pv 2))) (Jk rfl hM rM))) (YZ V8) Yl)
  (YW (Vu Zt rfl (Ji (pv 2)) (Yk 3 Fn.nd)
   (YW (Yx (Jt (V9 (Va G hr rfl mG kG bG .nil VH (pa1 (pv 3))))) (YZ V8) Yl)
   (YW (Yx (Ju (XC X (pv 3) (VI (pv 0) rfl))) (YZ V8) Yl)
   (YZ (VW X (VI (pv 0) rfl) (pv 3) (pv 1) rfl)))))
  (YW (VW X (VI (pv 0) rfl) (pv 1) (Y2 Ur (VD (pa1 VZ)) (Y4 JN rfl B.list Vc (pa1 (pv 2)))) rfl)
  (YW (VW X (VI (pv 0) rfl) (pv 1) YX rfl)
  (YZ (VW X (VI (pv 0) rfl) (pv 1) YX rfl))))),?_⟩
 show let a:=_;let b:=Yj _ a;let c:=Yj _ b;let d:=_;let e:=_;let f:=Yj (Y9 _ e _) d;let g:=_;let h:=Yj (Y9 _ g _) f;let i:=Yj (UE _ _ h) c;let j:=_;Yj (Y9 _ j _) i _ _ _
 intros
 have lt:(Z.map V.str).length=Z.length:=ZA _;refine⟨l,_,rfl,.inr (Z0 hl),_,rfl,?_⟩;refine VJ (by simp;exact QC l1) ?_;refine⟨_,rfl,?_⟩;refine Y1 (by simp;omega) ?_;refine⟨⟨_,Z0 hl⟩,?_⟩
 let I:Nat->St->Hp->Prop:=fun i U O=>KFr R H O/\∃J z,KD O C R {S with tk:=J}/\(∀x:Str,Y8 J (Sum.inr x)=if x∈Z.take i then some (.str y)else Y8 S.tk (Sum.inr x))/\J.length<=S.tk.length+i/\O l=some (.tup (Z.map V.str))/\
  U=[some (.ref R.t),some (.str y),some (.ref l),z]
 refine X2 (xs:=Z.map V.str) I ⟨KFr.refl _ _,S.tk,_,kd,fun x=>by simp,ZF _,hl,rfl⟩ ?_ ?_ ?_
 .rintro i U O _ ⟨_,J,z,_,_,_,hl',_⟩
  exact Z0 hl'
 .rintro BB RR i v U O hv ⟨fr,J,z,kd',tv,tl,hl',rfl⟩
  rw[ZG]at hv
  cases hx:Z[i]? with
  |none=>rw[hx]at hv;cases hv
  |some x=>
   rw[hx]at hv;cases hv;have mx:x∈Z:=ZH hx
   have nx:x∉Z.take i:=fun hm=>by
    have q':(Z.take i++[x]).Nodup:=by rw[<-take_snoc hx];exact wt.nd.sublist (List.take_sublist _ _)
    exact(List.nodup_append.mp q').2.2 x hm x (by simp) rfl
   have G2:=(ZE.mp hx).1;obtain⟨w1,w8⟩:=wt.len x mx;refine⟨x,rfl,w1,w8,wt.abc x mx,fun o s2=>⟨_,rfl,?_⟩⟩;refine Y1 (by simp) ?_;have Y:=kd'.mono s2
   have gx:VP o R.tk (.str x) none:=by
    have e:=tv x;rw[Zo nx,tn x mx]at e;rw[<-e];exact VP.k (k:=Sum.inr x) Y.tk
   refine⟨C,_,_,_,Y.ins,T.cl,T.tk,Sa _,_,gx,_,rfl,?_⟩;refine Y1 (by simp) ?_;refine⟨C,_,_,_,Y.ins,T.cl,T.tk,Sa _,_,Ja.k (k:=Sum.inr x) Y.tk (Ye (by show J.length<=1000;omega)),?_⟩;have r:=s2 _ _ hl';refine⟨(fr.trans s2.kfr).put (by simp[KA6.ds]) _,putK J (Sum.inr x) (.str y),_,Y.put_tk _,fun D=>?_,?_,?_,rfl⟩
   .rw [Jg]
    by_cases e:D=x
    .subst e
     rw[Zn rfl,Zn ((UW hx).mpr (.inr rfl))]
    .rw [Zo (fun z=>e (Sum.inr.inj z)),tv D]
     have:(D∈Z.take (i+1))↔D∈Z.take i:=⟨fun z=>((UW hx).mp z).resolve_right e,fun z=>(UW hx).mpr (.inl z)⟩
     by_cases m:D∈Z.take i
     .rw [Zn m,Zn (this.mpr m)]
     .rw [Zo m,Zo (fun z=>m (this.mp z))]
   .have:=Vp J (Sum.inr x) (.str y);omega
   .rw [Ya (Vv r Y.tk (by intro z;cases z))];exact r
 .rintro U O ⟨fr,J,z,kd',tv,tl,hl',rfl⟩
  rw[lt]at tl;rw[Ze (by exact oq9 lt)]at tv;refine⟨sl 1,fun p1 p=>⟨l,_,rfl,.inr (Z0 ((Yb p _) _ _ hl')),fun p2 t=>?_⟩⟩;refine⟨p1,p2,_,_,rfl,rfl,(Ya (Yc YY t)).trans YY,YY,Zf (Ye (by simp;exact Cm l4)),fun L J2=>?_⟩;have sx:Same O _:=((Yb p (.lst [V.non])).trans (Yb t (.lst (Z.map V.str)))).trans (Yb J2 (.lst ([V.non]++ Z.map V.str)));have hp:upd (upd (upd O p1 (.lst [V.non])) p2 (.lst (Z.map V.str))) L (.lst ([V.non]++ Z.map V.str)) L=some (.lst (.non::Z.map V.str)):=YY;generalize upd (upd (upd O p1 (.lst [V.non])) p2 (.lst (Z.map V.str))) L (.lst ([V.non]++ Z.map V.str))=o at sx hp |-;have Y:=kd'.mono sx;refine⟨C,_,_,_,Y.ins,T.cl,T.wo,LI _,_,Ja.k (k:=Sum.inr y) Y.wo (Ye (by show S.wo.length<=1000;exact WG b2)),?_⟩;have N:=Y.put_wo (putK S.wo (Sum.inr y) (.ref L));have G1:upd o R.wo (.dK (putK S.wo (Sum.inr y) (.ref L))) L=some (.lst (.non::Z.map V.str)):=by rw[Ya (Vv hp Y.wo (by intro z;cases z))];exact hp
  refine⟨C,_,_,_,N.ins,T.cl,T.he,O1 _,_,Ja.k (k:=Sum.inr y) N.he (Ye (by show S.he.length<=1000;exact WG b3)),?_⟩;have M:=N.put_he (putK S.he (Sum.inr y) (.int 1));refine⟨C,_,_,_,M.ins,T.cl,T.pd,O0 _,_,Ja.k (k:=Sum.inr y) M.pd (Ye (by show S.pd.length<=1000;exact WG b4)),?_⟩;have Z9:=M.put_pd (putK S.pd (Sum.inr y) (.int 0));refine q _ J L ?_ Z9 tv (by exact Ck tl l4) ?_
  .exact ((((fr.trans sx.kfr).put (by simp[KA6.ds]) _).put (by simp[KA6.ds]) _).put (by simp[KA6.ds]) _)
  .have h3:=G1
   have h4:upd (upd o R.wo (.dK (putK S.wo (Sum.inr y) (.ref L)))) R.he (.dK (putK S.he (Sum.inr y) (.int 1))) L=some (.lst (.non::Z.map V.str)):=by rw[Ya (Vv h3 N.he (by intro z;cases z))];exact h3
   rw[Ya (Vv h4 M.pd (by intro z;cases z))];exact h4
end
end K4
namespace L2
open PySem
structure Pt(H:Hp)(S:KC)(e:Str)(us:List W)(h p:Nat):Prop where
 sh:(Y8 S.sh (Sum.inr e)).isSome=true
 wo:∃l xs,Y8 S.wo (Sum.inr e)=some (.ref l)/\H l=some (.lst xs)/\HasL H xs (us.map W.dat)
 he:Y8 S.he (Sum.inr e)=some (.int h)
 pd:Y8 S.pd (Sum.inr e)=some (.int p)
end L2
namespace K4
open PySem L2
section
variable{f g C:Addr}
def Rr(C:Addr):Sp:=fun vs H Q _=>∃(A:KA6)(S:KC)(y e g:Str)(us vs':List W)(he hg pe pg:Nat),vs=[.ref A.t,.str y,.str e,.str g]/\KD H C A S/\Pt H S e us he pe/\Pt H S g vs' hg pg/\Y8 S.pk [Sum.inr e,Sum.inr g]=none/\
 1+max pe pg<=2/\1+us.length*vs'.length<=30/\us.length<=30/\vs'.length<=30/\S.pk.length<=100/\S.wo.length<=100/\S.he.length<=100/\S.pd.length<=100/\e≠y/\g≠y/\
 ∀H' r,KFr A H H'->KD H' C A ⟨S.sh,putK S.wo (Sum.inr y) (.ref r),putK S.he (Sum.inr y) (.int (1+he+hg:Nat)),putK S.pd (Sum.inr y) (.int (1+max pe pg:Nat)),S.tk,putK S.pk [Sum.inr e,Sum.inr g] (.str y)⟩->
  (∃xs,H' r=some (.lst xs)/\HasL H' xs ((W.non::us.flatMap fun u=>vs'.map fun v=>W.pair u v).map W.dat))->Q .non H'
theorem ME:Yr ["self","name","one","other","deep","worths"] ["self","name","one","other"] (Yh BG):=Y7
theorem QQ:List.Nodup [("first":Str),"second","self","other"]:=by decide +kernel
theorem KU(B:Blt mg)(T:KCl K C)(F:Fun K "take_pair" "Kinds.take_pair" BG f fd)(hM:mg "MOST_PAIRS_DEEP"=some u1)(rM:RelV (.int 2) u1)(R8:mg "MOST_WORTHS"=some u2)(N5:RelV (.int 30) u2):
  Yo P w K mg base CX0 (n+1) f fd ["self","name","one","other"] (Rr C):=by
 refine F.oq ME fun D3 A N6 s H vs Q E hr h=>?_;obtain⟨Z,S,y,e,g,us,Y,he,hg,pe,pg,rfl,kd,Z9,Z8,pn,d2,N3,ul,vl,b0,b1,b2,b3,D0,T0,q⟩:=h;have D:=V1 hr;refine⟨_,YW (Yx (PW.pt (UK (Ju (Uc D (pv 2) (VI (pv 0) rfl))) (Js (Ju (Uc D (pv 3) (VI (pv 0) rfl)))))) (YZ V8) Yl)
  (YW (Yx (Ju (XC D (Yw (pa2 (pv 2) (pv 3))) (VI (pv 0) rfl))) (YZ V8) Yl)
  (YW (Yp 4 ME.nd (Y2 Vo YX (Y0 (Xo rfl) rfl B.max Uk (pa2 (Yz D (VI (pv 0) rfl) (pv 2) (fun _ _=>rfl)) (Yz D (VI (pv 0) rfl) (pv 3) (fun _ _=>rfl))))))
  (YW (Yx (Yi XE (pv 4) (Jk rfl hM rM) (Yq _)) (YZ V8) Yl)
  (YW (Yp 5 ME.nd (Y2 Ur (VD (pa1 VZ)) (L8 (wi2:=K3 K (PN (Sy K (Nk 2) "worths") (Nk 3))) [0,3] (V5 (Yz D (VI (pv 0) rfl) (pv 2) (fun _ _=>rfl)))
    (fun cl C fp s H=>Yk 0 QQ rfl (Or.inl rfl) (Or.inr rfl)) (fun cl C fp s H=>V5 (Yz D (VI (pv 2) rfl) (pv 3) (fun _ _=>rfl))) (fun cl C fp s H=>Yk 1 QQ rfl (Or.inl rfl) (Or.inr rfl))
    (fun cl C fp s H=>Yw (pa2 (pv 0) (pv 1))))))
  (YW (Yx (Yi XE (Y0 Yu rfl B.len Zs (pa1 (pv 5))) (Jk rfl R8 N5) (Yq _)) (YZ V8) Yl)
  (YW (VW D (VI (pv 0) rfl) (Yw (pa2 (pv 2) (pv 3))) (pv 1) rfl)
  (YW (VW D (VI (pv 0) rfl) (pv 1) (pv 5) rfl)
  (YW (VW D (VI (pv 0) rfl) (pv 1) (Y2 Vo (Y2 Vo YX (Yz D (VI (pv 0) rfl) (pv 2) (fun _ _=>rfl))) (Yz D (VI (pv 0) rfl) (pv 3) (fun _ _=>rfl))) rfl)
  (YZ (VW D (VI (pv 0) rfl) (pv 1) (pv 4) rfl)))))))))),?_⟩
 show let a:=_;let b:=Yj _ a;let c:=Yj _ b;let d:=Yj _ c;let e:=_;let f:=Yj (Y9 _ e _) d;let g:=Yj _ f;let h:=_;let i:=Yj (Y9 _ h _) g;let j:=Yj _ i;let k:=_;let l:=Yj (Y9 _ k _) j;let m:=_;Yj (Y9 _ m _) l _ _ _
 intros
 have fl:∀{H2:Hp},KD H2 C Z S->H2 Z.t=some (.ins C Z.dx (W5 Z)):=fun k=>k.ins;have ge:VP H Z.sh (.str e) (Y8 S.sh (Sum.inr e)):=VP.k (k:=Sum.inr e) kd.sh;have gg:VP H Z.sh (.str g) (Y8 S.sh (Sum.inr g)):=VP.k (k:=Sum.inr g) kd.sh;refine⟨C,_,_,_,kd.ins,T.cl,T.sh,B2 _,_,ge,_,rfl,?_⟩;refine Y1 (by rw[Z9.sh];simp) ?_;refine⟨C,_,_,_,kd.ins,T.cl,T.sh,B2 _,_,gg,_,rfl,?_⟩;refine Y1 (by rw[Z8.sh];simp) ?_;refine⟨sl 2,fun p1 R4=>?_⟩;refine up_in R4 _ fun H1 s1 h1=>?_;have N:=kd.mono s1;have gp:VP H1 Z.pk (.ref p1) none:=by rw[<-pn];exact VP.t (k:=[Sum.inr e,Sum.inr g]) N.pk h1
 refine⟨C,_,_,_,N.ins,T.cl,T.pk,Sb _,_,gp,_,rfl,?_⟩;refine Y1 (by simp) ?_;refine⟨C,_,_,_,N.ins,T.cl,T.pd,O0 _,_,by rw[<-Z9.pd];exact VP.k (k:=Sum.inr e) N.pd,?_⟩;refine⟨C,_,_,_,N.ins,T.cl,T.pd,O0 _,_,by rw[<-Z8.pd];exact VP.k (k:=Sum.inr g) N.pd,_,_,rfl,?_⟩
 have em:(1+(if(pg:Int) > (pe:Int)then(pg:Int)else(pe:Int)))=((1+max pe pg:Nat):Int):=by
  by_cases z:pe<pg
  .rw [Zn (by omega),Nat.max_eq_right (Zf z)];exact KB
  .rw [Zo (by omega),Nat.max_eq_left (by omega)];exact KB
 dsimp only[JG,rI0,J9];rw[em];refine⟨_,rfl,?_⟩;refine Y1 (by simp;omega) ?_;obtain⟨l1,O,w1,w2,w3⟩:=Z9.wo;obtain⟨l2,L,v1,v2,v3⟩:=Z8.wo;have J2:=w3.length;have G1:=v3.length;rw[ZA]at J2 G1;refine⟨sl 1,fun p2 R3=>?_⟩;refine up_in R3 _ fun H2 s2 h2=>?_;have N2:=N.mono s2;have I:=s1.trans s2;refine⟨C,_,_,_,N2.ins,T.cl,T.wo,LI _,.ref l1,by rw[<-w1];exact VP.k (k:=Sum.inr e) N2.wo,⟨O,Z1 (I _ _ w2)⟩,?_⟩;refine Tz O.length (fun i G H'=>Same H2 H'/\G.length=i*Y.length/\i<=us.length/\HasL H' G (((us.take i).flatMap fun u=>Y.map fun v=>W.pair u v).map W.dat)) ⟨Z6 _,by simp,Za _,by rw[List.take_zero];exact Z4⟩
  (fun i G H' z=>Ye (by rw[z.2.1];have:i*Y.length<=us.length*Y.length:=Nat.mul_le_mul_right _ z.2.2.1;omega)) ?_ ?_ ?_ ?_
 .intro i G H' hi z
  exact⟨O,O[i],Z1 ((I.trans z.1) _ _ w2),by simp[hi]⟩
 .intro G H' z
  exact⟨O,Z1 ((I.trans z.1) _ _ w2),ZF _⟩
 .intro i G H' x H'' R hi z yl hR
  obtain⟨rfl,yy⟩:=yl;have sz:=I.trans z.1;obtain⟨dx,r,R7⟩:=w3.get (yy O (Z1 (sz _ _ w2)));rw[ZG]at r
  cases hu1:us[i]? with
  |none=>rw[hu1]at r;cases r
  |some u=>
   rw[hu1]at r;cases r;have N0:=kd.mono sz;refine⟨C,_,_,_,N0.ins,T.cl,T.wo,LI _,.ref l2,by rw[<-v1];exact VP.k (k:=Sum.inr g) N0.wo,⟨L,Z1 (sz _ _ v2)⟩,?_⟩;refine NJ L.length (fun j ws o=>Same H'' o/\ws.length=i*Y.length+j/\j<=Y.length/\HasL o ws (((us.take i).flatMap fun u=>Y.map fun v=>W.pair u v).map W.dat++ ((Y.take j).map fun v=>W.pair u v).map W.dat)) ⟨Z6 _,by rw[z.2.1];rfl,Za _,by rw[List.take_zero,List.map_nil,List.map_nil,List.append_nil];exact z.2.2.2⟩
    (fun j ws o M=>Ye (by
     rw[M.2.1];have:(i+1)*Y.length<=us.length*Y.length:=Nat.mul_le_mul_right _ (by exact zA hi J2);rw[Nat.succ_mul]at this;have:=M.2.2.1;omega)) ?_ ?_ ?_ ?_
   .intro j ws o hj M
    exact⟨L,L[j],Z1 ((sz.trans M.1) _ _ v2),by simp[hj]⟩
   .intro ws o M
    exact⟨L,Z1 ((sz.trans M.1) _ _ v2),ZF _⟩
   .intro j ws o x2 H4 T2 hj M yl2 hT
    obtain⟨rfl,N4⟩:=yl2;have s3:=sz.trans M.1;obtain⟨dz,p,R6⟩:=v3.get (N4 L (Z1 (s3 _ _ v2)));rw[ZG]at p
    cases hv1:Y[j]? with
    |none=>rw[hv1]at p;cases p
    |some v=>
     rw[hv1]at p;cases p;refine⟨sl 2,fun t ht=>hT _ _ ?_⟩;have st:=Yb ht (.tup [x,x2]);refine⟨M.1.trans st,by rw[ZJ,M.2.1];rfl,(ZE.mp hv1).1,?_⟩;rw[take_snoc hv1,ZI,ZI,<-List.append_assoc];refine Z5 (M.2.2.2.mono st) (Z3 ?_);unfold W.dat Has;exact⟨t,_,rfl,YY,Z2 ((R7.mono s3).mono st) (Z2 ((R6.mono s3).mono st) Z4)⟩
   .intro ws o M
    have R5:L.length=Y.length:=G1;refine hR _ _ ⟨z.1.trans M.1,by rw[M.2.1,R5,Nat.succ_mul],(ZE.mp hu1).1,?_⟩;have y4:=M.2.2.2;have et:Y.take L.length=Y:=Ze (by exact oq9 G1);rw[et]at y4;rw[FG _ hu1,ZI];exact y4
 .intro G H' p3 z hp3
  have s3:=Yb hp3 (.lst G);have h3:upd H' p3 (.lst G) p3=some (.lst G):=YY;have z4:=z.2.2.2;rw[Ze (by exact oq9 J2)]at z4;have z5:=z4.mono s3;generalize upd H' p3 (.lst G)=o at s3 h3 z5 |-;have G3:=z.1.trans s3;have lz:G.length=us.length*Y.length:=by rw[z.2.1,J2]
  refine⟨p2,p3,[V.non],G,rfl,rfl,G3 _ _ h2,h3,Zf (Ye (by rw[lz];simp;exact Cj N3)),fun p4 R1=>?_⟩;have s4:=Yb R1 (.lst ([V.non]++ G));have h4:upd o p4 (.lst ([V.non]++ G)) p4=some (.lst ([V.non]++ G)):=YY;have z6:=z5.mono s4;generalize upd o p4 (.lst ([V.non]++ G))=H4 at s4 h4 z6 |-;have L2:=(I.trans G3).trans s4;have G2:=kd.mono L2;have hw:HasL H4 ([V.non]++ G) ((W.non::us.flatMap fun u=>Y.map fun v=>W.pair u v).map W.dat):=Z2 EC z6;refine⟨p4,_,rfl,.inl (Z1 h4),_,rfl,?_⟩;refine Y1 (by simp;exact Ci lz N3) ?_;refine⟨C,_,_,_,G2.ins,T.cl,T.pk,Sb _,sl 2,fun p5 N8=>?_⟩;refine up_in N8 _ fun H5 s5 h5=>?_;have N1:=G2.mono s5;refine⟨_,Ja.t (k:=[Sum.inr e,Sum.inr g]) N1.pk h5 (Ye (by exact WG b0)),?_⟩;have X:=N1.put_pk (putK S.pk [Sum.inr e,Sum.inr g] (.str y));have f6:KFr Z H (upd H5 Z.pk (.dT (putK S.pk [Sum.inr e,Sum.inr g] (.str y)))):=KFr.put (Same.kfr (L2.trans s5)) (by simp[KA6.ds]) _;have t6:TL H4 (upd H5 Z.pk (.dT (putK S.pk [Sum.inr e,Sum.inr g] (.str y)))):=(KFr.put (Same.kfr s5) (by simp[KA6.ds]) _:KFr Z H4 _).tl G2;generalize upd H5 Z.pk (.dT (putK S.pk [Sum.inr e,Sum.inr g] (.str y)))=H6 at X f6 t6 |-;refine⟨C,_,_,_,X.ins,T.cl,T.wo,LI _,_,Ja.k (k:=Sum.inr y) X.wo (Ye (by show S.wo.length<=1000;exact WG b1)),?_⟩;have J:=X.put_wo (putK S.wo (Sum.inr y) (.ref p4));have f7:=f6.put (x:=Z.wo) (by simp[KA6.ds]) (.dK (putK S.wo (Sum.inr y) (.ref p4)));have t7:=t6.trans ((KFr.put (KFr.refl Z H6) (x:=Z.wo) (by simp[KA6.ds]) (.dK (putK S.wo (Sum.inr y) (.ref p4)))).tl X);generalize upd H6 Z.wo (.dK (putK S.wo (Sum.inr y) (.ref p4)))=H7 at J f7 t7 |-;refine⟨C,_,_,_,J.ins,T.cl,T.he,O1 _,_,by rw[<-Z9.he];exact VP.k (k:=Sum.inr e) J.he,?_⟩;refine⟨C,_,_,_,J.ins,T.cl,T.he,O1 _,_,by rw[<-Z8.he];exact VP.k (k:=Sum.inr g) J.he,?_⟩;refine⟨C,_,_,_,J.ins,T.cl,T.he,O1 _,_,Ja.k (k:=Sum.inr y) J.he (Ye (by show S.he.length<=1000;exact WG b2)),?_⟩;have eh:(1+(he:Int)+(hg:Int))=((1+he+hg:Nat):Int):=by push_cast;rfl
  dsimp only[rI0,rI,J9];rw[eh];have U:=J.put_he (putK S.he (Sum.inr y) (.int ((1+he+hg:Nat):Int)));have f8:=f7.put (x:=Z.he) (by simp[KA6.ds]) (.dK (putK S.he (Sum.inr y) (.int ((1+he+hg:Nat):Int))));have t8:=t7.trans ((KFr.put (KFr.refl Z H7) (x:=Z.he) (by simp[KA6.ds]) (.dK (putK S.he (Sum.inr y) (.int ((1+he+hg:Nat):Int))))).tl J);generalize upd H7 Z.he (.dK (putK S.he (Sum.inr y) (.int ((1+he+hg:Nat):Int))))=H8 at U f8 t8 |-;refine⟨C,_,_,_,U.ins,T.cl,T.pd,O0 _,_,Ja.k (k:=Sum.inr y) U.pd (Ye (by show S.pd.length<=1000;exact WG b3)),?_⟩;have N7:=U.put_pd (putK S.pd (Sum.inr y) (.int ((1+max pe pg:Nat):Int)));have f9:=f8.put (x:=Z.pd) (by simp[KA6.ds]) (.dK (putK S.pd (Sum.inr y) (.int ((1+max pe pg:Nat):Int))));have t9:=t8.trans ((KFr.put (KFr.refl Z H8) (x:=Z.pd) (by simp[KA6.ds]) (.dK (putK S.pd (Sum.inr y) (.int ((1+max pe pg:Nat):Int))))).tl U);exact q _ p4 f9 N7 ⟨_,t9.2 _ _ h4,HasL.tl t9 _ hw⟩
end
end K4
namespace L2
open PySem
theorem zX(Z:KK top c d ks)(J:y∈ks.map (·.1)):c y<=5\/c y<=top:=by
 obtain⟨s,G⟩:=Vw J;have Y:=Z.at G
 cases s with
 |tags R=>obtain⟨O,N,M,_⟩:=Y;exact .inl (by omega)
 |pair a b=>obtain⟨O,N,M,L,_⟩:=Y;exact .inr L
theorem Mp{ks:List (Str×Shp)}(e:kvs.map (·.1)=ks.map (fun k=>(Sum.inr k.1:Key)))(h:y∉ks.map (·.1)):Y8 kvs (Sum.inr y)=none:=by
 unfold Y8
 cases q:kvs.find? fun Y=>decide (Y.1=Sum.inr y)with
 |none=>rfl
 |some Y=>
  have m:=List.mem_of_find?_eq_some q;have J:=List.find?_some q;have z:Y.1=Sum.inr y:=Zr J;have Z:(Sum.inr y:Key)∈kvs.map (·.1):=ZU.mpr ⟨Y,m,z⟩;rw[e]at Z;obtain⟨k,G,L⟩:=ZU.mp Z;exact Zp (ZU.mpr ⟨k,G,Sum.inr.inj L⟩) h
theorem US{ks:List (Str×Shp)}{s:Shp}(h:z∈(ks++[(y,s)]).map (·.1))(n:z≠y):z∈ks.map (·.1):=by
 rw[ZI,ZV]at h;rcases h with h|h
 .exact h
 .exact Zp (ZO.mp h) n
theorem KR.snoc(k:KR H S ks d)(t:TL H H')(J:KK 30 c d ks)(P:KK1 30 c d (ks.map (·.1)) y s)(D:y∉ks.map (·.1))(M:S'.sh=putK S.sh (Sum.inr y) v)(o:Has H' v s.dat)(R:S'.wo=putK S.wo (Sum.inr y) (.ref r))(i:∃xs,H' r=some (.lst xs)/\HasL H' xs ((wOf ks 3 s).map W.dat))(B:S'.he=putK S.he (Sum.inr y) (.int (hOf ks 3 s:Nat)))(T:S'.pd=putK S.pd (Sum.inr y) (.int (d y:Nat)))(C:∀x:Str,Y8 S'.tk (Sum.inr x)=if JS x s=true then some (.str y)else Y8 S.tk (Sum.inr x))(I:S'.tk.length<=S.tk.length+4)(F:∀x,JS x s=true->V4 ks x=none)(X:∀a b:Str,Y8 S'.pk [Sum.inr a,Sum.inr b]=if V0 a b s=true then some (.str y)else Y8 S.pk [Sum.inr a,Sum.inr b])(U:S'.pk.length<=S.pk.length+4)(A:∀a b,V0 a b s=true->Vg ks a b=none):
  KR H' S' (ks++[(y,s)]) d:=by
 have Q:=k.tl t;have j:=Mp k.ke D
 have l:VA (ks++[(y,s)]) 3 y=wOf ks 3 s:=by
  rw[XT (TD D)]
  cases s with
  |tags m=>rfl
  |pair a b=>
   obtain⟨O,N,f,p,L,G⟩:=P;have w:=Nat.le_max_left (d a) (d b);have u:=Nat.le_max_right (d a) (d b);show(W.non::_)=(W.non::_);rw[J1 J _ 2 a O,J1 J _ 2 b N,UO J 2 3 a O (by omega) (by exact I0 L G),UO J 2 3 b N (by exact QB L G) (by exact Iz L G)]
 have h:X0 (ks++[(y,s)]) 3 y=hOf ks 3 s:=by
  rw[WJ (TD D)]
  cases s with
  |tags m=>rfl
  |pair a b=>
   obtain⟨O,N,f,p,L,G⟩:=P;have w:=Nat.le_max_left (d a) (d b);have u:=Nat.le_max_right (d a) (d b);show 1+_+_=1+_+_;rw[Ug J _ 2 a O,Ug J _ 2 b N,Xl J 2 3 a O (by omega) (by exact I0 L G),Xl J 2 3 b N (by exact QB L G) (by exact Iz L G)]
 have E:∀{z:Str},z≠y->¬(Sum.inr z:Key)=Sum.inr y:=fun n q=>n (Sum.inr.inj q);obtain⟨b1,b2,b3,b4,b5,b6⟩:=k.ln;refine⟨?_,fun z g Z=>?_,fun z Z=>?_,fun z Z=>?_,fun z Z=>?_,fun x=>?_,fun a b=>?_,?_⟩
 .rw [M,Ua v j,ZI,ZI,k.ke];rfl
 .rw [M,Jg]
  by_cases e:z=y
  .subst e
   rw[TD D]at Z;cases Z;rw[Zn rfl];exact⟨v,rfl,o⟩
  .rw [Zo (E e)]
   have Y:=US (ZU.mpr ⟨_,XA Z,rfl⟩) e;rw[WY Y]at Z;exact Q.sh z g Z
 .rw [R,Jg]
  by_cases e:z=y
  .subst e
   rw[Zn rfl,l];obtain⟨xs,g1,g2⟩:=i;exact⟨r,xs,rfl,g1,g2⟩
  .rw [Zo (E e)]
   have Y:=US Z e;rw[J1 J _ 3 z Y];exact Q.wo z Y
 .rw [B,Jg]
  by_cases e:z=y
  .subst e
   rw[Zn rfl,h]
  .rw [Zo (E e)]
   have Y:=US Z e;rw[Ug J _ 3 z Y];exact k.he z Y
 .rw [T,Jg]
  by_cases e:z=y
  .subst e
   rw[Zn rfl]
  .rw [Zo (E e)]
   exact k.pd z (US Z e)
 .rw [C x]
  have e:V4 (ks++[(y,s)]) x=(V4 ks x).or (if JS x s=true then some y else none):=by
   unfold V4;rw[Xm]
   cases ks.find? fun k=>JS x k.2 with
   |some k=>rfl
   |none=>
    show Option.map _ (if JS x s=true then some (y,s)else none)=_;cases JS x s <;> rfl
  rw[e]
  cases hx:JS x s with
  |true=>rw[F x hx];rfl
  |false=>
   rw[k.tk x];cases V4 ks x <;> rfl
 .rw [X a b]
  have e:Vg (ks++[(y,s)]) a b=(Vg ks a b).or (if V0 a b s=true then some y else none):=by
   unfold Vg;rw[Xm]
   cases ks.find? fun k=>V0 a b k.2 with
   |some k=>rfl
   |none=>
    show Option.map _ (if V0 a b s=true then some (y,s)else none)=_;cases V0 a b s <;> rfl
  rw[e]
  cases hx:V0 a b s with
  |true=>rw[A a b hx];rfl
  |false=>
   rw[k.pk a b];cases Vg ks a b <;> rfl
 .rw [ZJ,List.length_singleton,M,R,B,T]
  have:=Vp S.sh (Sum.inr y) v;have:=Vp S.wo (Sum.inr y) (.ref r);have:=Vp S.he (Sum.inr y) (.int (hOf ks 3 s:Nat));have:=Vp S.pd (Sum.inr y) (.int (d y:Nat));exact⟨by omega,by omega,by omega,by exact Cg this b4,by exact QA I b5,by exact QA U b6⟩
end L2
namespace K4
open PySem L2
section
variable{f g C gt gp gn:Addr}
def Rx(C:Addr):Sp:=fun vs H Q _=>∃(A:KA6)(S:KC)(y:Str)(v:V)(s:Shp)(ks:List (Str×Shp))(c d:Str->Nat),vs=[.ref A.t,.str y,v]/\KD H C A S/\KR H S ks d/\KK 30 c d ks/\KK1 30 c d (ks.map (·.1)) y s/\y∉ks.map (·.1)/\
 (1<=y.length/\y.length<=8/\∀c∈y.cps.toList,97<=c/\c<97+26)/\(∀ts,s=.tags ts->Wds 65 ts)/\(∀x,JS x s=true->V4 ks x=none)/\(∀a b,V0 a b s=true->Vg ks a b=none)/\Has H v s.dat/\ks.length<=6/\
 ∀H' S',KFr A H H'->KD H' C A S'->KR H' S' (ks++[(y,s)]) d->Q .non H'
theorem yb(A:KA6):(W5 A).lookup ("take_tags":Str)=none:=rfl
theorem yd(A:KA6):(W5 A).lookup ("take_pair":Str)=none:=rfl
theorem Lq:Yr ["self","name","shape"] ["self","name","shape"] (Yh BO):=Y7
theorem Ka(B:Blt mg)(T:KCl K C)(F:Fun K "take" "Kinds.take" BO f fd)(GN:Yo P w K mg base CX0 n gn nd' ["text"] (U8 97))(bN:Binds K nd' ["text"] [])(kN:W.keepIn K (.ref gn)=true)(mN:mg "is_name"=some (.ref gn))(GT:Yo P w K mg base CX0 n gt td ["self","name","tags"] (Nn C))(bT:Binds K td ["self","name","tags"] [])(mT:JZ K C "take_tags" gt)(GP:Yo P w K mg base CX0 n gp pd' ["self","name","one","other"] (Rr C))(bP:Binds K pd' ["self","name","one","other"] [])(mP:JZ K C "take_pair" gp):
  Yo P w K mg base CX0 (n+1) f fd ["self","name","shape"] (Rx C):=by
 refine F.oq Lq fun G3 A Z8 s H vs Q E hr h=>?_;obtain⟨L,S,y,v,s,U,c,d,rfl,kd,R,o,k1,ny,⟨y1,y8,yc⟩,wt,D,I,hv,M,q⟩:=h;have hu:=V1 hr;refine⟨_,YW (Yx (Jt (V9 (Va GN hr rfl mN kN bN .nil VH (pa1 (pv 1))))) (YZ V8) Yl)
  (YW (Yx (Ju (XC hu (pv 1) (VI (pv 0) rfl))) (YZ V8) Yl)
  (YW (Yx (PW.pt (JU (Yi VB (Y0 Yu rfl B.len Zs (pa1 (pv 2))) YX (Yq _)) (JH (Yi VB (Yd Yg (pv 2) YX) Yn (Yq _)))))
   (YZ (JB (JM (pv 0) T.cl mT GT hr bT .nil VH (pa2 (pv 1) (Yd Yg (pv 2) YX)))))
   (YZ (Yx (PW.pt (JU (Yi VB (Y0 Yu rfl B.len Zs (pa1 (pv 2))) YX (Yq _)) (JH (Yi VB (Yd Yg (pv 2) YX) Yn (Yq _)))))
    (YZ (JB (JM (pv 0) T.cl mP GP hr bP .nil VH (pa3 (pv 1) (Yd Yg (pv 2) YX) (Yd Yg (pv 2) YX)))))
    (YZ V8))))
  (YZ (VW hu (VI (pv 0) rfl) (pv 1) (pv 2) rfl)))),?_⟩
 show let a:=_;let b:=_;let c:=_;let d:=_;let e:=Y9 _ c d;let f:=Yj (Y9 _ b e) a;let g:=_;let h:=Yj (Y9 _ g _) f;let i:=_;Yj (Y9 _ i _) h _ _ _
 intros
 refine⟨y,rfl,y1,y8,yc,fun H1 s1=>⟨_,rfl,?_⟩⟩;refine Y1 (by simp) ?_;have Z:=kd.mono s1;have X:=R.tl s1.tl;have N:=hv.mono s1;have gn:VP H1 L.sh (.str y) none:=by rw[<-Mp R.ke ny];exact VP.k (k:=Sum.inr y) Z.sh
 refine⟨C,_,_,_,Z.ins,T.cl,T.sh,B2 _,_,gn,_,rfl,?_⟩;refine Y1 (by simp) ?_;obtain⟨b1,b2,b3,b4,b5,b6⟩:=R.ln
 cases s with
 |tags u=>
  obtain⟨p,l,rfl,O,hl⟩:=JO N;have l2:([V.str "tags",V.ref l]:List V).length=2:=rfl;refine⟨p,_,rfl,.inr (Z0 O),rfl,_,rfl,?_⟩;refine VJ (by simp) ?_;refine⟨_,_,Z0 O,rfl,rfl,_,rfl,?_⟩;refine VJ (by simp) ?_;obtain⟨t1,t4,_,t0,_⟩:=k1;refine⟨_,_,Z.ins,yb _,_,_,Z0 O,rfl,L,S,y,l,u,rfl,Z,hl,t1,t4,wt u rfl,fun x hx=>?_,by exact Ww b5 M,by exact Ww b2 M,by exact Ww b3 M,by exact Ww b4 M,fun H2 G2 r f2 Y tv tl t=>?_⟩
  .rw [R.tk x,D x (by unfold JS;exact decide_eq_true hx)];rfl
  .have tl2:=f2.tl Z
   refine⟨C,_,_,_,Y.ins,T.cl,T.sh,B2 _,_,Ja.k (k:=Sum.inr y) Y.sh (Ye (by show S.sh.length<=1000;exact P9 b1 M)),?_⟩;have j:=Y.put_sh (putK S.sh (Sum.inr y) (.ref p));have f3:=f2.put (x:=L.sh) (by simp[KA6.ds]) (.dK (putK S.sh (Sum.inr y) (.ref p)));have J:=tl2.trans ((KFr.put (KFr.refl L H2) (x:=L.sh) (by simp[KA6.ds]) (.dK (putK S.sh (Sum.inr y) (.ref p)))).tl Y);have G:=(KFr.put (KFr.refl L H2) (x:=L.sh) (by simp[KA6.ds]) (.dK (putK S.sh (Sum.inr y) (.ref p)))).tl Y;refine q _ _ (s1.kfr.trans f3) j (KR.snoc (v:=.ref p) (r:=r) X J o ⟨t1,t4,by assumption,t0,by assumption⟩ ny rfl (Has.tl J _ N) rfl ⟨_,G.2 _ _ t,?_⟩ rfl (by rw[t0];rfl) (fun x=>?_) tl D (fun a b=>rfl) (Nat.le_add_right _ _) I)
   .show HasL _ (V.non::u.map V.str) ((W.non::u.map W.tag).map W.dat)
    exact Z2 EC (Ms u)
   .rw [tv x]
    unfold JS
    by_cases m:x∈u
    .rw [Zn m,Zn (decide_eq_true m)]
    .rw [Zo m,Zo (by simp[m])]
 |pair a b=>
  obtain⟨p,rfl,O⟩:=V2 N;obtain⟨q1,q2,q3,q4,q5,q6⟩:=id k1;have m1:=Nat.le_max_left (d a) (d b);have m2:=Nat.le_max_right (d a) (d b);refine⟨p,_,rfl,.inr (Z0 O),rfl,_,rfl,?_⟩;refine Y1 (by simp) ?_;refine Y1 (by simp) ?_;refine⟨p,_,rfl,.inr (Z0 O),rfl,_,rfl,?_⟩;refine VJ (by simp) ?_;refine⟨_,_,Z0 O,rfl,rfl,_,rfl,?_⟩;refine VJ (by simp) ?_;obtain⟨la,pa,_⟩:=UY o 3 a q1 (by exact I0 q5 q6);obtain⟨lb,pb,_⟩:=UY o 3 b q2 (by exact Iz q5 q6)
  have pt:∀z,z∈U.map (·.1)->Pt H1 S z (VA U 3 z) (X0 U 3 z) (d z):=fun z hz=>by
   obtain⟨s',G1⟩:=Vw hz;obtain⟨v',e1,_⟩:=R.sh z s' G1;exact⟨by rw[e1];rfl,X.wo z hz,R.he z hz,R.pd z hz⟩
  have ca:c a<=30:=by rcases zX o q1 with h|h <;> omega
  have cb:c b<=30:=by rcases zX o q2 with h|h <;> omega
  refine⟨_,_,Z.ins,yd _,_,_,Z0 O,rfl,_,_,Z0 O,rfl,L,S,y,a,b,VA U 3 a,VA U 3 b,X0 U 3 a,X0 U 3 b,d a,d b,rfl,Z,pt a q1,pt b q2,?_,by exact Cf q5 q6,?_,by exact P8 la ca,by exact P8 lb cb,by exact Ww b6 M,by exact Ww b2 M,by exact Ww b3 M,by exact Ww b4 M,fun z=>by subst z;exact ny q1,fun z=>by subst z;exact ny q2,fun H2 r f2 Y t=>?_⟩
  .rw [R.pk a b,I a b (by unfold V0;simp)];rfl
  .rw [la,lb];exact Ce q3 q4
  .have tl2:=f2.tl Z
   refine⟨C,_,_,_,Y.ins,T.cl,T.sh,B2 _,_,Ja.k (k:=Sum.inr y) Y.sh (Ye (by show S.sh.length<=1000;exact P9 b1 M)),?_⟩;have j:=Y.put_sh (putK S.sh (Sum.inr y) (.ref p));have f3:=f2.put (x:=L.sh) (by simp[KA6.ds]) (.dK (putK S.sh (Sum.inr y) (.ref p)));have G:=(KFr.put (KFr.refl L H2) (x:=L.sh) (by simp[KA6.ds]) (.dK (putK S.sh (Sum.inr y) (.ref p)))).tl Y;have J:=tl2.trans G;obtain⟨xs,J2,Z9⟩:=t;refine q _ _ (s1.kfr.trans f3) j (KR.snoc (v:=.ref p) (r:=r) X J o k1 ny rfl (Has.tl J _ N) rfl ⟨xs,G.2 _ _ J2,HasL.tl G _ Z9⟩ rfl (by rw[q5]) (fun x=>rfl) (Nat.le_add_right _ _) D (fun e g=>?_) (by have:=Vp S.pk [Sum.inr a,Sum.inr b] (.str y);show(putK S.pk [Sum.inr a,Sum.inr b] (V.str y)).length<=_;exact Cd this) I);show Y8 (putK S.pk [Sum.inr a,Sum.inr b] (V.str y)) [Sum.inr e,Sum.inr g]=_;rw[Jg];unfold V0
   by_cases h1:a=e
   .by_cases h2:b=g
    .subst h1 h2;simp
    .have z:¬([Sum.inr e,Sum.inr g]:List Key)=[Sum.inr a,Sum.inr b]:=fun w=>by injection w with w1 w2;injection w2 with w2 _;exact h2 (Sum.inr.inj w2).symm
     rw[Zo z,Zo (by simp[h2])]
   .have z:¬([Sum.inr e,Sum.inr g]:List Key)=[Sum.inr a,Sum.inr b]:=fun w=>by injection w with w1 _;exact h1 (Sum.inr.inj w1).symm
    rw[Zo z,Zo (by simp[h1])]
end
end K4
namespace L2
open PySem
theorem Jo(hx:H x=some (.ins C dx fs))(Z:H p=none):
  upd (upd H p o) x (.ins C dx (Vj f (.ref p) fs)) x=some (.ins C dx (Vj f (.ref p) fs))/\upd (upd H p o) x (.ins C dx (Vj f (.ref p) fs)) p=some o/\p≠x/\∀b u,b≠x->H b=some u->upd (upd H p o) x (.ins C dx (Vj f (.ref p) fs)) b=some u:=by
 have Y:p≠x:=(Yc hx Z).symm;exact⟨YY,(Ya Y).trans YY,Y,fun b u J h=>by rw[Ya J,Ya (Yc h Z)];exact h⟩
theorem KK.take(h:KK top c d ks)(i:Nat):KK top c d (ks.take i):=fun j y s e=>by
 have Y:j<i:=by
  have:=(ZE.mp e).1;rw[ZL]at this;exact OC this
 rw[List.getElem?_take,Zn Y]at e;have q:=h j y s e;rw[List.take_take,Nat.min_eq_left (Zf Y)];exact q
theorem Oy{i j a b:Nat}(h:4*i+a=4*j+b)(Z:a<4)(Y:b<4):i=j:=by omega
theorem KG.apart(g:KG ks){i j:Nat}(hi:ks[i]?=some (y,.tags ts))(R:ks[j]?=some (z,.tags us))(B:x∈ts)(T:x∈us):i=j:=by
 obtain⟨Y,wd,q⟩:=g.tg;obtain⟨r,O,rfl⟩:=q i y ts hi;obtain⟨S,Z,rfl⟩:=q j z us R;obtain⟨a,L,N⟩:=List.mem_iff_getElem.mp B;obtain⟨b,G,M⟩:=List.mem_iff_getElem.mp T;rw[ZL,List.length_drop]at L G;obtain⟨I,A⟩:=Nat.lt_min.mp L;obtain⟨F,E⟩:=Nat.lt_min.mp G;rw[List.getElem_take,List.getElem_drop]at N M;have e:Y[4*i+a]'(Nat.add_lt_of_lt_sub' A)=Y[4*j+b]'(Nat.add_lt_of_lt_sub' E):=N.trans M.symm;have J:=List.pairwise_iff_getElem.mp wd.nd
 have D:4*i+a=4*j+b:=by
  rcases Nat.lt_trichotomy (4*i+a) (4*j+b)with h|h|h
  .exact Zp e (J _ _ _ _ h)
  .exact h
  .exact Zp e.symm (J _ _ _ _ h)
 exact Oy D (by exact P7 I O) (by exact P7 F Z)
theorem KG.ntk(g:KG ks)(hi:ks[i]?=some (y,s))(x:Str)(h:JS x s=true):V4 (ks.take i) x=none:=by
 cases s with
 |pair a b=>cases h
 |tags L=>
  have N:x∈L:=Zr h;unfold V4
  cases e:(ks.take i).find? fun k=>JS x k.2 with
  |none=>rfl
  |some k=>
   have m:=List.mem_of_find?_eq_some e;have q:=List.find?_some e;obtain⟨z,M⟩:=k
   cases M with
   |pair a b=>cases q
   |tags G=>
    have Y:x∈G:=Zr q;obtain⟨j,J,O⟩:=List.mem_iff_getElem.mp m;have Z:j<i:=by rw[ZL]at J;exact OC J
    have R:ks[j]?=some (z,.tags G):=by
     have:=ZC J;rw[O,List.getElem?_take,Zn Z]at this;exact this
    have:=g.apart hi R N Y;omega
theorem KG.npk(g:KG ks)(hi:ks[i]?=some (y,s))(a b:Str)(h:V0 a b s=true):Vg (ks.take i) a b=none:=by
 have G:∀{Y:Shp},V0 a b Y=true->Y=.pair a b:=fun{Y} h=>by
  cases Y with
  |tags R=>cases h
  |pair c e=>
   unfold V0 at h;rw[ZX]at h;rw[Zr h.1,Zr h.2]
 unfold Vg
 cases e:(ks.take i).find? fun k=>V0 a b k.2 with
 |none=>rfl
 |some k=>
  have m:=List.mem_of_find?_eq_some e;have q:=List.find?_some e;obtain⟨z,Y⟩:=k;have O:=G h;have M:Y=.pair a b:=G q;subst O M;obtain⟨j,J,L⟩:=List.mem_iff_getElem.mp m;have Z:j<i:=by rw[ZL]at J;exact OC J
  have N:ks[j]?=some (z,.pair a b):=by
   have:=ZC J;rw[L,List.getElem?_take,Zn Z]at this;exact this
  have:=g.pr i j y z a b hi N;omega
end L2
namespace K4
open PySem L2
section
variable{f g C gt:Addr}
def Nt(C:Addr):Sp:=fun vs H Q _=>∃(x dx l:Addr)(xs:List V)(ks:List (Str×Shp))(c d:Str->Nat),vs=[.ref x,.ref l]/\H x=some (.ins C dx [])/\H l=some (.lst xs)/\HasL H xs (ks.map Jf)/\KK 30 c d ks/\(ks.map (·.1)).Nodup/\KG ks/\0<ks.length/\ks.length<=6/\
 ∀H',(∀b o,b≠x->H b=some o->H' b=some o)->KI H' C x ks d->Q .non H'
theorem zU(A:KA6):(W5 A).lookup ("take":Str)=none:=rfl
theorem Nz:Yr ["self","told","name","shape"] ["self","told"] (Yh IL):=Y7
theorem Oa(B:Blt mg)(T:KCl K C)(F:Fun K "__init__" "Kinds.__init__" IL f fd)(hM:mg "MOST_KINDS"=some u)(rM:RelV (.int 6) u)(GT:Yo P w K mg base CX0 n gt td ["self","name","shape"] (Rx C))(bT:Binds K td ["self","name","shape"] [])(mT:JZ K C "take" gt):
  Yo P w K mg base CX0 (n+1) f fd ["self","told"] (Nt C):=by
 refine F.oq Nz fun cdv A R1 s H vs Q E hr h=>?_;obtain⟨x,L,l,xs,ks,c,d,rfl,hx,hl,G1,kk,nd,kg,k0,k6,q⟩:=h;refine⟨_,YW (Yx (Jt (Mz XD XD YX (Y0 Yu rfl B.len Zs (pa1 (pv 1))) (Jk rfl hM rM))) (YZ V8) Yl)
  (YW (UU (pv 0) JC rfl) (YW (UU (pv 0) JC rfl) (YW (UU (pv 0) JC rfl) (YW (UU (pv 0) JC rfl) (YW (UU (pv 0) JC rfl) (YW (UU (pv 0) IX rfl)
  (YZ (Vu Zt rfl (V5 (pv 1)) (Vn (n:=2) rfl (Ys (Yk 2 Nz.nd) (Ys (Yk 3 Nz.nd) VO)))
   (YZ (JB (JM (pv 0) T.cl mT GT hr bT .nil VH (pa2 (pv 2) (pv 3))))))))))))),?_⟩
 show let a:=_;let b:=UE _ _ a;let c:=Yj _ b;let d:=Yj _ c;let e:=Yj _ d;let f:=Yj _ e;let g:=Yj _ f;let h:=Yj _ g;let i:=_;Yj (Y9 _ i _) h _ _ _
 intros
 have lx:=G1.length;rw[ZA]at lx;refine⟨l,_,rfl,.inl (Z1 hl),_,rfl,?_⟩;refine VJ (by simp;omega) ?_;refine⟨_,rfl,?_⟩;refine Y1 (by simp;omega) ?_;intro D Z8;refine⟨x,C,L,_,rfl,by rw[Ya (Yc hx Z8)];exact hx,T.cl,T.sh,by decide,?_⟩;obtain⟨x1,a1,n1,p⟩:=Jo (f:="shapes") (o:=.dK []) hx Z8;generalize upd (upd H D (.dK [])) x (.ins C L (Vj "shapes" (.ref D) []))=H1 at x1 a1 p |-;intro r M;refine⟨x,C,L,_,rfl,by rw[Ya (Yc x1 M)];exact x1,T.cl,T.wo,(by show 1<1000;decide),?_⟩;obtain⟨x2,a2,n2,k⟩:=Jo (f:="worths") (o:=.dK []) x1 M;generalize upd (upd H1 r (.dK [])) x (.ins C L (Vj "worths" (.ref r) (Vj "shapes" (.ref D) [])))=H2 at x2 a2 k |-;intro p3 G;refine⟨x,C,L,_,rfl,by rw[Ya (Yc x2 G)];exact x2,T.cl,T.he,(by show 2<1000;decide),?_⟩;obtain⟨x3,a3,n3,m⟩:=Jo (f:="heights") (o:=.dK []) x2 G;generalize upd (upd H2 p3 (.dK [])) x (.ins C L (Vj "heights" (.ref p3) (Vj "worths" (.ref r) (Vj "shapes" (.ref D) []))))=H3 at x3 a3 m |-;intro p4 J;refine⟨x,C,L,_,rfl,by rw[Ya (Yc x3 J)];exact x3,T.cl,T.pd,(by show 3<1000;decide),?_⟩;obtain⟨x4,a4,n4,t⟩:=Jo (f:="pairs_deep") (o:=.dK []) x3 J;generalize upd (upd H3 p4 (.dK [])) x (.ins C L (Vj "pairs_deep" (.ref p4) (Vj "heights" (.ref p3) (Vj "worths" (.ref r) (Vj "shapes" (.ref D) [])))))=H4 at x4 a4 t |-;intro p5 Z;refine⟨x,C,L,_,rfl,by rw[Ya (Yc x4 Z)];exact x4,T.cl,T.tk,(by show 4<1000;decide),?_⟩;obtain⟨x5,a5,n5,j⟩:=Jo (f:="tag_kinds") (o:=.dK []) x4 Z;generalize upd (upd H4 p5 (.dK [])) x (.ins C L (Vj "tag_kinds" (.ref p5) (Vj "pairs_deep" (.ref p4) (Vj "heights" (.ref p3) (Vj "worths" (.ref r) (Vj "shapes" (.ref D) []))))))=H5 at x5 a5 j |-;intro p6 Y;refine⟨x,C,L,_,rfl,by rw[Ya (Yc x5 Y)];exact x5,T.cl,T.pk,(by show 5<1000;decide),?_⟩;obtain⟨x6,a6,n6,X⟩:=Jo (f:="pair_kinds") (o:=.dT []) x5 Y;generalize upd (upd H5 p6 (.dT [])) x (.ins C L (Vj "pair_kinds" (.ref p6) (Vj "tag_kinds" (.ref p5) (Vj "pairs_deep" (.ref p4) (Vj "heights" (.ref p3) (Vj "worths" (.ref r) (Vj "shapes" (.ref D) [])))))))=H6 at x6 a6 X |-
 let R:KA6:=⟨x,L,D,r,p3,p4,p5,p6⟩
 have frame:∀b o,b≠x->H b=some o->H6 b=some o:=fun b o O h=>X b o O (j b o O (t b o O (m b o O (k b o O (p b o O h)))));have N7:=k _ _ n1 a1;have N6:=m _ _ n1 N7;have N5:=t _ _ n1 N6;have N4:=j _ _ n1 N5;have I8:=X _ _ n1 N4;have N3:=m _ _ n2 a2;have N2:=t _ _ n2 N3;have N1:=j _ _ n2 N2;have I7:=X _ _ n2 N1;have N0:=t _ _ n3 a3;have L2:=j _ _ n3 N0;have I6:=X _ _ n3 L2;have G3:=j _ _ n4 a4;have I5:=X _ _ n4 G3;have I4:=X _ _ n5 a5
 have R4:R.ds.Nodup:=by
  have I3:=Yc a1 M;have I2:=Yc N7 G;have I1:=Yc N6 J;have F9:=Yc N5 Z;have F8:=Yc N4 Y;have F7:=Yc a2 G;have F6:=Yc N3 J;have F5:=Yc N2 Z;have F4:=Yc N1 Y;have F3:=Yc a3 J;have F2:=Yc N0 Z;have F1:=Yc L2 Y;have D3:=Yc a4 Z;have D0:=Yc G3 Y;have T2:=Yc a5 Y;simp[KA6.ds,R,I3,I2,I1,F9,F8,F7,F6,F5,F4,F3,F2,F1,D3,D0,T2]
 have kd:KD H6 C R ⟨[],[],[],[],[],[]⟩:=⟨x6,I8,I7,I6,I5,I4,a6,R4⟩
 have R3:∀b,b∈R.ds->H b=none:=fun b O=>by
  cases e:H b with
  |none=>rfl
  |some o=>
   simp only[KA6.ds,R,Zb,List.not_mem_nil,or_false]at O;rcases O with z|z|z|z|z|z
   .subst z;rw[Z8]at e;cases e
   .subst z;rw[p _ _ n2 e]at M;cases M
   .subst z;rw[k _ _ n3 (p _ _ n3 e)]at G;cases G
   .subst z;rw[m _ _ n4 (k _ _ n4 (p _ _ n4 e))]at J;cases J
   .subst z;rw[t _ _ n5 (m _ _ n5 (k _ _ n5 (p _ _ n5 e)))]at Z;cases Z
   .subst z;rw[j _ _ n6 (t _ _ n6 (m _ _ n6 (k _ _ n6 (p _ _ n6 e))))]at Y;cases Y
 have R5:l≠x:=Vv hl hx (by intro z;cases z);have G2:=frame _ _ R5 hl;have Z9:TL H H6:=⟨fun b ys h=>frame _ _ (Vv h hx (by intro z;cases z)) h,fun b ys h=>frame _ _ (Vv h hx (by intro z;cases z)) h⟩;have R7:=HasL.tl Z9 _ G1;refine⟨⟨_,Z1 G2⟩,?_⟩
 let I:Nat->St->Hp->Prop:=fun i U H'=>∃S z1 z2,KFr R H6 H'/\KD H' C R S/\KR H' S (ks.take i) d/\U=[some (.ref x),some (.ref l),z1,z2]
 refine WO (xs:=xs) I ⟨_,_,_,KFr.refl _ _,kd,?_,rfl⟩ ?_ ?_ ?_
 .rw [List.take_zero]
  exact⟨rfl,fun y s e=>by simp[Vd]at e,fun y hy=>by simp at hy,fun y hy=>by simp at hy,fun y hy=>by simp at hy,fun y=>rfl,fun a b=>rfl,by decide⟩
 .rintro i U H' _ ⟨S,z1,z2,fr,kd',kr',rfl⟩
  exact Z1 ((fr.tl kd).2 _ _ G2)
 .rintro BB RR i v U H' hv ⟨S,z1,z2,fr,kd',kr',rfl⟩
  have I9:=(ZE.mp hv).1;obtain⟨dv,N,T0⟩:=R7.get hv;rw[ZG]at N
  cases hk:ks[i]? with
  |none=>rw[hk]at N;cases N
  |some ys=>
   rw[hk]at N;cases N;obtain⟨y,sh⟩:=ys;have N8:=fr.tl kd;obtain⟨a,v2,rfl,ha,R8⟩:=WK (Has.tl N8 _ T0);have my:y∈ks.map (·.1):=ZU.mpr ⟨_,ZH hk,rfl⟩
   have ny:y∉(ks.take i).map (·.1):=fun hm=>by
    have q':((ks.take i++[(y,sh)]).map (·.1)).Nodup:=by rw[<-take_snoc hk];exact nd.sublist ((List.take_sublist _ _).map _)
    rw[ZI]at q';exact(List.nodup_append.mp q').2.2 y hm y (by simp) rfl
   refine⟨_,Z0 ha,rfl,?_⟩;refine⟨_,_,kd'.ins,zU R,R,S,y,v2,sh,ks.take i,c,d,rfl,kd',kr',kk.take i,kk i y sh hk,ny,⟨(kg.nm.len y my).1,(kg.nm.len y my).2,kg.nm.abc y my⟩,fun ts e=>?_,kg.ntk hk,kg.npk hk,R8,by rw[ZL];exact Cc k6,fun H2 S2 f2 R6 J2=>?_⟩
   .subst e
    exact kg.tags (ZH hk)
   .rw [<-take_snoc hk]at J2
    exact⟨S2,_,_,fr.trans f2,R6,J2,rfl⟩
 .rintro U H' ⟨S,z1,z2,fr,kd',kr',rfl⟩
  rw[Ze (by exact oq9 lx)]at kr';refine q H' (fun b o O h=>fr b o (fun hm=>?_) (frame b o O h)) ⟨R,S,rfl,kd',kr'⟩;rw[R3 b hm]at h;cases h
end
end K4
namespace L2
open PySem
theorem Uu{α:Type}{p:α->Bool}{l:List α}{x:α}(h:(l.take i).find? p=none)(e:l[i]?=some x)(Y:p x=true):l.find? p=some x:=by
 have Z:=(ZE.mp e).1;have J:l.drop i=x::l.drop (i+1):=by rw[List.drop_eq_getElem_cons Z,(ZE.mp e).2]
 rw[<-List.take_append_drop i l,List.find?_append,h,J,List.find?_cons,Y]
 rfl
theorem PQ(h:Vd ks y=some s):∃i:Nat,ks[i]?=some (y,s):=List.mem_iff_getElem?.mp (XA h)
theorem Nj(g:KG ks)(h:Vd ks y=some (.tags ts))(m:t∈ts):V4 ks t=some y:=by
 obtain⟨i,Z⟩:=PQ h;have Y:JS t (.tags ts)=true:=by unfold JS;exact decide_eq_true m
 have n:=g.ntk Z t Y;unfold V4 at n |-
 rw[Uu (by cases e:(ks.take i).find? fun k=>JS t k.2 with
  |none=>rfl
  |some k=>rw[e]at n;cases n) Z Y]
 rfl
theorem M4(g:KG ks)(h:Vd ks y=some (.pair a b)):Vg ks a b=some y:=by
 obtain⟨i,Z⟩:=PQ h;have Y:V0 a b (.pair a b)=true:=by unfold V0;simp
 have n:=g.npk Z a b Y;unfold Vg at n |-
 rw[Uu (by cases e:(ks.take i).find? fun k=>V0 a b k.2 with
  |none=>rfl
  |some k=>rw[e]at n;cases n) Z Y]
 rfl
theorem Tp(h:Has H v (.tup [.str b,d])):∃a u,v=.ref a/\H a=some (.tup [.str b,u])/\Has H u d:=by
 obtain⟨t,O,rfl,G,L⟩:=Y6 h;obtain⟨R,B,rfl,N,Z⟩:=Ym L;obtain⟨J,T,rfl,M,Y⟩:=Ym Z;obtain rfl:=Vb Y;obtain rfl:=has_str N;exact⟨t,J,rfl,G,M⟩
def FY:List (Option Str)->Option (List Str)
 |[]=>some []
 |none::_=>none
 |some x::r=>(FY r).map (x:: ·)
theorem Nc:∀Y:List Str,FY (Y.map some)=some Y
 |[]=>rfl
 |z::Y=>by show(FY (Y.map some)).map (z:: ·)=_;rw[Nc Y];rfl
theorem Rk:∀{l:List (Option Str)},none∈l->FY l=none
 |none::l,_=>rfl
 |some y::l,h=>by
  show(FY l).map (y:: ·)=none;rw[Rk ((Zb.mp h).resolve_left fun e=>nomatch e)];rfl
theorem Mm:∀{l:List (Option Str)},none∉l->∃Y,l=List.map some Y
 |[],_=>⟨[],rfl⟩
 |none::_,h=>Zp ZY h
 |some y::l,h=>let⟨Y,e⟩:=Mm (l:=l) fun m=>h (ZK _ m);⟨y::Y,by rw[e];rfl⟩
def Fi:V->Option Str
 |.str y=>some y
 |_=>none
open Classical in
noncomputable def own (ks:List (Str×Shp)) (hd:Hds) (kv:List (Key×V)):Bd->List Str->Option Str
 |.tag t,_=>V4 ks t
 |.name x,_=>(Y8 kv (Sum.inr x)).bind Fi
 |.pair _ _,zs=>match zs with|[a,b]=>Vg ks a b|_=>none
 |.one _,zs=>match zs with|[z]=>(match Vd ks z with|some (.pair a _)=>some a|_=>none)|_=>none
 |.other _,zs=>match zs with|[z]=>(match Vd ks z with|some (.pair _ b)=>some b|_=>none)|_=>none
 |.choose _ ts _,zs=>match zs with|z::y::r=>if Vd ks z=some (.tags ts)/\∀u∈r,u=y then some y else none|_=>none
 |.ask f _,zs=>match hd f with|some (ps,k)=>if ps.map (·.2)=zs then some k else none|none=>none
 |.letb _ z _ _,zs=>match zs with|[a,y]=>if a=z then some y else none|_=>none
def XH(ks:List (Str×Shp))(kv:List (Key×V)):Bd->Prop
 |.letb x z _ _=>(Y8 kv (Sum.inr x)).isSome=true\/z∉ks.map (·.1)
 |_=>False
open Classical in
noncomputable def kdn (ks:List (Str×Shp)) (hd:Hds):Nat->List (Key×V)->Bd->Option Str
 |0,_,_=>none
 |n+1,kv,b=>if XH ks kv b then none else(FY (b.parts.map (kdn ks hd n (wth kv b)))).bind (own ks hd kv b)
theorem WI(h:XH ks kv b):kdn ks hd (n+1) kv b=none:=by unfold kdn;exact Zn h
theorem To(h:none∈b.parts.map (kdn ks hd n (wth kv b))):kdn ks hd (n+1) kv b=none:=by
 unfold kdn;split
 .rfl
 .rw [Rk h];rfl
theorem Gg(h:¬XH ks kv b)(e:b.parts.map (kdn ks hd n (wth kv b))=zs.map some):kdn ks hd (n+1) kv b=own ks hd kv b zs:=by unfold kdn;rw[Zo h,e,Nc];rfl
def NK(ns:List Str)(kv:List (Key×V)):Prop:=∀q∈kv,∃(x k:Str),q=(Sum.inr x,V.str k)/\k∈ns
def HK(ns:List Str)(hd:Hds):Prop:=∀f ps k,hd f=some (ps,k)->k∈ns
theorem NK.wth(h:NK (ks.map (·.1)) kv)(Y:¬XH ks kv b):NK (ks.map (·.1)) (wth kv b):=by
 cases b with
 |letb x z e g=>
  intro q Z;rcases Tc Z with m|rfl
  .exact h q m
  .exact ⟨x,z,rfl,Classical.not_not.mp fun m=>Y (.inr m)⟩
 |_=>exact h
theorem NS{ks:List (Str×Shp)}{p:Str×Shp->Bool}(h:(ks.find? p).map (·.1)=some y):y∈ks.map (·.1):=by
 obtain⟨k,Y,rfl⟩:=Zh.mp h;exact ZU.mpr ⟨k,List.mem_of_find?_eq_some Y,rfl⟩
theorem NK.at(h:NK ns kv)(e:Y8 kv (Sum.inr x)=some v):∃k,v=.str k/\k∈ns:=by
 obtain⟨q,m,_,rfl⟩:=X6 e;obtain⟨_,k,rfl,Y⟩:=h q m;exact⟨k,rfl,Y⟩
theorem OA(Y:KK 30 c d ks)(J:NK (ks.map (·.1)) kv)(L:HK (ks.map (·.1)) hd)(Z:∀z∈zs,z∈ks.map (·.1))(h:own ks hd kv b zs=some y):y∈ks.map (·.1):=by
 cases b with
 |tag t=>exact NS h
 |name x=>
  obtain⟨v,G,e⟩:=Option.bind_eq_some_iff.mp (show(Y8 kv (Sum.inr x)).bind Fi=some y from h);obtain⟨k,rfl,m⟩:=J.at G;cases e;exact m
 |pair a b=>
  unfold own at h;dsimp only at h;split at h
  .exact NS h
  .cases h
 |one e=>
  unfold own at h;dsimp only at h;split at h
  .split at h
   .rename_i hs;cases h;exact(Y.at hs).1
   .cases h
  .cases h
 |other e=>
  unfold own at h;dsimp only at h;split at h
  .split at h
   .rename_i hs;cases h;exact(Y.at hs).2.1
   .cases h
  .cases h
 |choose e M N=>
  unfold own at h;dsimp only at h;split at h
  .split at h
   .cases h;exact Z _ (by simp)
   .cases h
  .cases h
 |ask f O=>
  unfold own at h;dsimp only at h;split at h
  .split at h
   .rename_i hf _;cases h;exact L _ _ _ hf
   .cases h
  .cases h
 |letb x z e g=>
  unfold own at h;dsimp only at h;split at h
  .split at h
   .cases h;exact Z _ (by simp)
   .cases h
  .cases h
theorem MX(Z:KK 30 c d ks)(J:HK (ks.map (·.1)) hd):∀(n:Nat)(Y:List (Key×V))(b:Bd)(y:Str),NK (ks.map (·.1)) Y->kdn ks hd n Y b=some y->y∈ks.map (·.1)
 |0,_,_,_,_,h=>nomatch h
 |n+1,Y,b,y,nk,h=>by
  by_cases nb:XH ks Y b
  .rw [WI nb]at h;cases h
  by_cases hn:none∈b.parts.map (kdn ks hd n (wth Y b))
  .rw [To hn]at h;cases h
  obtain⟨M,G⟩:=Mm hn;rw[Gg nb G]at h;refine OA Z nk J (fun z L=>?_) h;have m:some z∈b.parts.map (kdn ks hd n (wth Y b)):=by rw[G];exact ZU.mpr ⟨z,L,rfl⟩
  obtain⟨p,_,e⟩:=ZU.mp m;exact MX Z J n _ p z (nk.wth nb) e
theorem Qz(Z:KG ks)(N:∀e ts bs,b=.choose e ts bs->1<=bs.length)(h:Kr ks hd kv y b zs):own ks hd kv b zs=some y:=by
 cases b with
 |tag t=>obtain⟨_,ts,Y,G⟩:=h;exact Nj Z Y G
 |name x=>obtain⟨_,Y⟩:=h;show(Y8 kv (Sum.inr x)).bind Fi=_;rw[Y];rfl
 |pair a b=>obtain⟨B,J,rfl,Y⟩:=h;exact M4 Z Y
 |one e=>obtain⟨z,J,rfl,Y⟩:=h;show(match Vd ks z with|some (.pair a _)=>some a|_=>none)=_;rw[Y]
 |other e=>obtain⟨z,J,rfl,Y⟩:=h;show(match Vd ks z with|some (.pair _ b)=>some b|_=>none)=_;rw[Y]
 |choose e ts bs=>
  obtain⟨z,rfl,Y,R⟩:=h;have:=N e ts bs rfl;obtain⟨m,M⟩:∃m,bs.length=m+1:=⟨bs.length-1,by exact yN this⟩;rw[M,List.replicate_succ];exact Zn ⟨Y,fun u L=>List.eq_of_mem_replicate L⟩
 |ask f T=>
  obtain⟨O,Y,rfl⟩:=h;unfold own;dsimp only;rw[Y];exact Zn rfl
 |letb x z e g=>obtain⟨rfl,_,_⟩:=h;exact Zn rfl
theorem Kd.kdn(N:KG ks)(L:∀z ts,Vd ks z=some (.tags ts)->1<=ts.length):∀(n:Nat)(Z:List (Key×V))(b:Bd)(y:Str),Kd ks hd Z y b->b.dep<n->L2.kdn ks hd n Z b=some y
 |0,_,_,_,_,h=>nomatch h
 |n+1,Z,b,y,h,hn=>by
  obtain⟨Y,J,M,B⟩:=h.inv
  have R:¬XH ks Z b:=by
   cases b with
   |letb x z e g=>obtain⟨_,G,D⟩:=J;exact fun m=>m.elim (fun m=>by rw[G]at m;cases m) (fun m=>m D)
   |_=>exact id
  have e:b.parts.map (L2.kdn ks hd n (L2.wth Z b))=Y.map some:=by
   refine List.ext_getElem? fun i=>?_;rw[ZG,ZG]
   cases hp:b.parts[i]? with
   |none=>
    have:Y[i]?=none:=List.getElem?_eq_none_iff.mpr (by rw[M];exact List.getElem?_eq_none_iff.mp hp);rw[this];rfl
   |some p=>
    have E:i<Y.length:=by rw[M];exact(ZE.mp hp).1
    have O:Y[i]?=some Y[i]:=ZC E;have:=Bd.dep_mem (ZH hp);rw[O];exact congrArg some (Kd.kdn N L n _ p _ (B i p _ hp O) (by exact Ti this hn))
  rw[Gg R e];refine Qz N (fun A ts I F=>?_) J;subst F;obtain⟨z,_,G,T⟩:=J;rw[T];exact L _ _ G
def JJ(o:Option Str):V:=(o.map V.str).getD .non
theorem RD{α:Type}{Y:List α}(h:Y.length=1):∃a,Y=[a]:=match Y,h with|[a],_=>⟨a,rfl⟩
theorem RC{α:Type}{Y:List α}(h:Y.length=2):∃a b,Y=[a,b]:=match Y,h with|[a,b],_=>⟨a,b,rfl⟩
def Bd.word:Bd->Str
 |.tag _=>"tag"
 |.name _=>"name"
 |.pair _ _=>"pair"
 |.one _=>"one"
 |.other _=>"other"
 |.choose _ _ _=>"choose"
 |.ask _ _=>"ask"
 |.letb _ _ _ _=>"let"
theorem J7{b:Bd}(h:Has H v b.dat):∃a ys,v=.ref a/\H a=some (.tup (.str b.word::ys)):=by
 obtain⟨Y,e⟩:∃Y,b.dat=.tup (.str b.word::Y):=by cases b <;> exact⟨_,by unfold Bd.dat;rfl⟩
 rw[e]at h;obtain⟨t,ys,rfl,J,G⟩:=Y6 h;obtain⟨M,Z,rfl,L,_⟩:=Ym G;obtain rfl:=has_str L;exact⟨t,Z,rfl,J⟩
theorem Gk(h:Has H v (Bd.letb x k e b).dat):∃a R O,v=.ref a/\H a=some (.tup [.str "let",.str x,.str k,R,O]):=by
 unfold Bd.dat at h;obtain⟨t,A,rfl,T,B⟩:=Y6 h;obtain⟨U,j,rfl,F,L⟩:=Ym B;obtain⟨S,Q,rfl,E,G⟩:=Ym L;obtain⟨I,P,rfl,D,J⟩:=Ym G;obtain⟨N,X,rfl,z,Z⟩:=Ym J;obtain⟨M,C,rfl,y,Y⟩:=Ym Z;obtain rfl:=Vb Y;obtain rfl:=has_str F;obtain rfl:=has_str E;obtain rfl:=has_str D;exact⟨t,N,M,rfl,T⟩
end L2
namespace K4
open PySem L2
section
variable{f g C CK:Addr}
def Nq(C CK:Addr):Sp:=fun vs H Q _=>∃(t:Addr)(ks:List (Str×Shp))(d:Str->Nat)(ds:List Dd)(x:Dd),vs=[.ref t,.str x.1.1]/\BI H C CK t ks d ds/\x∈ds/\∀v,Has H v (psD x.1.2.1)->Q v H
def Rw(C CK:Addr):Sp:=fun vs H Q _=>∃(t:Addr)(ks:List (Str×Shp))(d:Str->Nat)(ds:List Dd)(x:Dd),vs=[.ref t,.str x.1.1]/\BI H C CK t ks d ds/\x∈ds/\Q (.str x.1.2.2) H
theorem Qj:Yr ["self","F"] ["self","F"] (Yh BY):=Y7
theorem Lp:Yr ["self","F"] ["self","F"] (Yh BZ):=Y7
theorem OS(T:BCl K C)(F:Fun K "parameters" "Book.parameters" BY f fd)(m:JZ K C "told_of" g)(G:Yo P w K mg base CX0 n g gd ["self","F"] (Rq C CK))(D:Binds K gd ["self","F"] []):Yo P w K mg base CX0 (n+1) f fd ["self","F"] (Nq C CK):=by
 refine F.oq Qj fun B A Y s H X Q E N h=>?_;obtain⟨t,Z,d,R,x,rfl,b,J,q⟩:=h;obtain⟨S,j,rfl,I⟩:=id b;refine⟨_,YZ (Yf (Yd Yg (JM (pv 0) T.cl m G N D .nil VH (pa1 (pv 1))) YX)),?_⟩;refine⟨_,_,I.ins,zS _,S.t,Z,d,R,x,rfl,b,J,fun v L=>?_⟩;obtain⟨a,u,U,rfl,O,M,_⟩:=Tq L;exact⟨_,_,Z0 O,rfl,q u M⟩
theorem Kg(T:BCl K C)(F:Fun K "kind_of" "Book.kind_of" BZ f fd)(m:JZ K C "told_of" g)(G:Yo P w K mg base CX0 n g gd ["self","F"] (Rq C CK))(B:Binds K gd ["self","F"] []):Yo P w K mg base CX0 (n+1) f fd ["self","F"] (Rw C CK):=by
 refine F.oq Lp fun R A Y s H U Q E M h=>?_;obtain⟨t,Z,d,O,x,rfl,b,J,q⟩:=h;obtain⟨I,X,rfl,D⟩:=id b;refine⟨_,YZ (Yf (Yd Yg (JM (pv 0) T.cl m G M B .nil VH (pa1 (pv 1))) YX)),?_⟩;refine⟨_,_,D.ins,zS _,I.t,Z,d,O,x,rfl,b,J,fun v L=>?_⟩;obtain⟨a,u,S,rfl,N,j,_⟩:=Tq L;exact⟨_,_,Z0 N,rfl,q⟩
def X7(C CK:Addr)(p:Bd->Prop):Sp:=fun vs H Q _=>∃(t a fl:Addr)(v:V)(ks:List (Str×Shp))(c d:Str->Nat)(ds:List Dd)(kv:List (Key×V))(b:Bd)(zs:List Str),
 vs=[.ref t,.ref a,v,.ref fl]/\BI H C CK t ks d ds/\KK 30 c d ks/\NK (ks.map (·.1)) kv/\(∀x∈ds,x.1.2.1.length<=3)/\Rd H a (.dK kv)/\Has H v b.dat/\b.ok/\p b/\H fl=some (.lst (zs.map V.str))/\zs.length=b.parts.length/\(∀z∈zs,z∈ks.map (·.1))/\∀H',Same H H'->Q (JJ (own ks (Vh (ds.map (·.1))) kv b zs)) H'
abbrev rps:List Str:=["book","around","body","found"]
theorem Ql:Yr ["book","around","body","found"] ["book","around","body","found"] (Yh IH):=Y7
theorem Ls:Yr ["book","around","body","found"] ["book","around","body","found"] (Yh BR):=Y7
theorem Lr:Yr ["book","around","body","found"] ["book","around","body","found"] (Yh BQ):=Y7
theorem Qn:Yr ["book","around","body","found"] ["book","around","body","found"] (Yh IJ):=Y7
theorem OW(j:BCl K C)(TK:KCl K CK)(F:Fun K "kind_of_tag_body" "kind_of_tag_body" IH f fd)(R:JZ K C "kinds" g1)(z:Yo P w K mg base CX0 n g1 d1 ["self"] (J4 C CK))(U:Binds K d1 ["self"] [])(O:JZ K CK "kind_of_tag" g2)(y:Yo P w K mg base CX0 n g2 d2 ["self","tag"] (G5 CK))(S:Binds K d2 ["self","tag"] []):Yo P w K mg base CX0 (n+1) f fd rps (X7 C CK fun b=>∃t,b=.tag t):=by
 refine F.oq Ql fun I A Y s H p Q E L h=>?_;obtain⟨t,a,fl,v,Z,c,d,D,i,b,k,rfl,M,kk,e,r,ha,G,l,⟨N,rfl⟩,hf,o,hz,q⟩:=h;obtain⟨g,x,rfl,X⟩:=id M;refine⟨_,YZ (Yf (JM (JR (pv 0) j.cl R z L U .nil VH) TK.cl O y L S .nil VH (pa1 (Yd Yg (pv 2) YX)))),?_⟩;unfold Bd.dat at G;obtain⟨bt,rfl,B⟩:=Jz G;refine⟨_,_,X.ins,rfl,g.t,Z,d,D,rfl,M,fun u J=>?_⟩;obtain⟨m,SK,rfl,T,kr⟩:=id J;exact⟨_,_,T.ins,rfl,_,_,Z0 B,rfl,m.t,Z,d,N,rfl,J,q H (Z6 _)⟩
theorem Ke(F:Fun K "kind_of_name_body" "kind_of_name_body" BR f fd):Yo P w K mg base CX0 (n+1) f fd rps (X7 C CK fun b=>∃x,b=.name x):=by
 refine F.oq Ls fun T A J s H D Q E O h=>?_;obtain⟨t,a,m,v,X,c,d,g,Z,b,B,rfl,u,j,M,I,L,G,S,⟨x,rfl⟩,z,U,y,q⟩:=h;have N:=V1 O;refine⟨_,YZ (Yf (WE N (pv 1) (Yd Yg (pv 2) YX) ⟨rfl,rfl,rfl,rfl⟩)),?_⟩;unfold Bd.dat at G;obtain⟨p,rfl,R⟩:=Jz G;refine⟨.inl ⟨Z,L⟩,_,_,Z0 R,rfl,_,.inl ⟨Z,Sum.inr x,L,rfl,rfl⟩,?_⟩;have Y:Q (JJ ((Y8 Z (Sum.inr x)).bind Fi)) H:=q H (Z6 _)
 cases e:Y8 Z (Sum.inr x)with
 |none=>rw[e]at Y;exact Y
 |some v=>
  obtain⟨k,rfl,_⟩:=M.at e;rw[e]at Y;exact Y
theorem Kc(y:BCl K C)(TK:KCl K CK)(F:Fun K "kind_of_pair_body" "kind_of_pair_body" BQ f fd)(T:JZ K C "kinds" g1)(m:Yo P w K mg base CX0 n g1 d1 ["self"] (J4 C CK))(X:Binds K d1 ["self"] [])(R:JZ K CK "kind_of_pair" g2)(z:Yo P w K mg base CX0 n g2 d2 ["self","one","other"] (WV CK))(U:Binds K d2 ["self","one","other"] []):Yo P w K mg base CX0 (n+1) f fd rps (X7 C CK fun b=>∃e g,b=.pair e g):=by
 refine F.oq Lr fun S A Y s H r Q E G h=>?_;obtain⟨t,a,fl,v,Z,c,d,I,kv,b,u,rfl,M,kk,x,o,ha,hv,i,⟨e,g,rfl⟩,L,B,hz,q⟩:=h;obtain⟨O,N,rfl⟩:=RC B;obtain⟨p,kt,rfl,j⟩:=id M;refine⟨_,YZ (Yf (JM (JR (pv 0) y.cl T m G X .nil VH) TK.cl R z G U .nil VH (pa2 (Yd Yv (pv 3) YX) (Yd Yv (pv 3) YX)))),?_⟩;refine⟨_,_,j.ins,rfl,p.t,Z,d,I,rfl,M,fun l J=>?_⟩;obtain⟨k,SK,rfl,D,kr⟩:=id J;exact⟨_,_,D.ins,rfl,_,_,Z1 L,rfl,_,_,Z1 L,rfl,k.t,Z,d,O,N,rfl,J,q⟩
theorem OY(F:Fun K "kind_of_let_body" "kind_of_let_body" IJ f fd):Yo P w K mg base CX0 (n+1) f fd rps (X7 C CK fun b=>∃x k e g,b=.letb x k e g):=by
 refine F.oq Qn fun R A Z s H B Q E p h=>?_;obtain⟨t,a,r,v,y,c,d,l,j,b,T,rfl,i,z,X,S,u,N,U,⟨x,k,e,g,rfl⟩,G,M,m,q⟩:=h;obtain⟨J,L,rfl⟩:=RC M;refine⟨_,YW (Yx (Yi Xq (Yd Yv (pv 3) YX) (Yd Yg (pv 2) YX) (Yq _)) (YZ (Yf VZ)) Yl)
  (YZ (Yf (Yd Yv (pv 3) YX))),?_⟩
 obtain⟨o,I,D,rfl,O⟩:=Gk N;have Y:Q (JJ (if J=k then some L else none)) H:=q H (Z6 _);refine⟨_,_,Z1 G,rfl,_,_,Z0 O,rfl,rfl,_,rfl,?_⟩
 by_cases c1:J=k
 .rw [Zn c1]at Y
  exact Y1 (by simp[c1]) ⟨_,_,Z1 G,rfl,Y⟩
 .rw [Zo c1]at Y
  exact VJ (by simpa using c1) Y
def GJ(C CK:Addr):Sp:=fun vs H Q _=>∃(t:Addr)(ks:List (Str×Shp))(d:Str->Nat)(ds:List Dd)(z:Str)(s:Shp)(i:Nat),vs=[.ref t,.str z,.int i]/\BI H C CK t ks d ds/\Vd ks z=some s/\(∀ts,s=.tags ts->Q .non H)/\∀a b,s=.pair a b->(i=1/\Q (.str a) H\/i=2/\Q (.str b) H)
theorem Dk:Yr ["book","kind","at","shape"] ["book","kind","at"] (Yh BP):=Y7
theorem Kb(p:BCl K C)(TK:KCl K CK)(F:Fun K "kind_of_part" "kind_of_part" BP f fd)(S:JZ K C "kinds" g1)(u:Yo P w K mg base CX0 n g1 d1 ["self"] (J4 C CK))(g:Binds K d1 ["self"] [])(I:JZ K CK "shape_of" g2)(c:Yo P w K mg base CX0 n g2 d2 ["self","kind"] (XY CK))(m:Binds K d2 ["self","kind"] []):Yo P w K mg base CX0 (n+1) f fd ["book","kind","at"] (GJ C CK):=by
 refine F.oq Dk fun y A Z s H o Q E M h=>?_;obtain⟨t,J,d,j,z,R,i,rfl,N,X,T,B⟩:=h;obtain⟨e,kt,rfl,k⟩:=id N;refine⟨_,YW (Yp 3 Dk.nd (JM (JR (pv 0) p.cl S u M g .nil VH) TK.cl I c M m .nil VH (pa1 (pv 1))))
  (YW (Yx (Yi Xq (Yd Yg (pv 3) YX) Yn (Yq _)) (YZ (Yf VZ)) Yl)
  (YZ (Yf (Yd Yg (pv 3) (pv 2) (fun _ _=>rfl))))),?_⟩
 refine⟨_,_,k.ins,rfl,e.t,J,d,j,rfl,N,fun x G=>?_⟩;obtain⟨r,SK,rfl,U,kr⟩:=id G;refine⟨_,_,U.ins,rfl,r.t,J,d,z,_,rfl,G,X,fun v L=>?_⟩
 cases R with
 |tags O=>
  obtain⟨D,l,rfl,Y,hl⟩:=JO L;exact⟨_,_,Z0 Y,rfl,rfl,_,rfl,VJ (by decide +kernel) (T O rfl)⟩
 |pair a b=>
  obtain⟨D,rfl,Y⟩:=V2 L;refine⟨_,_,Z0 Y,rfl,rfl,_,rfl,Y1 (by decide +kernel) ?_⟩;rcases B a b rfl with⟨rfl,q⟩|⟨rfl,q⟩
  .exact ⟨_,_,Z0 Y,rfl,q⟩
  .exact ⟨_,_,Z0 Y,rfl,q⟩
theorem Qm:Yr ["book","around","body","found"] ["book","around","body","found"] (Yh II):=Y7
theorem Fs:Yr ["book","around","body","found"] ["book","around","body","found"] (Yh MO):=Y7
theorem OX(F:Fun K "kind_of_one_body" "kind_of_one_body" II f fd)(I:Df P w K mg base n "kind_of_part" ["book","kind","at"] (GJ C CK)):Yo P w K mg base CX0 (n+1) f fd rps (X7 C CK fun b=>∃e,b=.one e):=by
 refine F.oq Qm fun B A Z s H U Q E O h=>?_;obtain⟨t,a,r,v,J,c,d,T,g,b,S,rfl,D,k,m,j,u,p,y,⟨e,rfl⟩,R,M,N,q⟩:=h;obtain⟨z,rfl⟩:=RD M;refine⟨_,YZ (Yf (Yt I O (pa3 (pv 0) (Yd Yv (pv 3) YX) YX))),?_⟩;obtain⟨L,G⟩:=Vw (N z (by simp));have Y:Q (JJ (match Vd J z with|some (.pair a _)=>some a|_=>none)) H:=q H (Z6 _);rw[G]at Y;exact⟨_,_,Z1 R,rfl,t,J,d,T,z,L,1,rfl,D,G,fun X e=>by rw[e]at Y;exact Y,fun a b e=>.inl ⟨rfl,by rw[e]at Y;exact Y⟩⟩
theorem Et(F:Fun K "kind_of_other_body" "kind_of_other_body" MO f fd)(I:Df P w K mg base n "kind_of_part" ["book","kind","at"] (GJ C CK)):Yo P w K mg base CX0 (n+1) f fd rps (X7 C CK fun b=>∃e,b=.other e):=by
 refine F.oq Fs fun B A Z s H U Q E O h=>?_;obtain⟨t,a,r,v,J,c,d,T,g,b,S,rfl,D,k,m,j,u,p,y,⟨e,rfl⟩,R,M,N,q⟩:=h;obtain⟨z,rfl⟩:=RD M;refine⟨_,YZ (Yf (Yt I O (pa3 (pv 0) (Yd Yv (pv 3) YX) YX))),?_⟩;obtain⟨L,G⟩:=Vw (N z (by simp));have Y:Q (JJ (match Vd J z with|some (.pair _ b)=>some b|_=>none)) H:=q H (Z6 _);rw[G]at Y;exact⟨_,_,Z1 R,rfl,t,J,d,T,z,L,2,rfl,D,G,fun X e=>by rw[e]at Y;exact Y,fun a b e=>.inr ⟨rfl,by rw[e]at Y;exact Y⟩⟩
end
end K4
namespace L2
open PySem
theorem WL(h:Has H v (Bd.ask fn as).dat):∃a u,v=.ref a/\H a=some (.tup [.str "ask",.str fn,u])/\Has H u (.tup (Bd.dats as)):=by
 unfold Bd.dat at h;obtain⟨t,T,rfl,L,M⟩:=Y6 h;obtain⟨D,A,rfl,R,J⟩:=Ym M;obtain⟨B,F,rfl,O,Z⟩:=Ym J;obtain⟨G,E,rfl,N,Y⟩:=Ym Z;obtain rfl:=Vb Y;obtain rfl:=has_str R;obtain rfl:=has_str O;exact⟨t,G,rfl,L,N⟩
theorem Gi(h:Vh hs fn=some (ps,y)):(fn,ps,y)∈hs:=by
 unfold Vh at h
 cases e:hs.find? (fun h=>decide (h.1=fn))with
 |none=>rw[e]at h;cases h
 |some g=>
  rw[e]at h;have m:=List.mem_of_find?_eq_some e;have q:g.1=fn:=by simpa using List.find?_some e
  have Y:g.2=(ps,y):=ZP h;obtain⟨J,Z⟩:=g;dsimp only at q Y;subst q Y;exact m
theorem XB:∀Y ws:List Str,Dat.pqs (Y.map Dat.str) (ws.map Dat.str)=decide (Y=ws)
 |[],[]=>by unfold List.map Dat.pqs;rfl
 |[],w::ws=>by unfold List.map Dat.pqs;rfl
 |z::Y,[]=>by unfold List.map Dat.pqs;rfl
 |z::Y,w::ws=>by
  rw[ZT,ZT];unfold Dat.pqs;rw[XB Y ws,Bool.eq_iff_iff];simp[Dat.pq]
theorem SV{ds:List Dd}(Y:(ds.map fun x=>x.1.1).Nodup)(h:x∈ds):Vh (ds.map (·.1)) x.1.1=some x.1.2:=
 XJ (h:=x.1) (by rw[List.map_map];exact Y) (ZU.mpr ⟨x,h,rfl⟩)
theorem SU{ds:List Dd}(h:fn∉ds.map fun x=>x.1.1):Vh (ds.map (·.1)) fn=none:=by
 cases e:Vh (ds.map (·.1)) fn with
 |none=>rfl
 |some p=>
  obtain⟨x,Y,Z⟩:=ZU.mp (Gi e);exact Zp (ZU.mpr ⟨x,Y,by rw[Z]⟩) h
end L2
namespace K4
open PySem L2
section
theorem Qo:Yr ["book","around","body","found"] ["book","around","body","found"] (Yh IK):=Y7
theorem Kt:List.Nodup [("name":Str),"kind"]:=by decide +kernel
theorem OZ(TB:BCl K C)(F:Fun K "kind_of_ask_body" "kind_of_ask_body" IK f fd)(m1:JZ K C "names" m)(G1:Yo P w K mg base CX0 (n+2) m d1 ["self"] (X8 C CK))(b1:Binds K d1 ["self"] [])(m2:JZ K C "parameters" g2)(G2:Yo P w K mg base CX0 (n+2) g2 d2 ["self","F"] (Nq C CK))(b2:Binds K d2 ["self","F"] [])(m3:JZ K C "kind_of" g3)(G3:Yo P w K mg base CX0 (n+2) g3 d3 ["self","F"] (Rw C CK))(b3:Binds K d3 ["self","F"] []):
  Yo P w K mg base CX0 (n+2+1) f fd rps (X7 C CK fun b=>∃fn as,b=.ask fn as):=by
 refine F.oq Qo fun N0 A e s H N Q E X h=>?_;obtain⟨t,a,fl,v,ks,c,d,D,kv,b,r,rfl,g,kk,nk,pl,ha,hv,ok,⟨fn,as,rfl⟩,hf,lz,hz,q⟩:=h;have Z9:=X.mono (show 2<=n+2 by exact Ii);refine⟨_,YW (Yx (Yi Uq (Yd Yg (pv 2) YX) (JR (pv 0) TB.cl m1 G1 X b1 .nil VH) rfl) (YZ (Yf VZ)) Yl)
  (YW (Yx (Yi (MV Z9) (V6 ["name","kind"] [] (Ji (JM (pv 0) TB.cl m2 G2 X b2 .nil VH (pa1 (Yd Yg (pv 2) YX)))) Tt (fun cl C fp s H=>Vn (n:=2) rfl (Ys (Yk 0 Kt rfl (Or.inl rfl) (Or.inr rfl)) (Ys (Yk 1 Kt rfl (Or.inl rfl) (Or.inr rfl)) VO)))
    (fun cl C fp s H=>pv 1)) (pv 3) (Yq _)) (YZ (Yf VZ)) Yl)
  (YZ (Yf (JM (pv 0) TB.cl m3 G3 X b3 .nil VH (pa1 (Yd Yg (pv 2) YX)))))),?_⟩
 show let a:=_;let b:=_;let c:=Yj (Y9 _ b _) a;let d:=_;Yj (Y9 _ d _) c _ _ _
 intros
 obtain⟨bt,ub,rfl,hb,_⟩:=WL hv;obtain⟨A',kt,rfl,p⟩:=id g;have O:∀M,Same H M->Q (JJ (match Vh (D.map (·.1)) fn with|some (G,k)=>if G.map (·.2)=r then some k else none|none=>none)) M:=q;refine⟨_,_,Z0 hb,rfl,_,_,p.ins,rfl,A'.t,ks,d,D,rfl,g,fun l H1 I hl m=>?_⟩;have el:(D.map fun x=>V.str x.1.1)=(D.map fun x=>x.1.1).map V.str:=by rw[List.map_map];rfl
 rw[el]at m;refine⟨l,_,rfl,.inl (Z1 m),rfl,Uh _,_,rfl,?_⟩;rw[XI]
 by_cases mf:fn∈D.map fun x=>x.1.1
 case neg=>
  rw[SU mf]at O;exact VJ (by simp only[if_true,Bool.not_eq_true',decide_eq_false_iff_not];exact mf) (O _ I)
 refine Y1 (by simp only[if_true,Bool.not_eq_true',decide_eq_false_iff_not,Classical.not_not];exact mf) ?_;obtain⟨x,U,B⟩:=ZU.mp mf;have Y:=SV p.nd U;rw[B]at Y;rw[Y]at O;obtain⟨⟨_,G,y⟩,bx⟩:=x;dsimp only at B O;subst B;have o:G.length<=3:=pl _ U;have L2:=g.mono I;refine⟨_,_,I _ _ p.ins,rfl,_,_,Z0 (I _ _ hb),rfl,A'.t,ks,d,D,_,rfl,L2,U,fun v T=>?_⟩;unfold psD at T;dsimp only at T;obtain⟨pa,J,rfl,L,S⟩:=Y6 T;have i:=S.length;rw[ZA]at i;refine⟨⟨_,Z0 L⟩,?_⟩;refine VR J.length (Ye (by exact Pw i o)) (fun j N M=>Same H1 M/\N.length=j/\N=((G.map (·.2)).take j).map V.str) ⟨Z6 _,rfl,rfl⟩ (fun j N M z=>z.2.1) ?_ ?_ ?_ ?_
 .intro j N M hj z
  exact⟨J,J[j],Z0 (z.1 _ _ L),by simp[hj]⟩
 .intro N M z
  exact⟨J,Z0 (z.1 _ _ L),ZF _⟩
 .intro j N M u H'' R hj z yl hR
  obtain⟨rfl,yy⟩:=yl;obtain⟨dd,Y,J2⟩:=S.get (yy J (Z0 (z.1 _ _ L)));rw[ZG]at Y
  cases hp:G[j]? with
  |none=>rw[hp]at Y;cases Y
  |some pr=>
   rw[hp]at Y;cases Y;obtain⟨t2,rfl,Z8⟩:=Jz J2;refine⟨_,Z0 (z.1 _ _ Z8),rfl,?_⟩;refine hR _ _ ⟨z.1,by rw[ZJ,z.2.1];rfl,?_⟩;rw[z.2.2,show(G.map (·.2)).take (j+1)=(G.map (·.2)).take j++[pr.2]from take_snoc (by rw[ZG,hp];rfl),ZI]
   rfl
 .intro N M l2 z hl2
  obtain⟨z1,_,rfl⟩:=z;rw[Ze (by rw[ZA];exact oq9 i)];refine up_in hl2 _ fun H2 s2 g2=>?_;have Z:=(I.trans z1).trans s2;refine⟨.lst ((G.map (·.2)).map Dat.str),.lst (r.map Dat.str),MW g2,MW (Z _ _ hf),J3 _,_,rfl,?_⟩;unfold Dat.pq;rw[XB]
  by_cases cz:G.map (·.2)=r
  .rw [Zn cz]at O
   refine Y1 (by simp[cz]) ?_;exact⟨_,_,Z _ _ p.ins,rfl,_,_,Z0 (Z _ _ hb),rfl,A'.t,ks,d,D,_,rfl,g.mono Z,U,O H2 Z⟩
  .rw [Zo cz]at O
   exact VJ (by simp[cz]) (O H2 Z)
end
end K4
namespace L2
open PySem PySem.Spec PyProof.Rows
theorem FT(D:X.calm=true):Jb X (.builtin "any") (fun xs H Q=>∃(p:Addr)(bs:List Bool),xs=[.ref p]/\SqL X.K H p (bs.map V.bl)/\Q (.bl (bs.any id)) H):=by
 intro G s U H xs F Q I r h;obtain⟨p,bs,rfl,R,q⟩:=h;obtain⟨u,rfl,N⟩:=vals1 r;cases N;obtain⟨Y,J,Z,S⟩:=I.list R;have T:p<s.heap.objs.size:=let⟨o,_,e,_⟩:=Z;ZN e
 have L:=J.length;rw[ZA]at L
 have O:((List.range Y.toArray.size).any fun i=>(bs[i]?).getD false)=bs.any id:=by
  rw[Bool.eq_iff_iff,List.any_eq_true,List.any_eq_true]
  constructor
  .rintro ⟨i,_,h⟩
   cases e:bs[i]? with
   |none=>rw[e]at h;cases h
   |some b=>rw[e]at h;exact⟨b,ZH e,h⟩
  .rintro ⟨b,hb,h⟩
   obtain⟨i,M⟩:=List.mem_iff_getElem?.mp hb;exact⟨i,by have:=(ZE.mp M).1;simp;exact El this L,by rw[M];exact h⟩
 refine call_any_walk (wpAny_pyIter_list Z.isList ⟨s.heap.objs.size,_,_,Y.toArray.size,_,_,fun i=>(bs[i]?).getD false,rfl,Walks.list (A:=X.A.in1) (I.ok.hd D) _ p (Zc T) Y.toArray,⟨⟨_,ZW _ rfl,rfl,rfl⟩,Z.isList.push _⟩,?_,?_⟩)
 .intro i v s' Q' E' hP hQ
  obtain⟨b,e,rfl⟩:=Wq J i v (by simpa using hP);dsimp only at hQ;rw[e]at hQ;exact wpAny_truthy_bool hQ
 .intro h' tk hk
  rw[O];refine⟨.bl (bs.any id),H,I.kept fun b o e=>hk b o (fun B=>?_) (ZD _ e),rfl,q⟩;have E:b=s.heap.objs.size:=by simpa using B
  rw[E]at e;exact Nat.lt_irrefl _ (ZN e)
theorem X1(h:Has H v (Bd.choose e ts bs).dat):∃a u l xs,v=.ref a/\H a=some (.tup [.str "choose",u,.ref l])/\H l=some (.tup xs)/\HasL H xs (Bd.brs bs ts):=by
 unfold Bd.dat at h;obtain⟨t,B,rfl,L,M⟩:=Y6 h;obtain⟨E,I,rfl,T,J⟩:=Ym M;obtain⟨G,A,rfl,S,Z⟩:=Ym J;obtain⟨D,F,rfl,R,Y⟩:=Ym Z;obtain rfl:=Vb Y;obtain rfl:=has_str T;obtain⟨l,xs,rfl,O,N⟩:=Y6 R;exact⟨t,G,l,xs,rfl,L,O,N⟩
theorem brs_len:∀{bs:List Bd}{ts:List Str},bs.length=ts.length->(Bd.brs bs ts).length=ts.length
 |[],[],_=>by simp[Bd.brs]
 |[],_::_,h=>by simp at h
 |_::_,[],h=>by simp at h
 |b::bs,t::ts,h=>by
  unfold Bd.brs;have:=brs_len (bs:=bs) (ts:=ts) (by simpa using h);simp[this]
theorem brs_get:∀{bs:List Bd}{ts:List Str}{i:Nat}{d:Dat},(Bd.brs bs ts)[i]?=some d->∃t b,ts[i]?=some t/\d=.tup [.str t,Bd.dat b]
 |[],ts,i,d,h=>by unfold Bd.brs at h;simp at h
 |b::bs,[],i,d,h=>by unfold Bd.brs at h;simp at h
 |b::bs,t::ts,0,d,h=>by
  unfold Bd.brs at h;exact⟨t,b,rfl,(ZP h).symm⟩
 |b::bs,t::ts,i+1,d,h=>by
  unfold Bd.brs at h;exact brs_get (bs:=bs) (ts:=ts) h
theorem yf{z y:Str}{r:List Str}:Jp ((z::y::r).map V.str) (some 2) none=r.map V.str:=by
 have e:HT.sIx ((z::y::r).map V.str).length 0 (some 2)=2:=by
  unfold HT.sIx;simp
  try omega
 unfold Jp;rw[e];simp[HT.sIx];exact Ze (by rw[ZA];exact ZF _)
theorem Dz(h:Vd ks z=some (.tags ts))(g:∀u∈r,u=y):own ks hd kv (.choose e ts bs) (z::y::r)=some y:=Zn ⟨h,g⟩
theorem Xg(h:¬(Vd ks z=some (.tags ts)/\∀u∈r,u=y)):own ks hd kv (.choose e ts bs) (z::y::r)=none:=Zo h
theorem LU(y:Str)(r:List Str):((r.map fun u=>!decide (V.str u=V.str y)).any id=false)↔∀u∈r,u=y:=by
 rw[List.any_eq_false]
 constructor
 .intro h u Y
  have:=h _ (ZU.mpr ⟨u,Y,rfl⟩);simpa using this
 .intro h b hb
  obtain⟨u,Y,rfl⟩:=ZU.mp hb;simp[h u Y]
end L2
namespace K4
open PySem L2
section
theorem FX:bootBuiltins "any"=some (.builtin "any"):=by decide +kernel
theorem WZ:Yr ["book","around","body","found","shape","kind"] ["book","around","body","found"] (Yh TY):=Y7
theorem Ks:List.Nodup [("tag":Str),"branch"]:=by decide +kernel
theorem zJ:List.Nodup [("other":Str),"kind"]:=by decide +kernel
theorem Bp(B:Blt mg)(ma:mg "any"=none)(TB:BCl K C)(TK:KCl K CK)(F:Fun K "kind_of_choose_body" "kind_of_choose_body" TY f fd)(m1:JZ K C "kinds" g1)(G1:Yo P w K mg base CX0 (n+2) g1 d1 ["self"] (J4 C CK))(b1:Binds K d1 ["self"] [])(m2:JZ K CK "shape_of" g2)(G2:Yo P w K mg base CX0 (n+2) g2 d2 ["self","kind"] (XY CK))(b2:Binds K d2 ["self","kind"] []):Yo P w K mg base CX0 (n+2+1) f fd rps (X7 C CK fun b=>∃e ts bs,b=.choose e ts bs/\1<=bs.length):=by
 refine F.oq WZ fun N0 A k s H Y Q E hr h=>?_;obtain⟨t,a,fl,v,ks,c,d,ds,kv,b,zs,rfl,bi,kk,nk,pl,ha,hv,ok,⟨e,ts,bs,rfl,b0⟩,hf,lz,hz,q⟩:=h;have Z8:=hr.mono (show 2<=n+2 by exact Ii);refine⟨_,YW (Yp 4 WZ.nd (JM (JR (pv 0) TB.cl m1 G1 hr b1 .nil VH) TK.cl m2 G2 hr b2 .nil VH (pa1 (Yd Yv (pv 3) YX))))
  (YW (Yx (PW.pt (UK (Yi Xq (Yd Yg (pv 4) YX) Yn (Yq _)) (Js (Yi (MV Z8) (Y4 Vm rfl B.tuple Ve (pa1 (V6 ["tag","branch"] [] (Ji (Yd Yg (pv 2) YX)) Tt (fun cl C fp s H=>Vn (n:=2) rfl (Ys (Yk 0 Ks rfl (Or.inl rfl) (Or.inr rfl)) (Ys (Yk 1 Ks rfl (Or.inl rfl) (Or.inr rfl)) VO))) (fun cl C fp s H=>pv 0)))) (Yd Yg (pv 4) YX) (Yq _))))) (YZ (Yf VZ)) Yl)
  (YW (Yp 5 WZ.nd (hx:=Or.inr rfl) (Yd Yv (pv 3) YX))
  (YW (Yx (V9 (Y0 (FT rfl) rfl ma FX (pa1 (V6 ["other"] [5] (V5 (VM Xd (pv 3) (VY YX) Vr)) (Vl (i:=0) (by decide)) (fun cl C fp s H=>Yk 0 zJ rfl (Or.inl rfl) (Or.inr rfl)) (fun cl C fp s H=>Vs Xq (pv 0) (pv 1) rfl))))) (YZ (Yf VZ)) Yl)
  (YZ (Yf (pv 5)))))),?_⟩
 dsimp only[JV,Cx.nox,Cx.wish];show let a:=_;let b:=_;let c:=Yj (Y9 _ b _) a;let d:=Yj _ c;let e:=_;let f:=Yj (Y9 _ e _) d;Yj _ f _ _ _
 intros
 obtain⟨bt,ub,bl,N,rfl,hb,L,T⟩:=X1 hv;obtain⟨A',kt,rfl,b'⟩:=id bi;unfold Bd.ok at ok;obtain⟨_,lb,l7,_⟩:=ok;have p:=T.length;rw[brs_len lb]at p;obtain⟨z,M,rfl⟩:∃z M,zs=z::M:=match zs,lz with|z::M,_=>⟨z,M,rfl⟩
 have lr:M.length=bs.length:=Nat.succ.inj lz;obtain⟨y,r,rfl⟩:∃y r,M=y::r:=match M,lr with|[],e=>by rw[<-e]at b0;exact Zp b0 (by decide)|y::r,_=>⟨y,r,rfl⟩
 rw[Zd]at lr;obtain⟨sz,G⟩:=Vw (hz z (by simp));refine⟨_,_,b'.ins,rfl,A'.t,ks,d,ds,rfl,bi,fun so ki=>?_⟩;obtain⟨AK,SK,rfl,kd,kr⟩:=id ki;refine⟨_,_,kd.ins,rfl,_,_,Z1 hf,Y3 (j:=0) rfl,AK.t,ks,d,z,sz,rfl,ki,G,fun v D=>?_⟩
 cases sz with
 |pair pa pb=>
  obtain⟨ps,rfl,S⟩:=V2 D;rw[Xg (fun z=>by rw[G]at z;cases z.1)]at q;exact⟨_,_,Z0 S,rfl,rfl,_,rfl,VJ (by decide +kernel) (q H (Z6 _))⟩
 |tags g=>
 obtain⟨ps,l,rfl,S,hl⟩:=JO D;refine⟨_,_,Z0 S,rfl,rfl,_,rfl,Y1 (by decide +kernel) ?_⟩;refine⟨_,_,Z0 hb,rfl,⟨_,Z0 L⟩,?_⟩;refine VR N.length (Ye (by exact D2 p l7)) (fun j Y J=>Same H J/\Y.length=j/\Y=(ts.take j).map V.str) ⟨Z6 _,rfl,rfl⟩ (fun j Y J z=>z.2.1) ?_ ?_ ?_ ?_
 .intro j Y J hj z
  exact⟨N,N[j],Z0 (z.1 _ _ L),by simp[hj]⟩
 .intro Y J z
  exact⟨N,Z0 (z.1 _ _ L),ZF _⟩
 .intro j Y J u H'' R hj z yl hR
  obtain⟨rfl,m⟩:=yl;obtain⟨dd,G3,J2⟩:=T.get (m N (Z0 (z.1 _ _ L)));obtain⟨tg,bb,ht,rfl⟩:=brs_get G3;obtain⟨t2,L2,rfl,x,_⟩:=Tp J2;refine⟨_,Z0 (z.1 _ _ x),rfl,?_⟩;refine hR _ _ ⟨z.1,by rw[ZJ,z.2.1];rfl,?_⟩;rw[z.2.2,take_snoc ht,ZI]
  rfl
 .intro Y H1 l2 z hl2
  obtain⟨X,_,rfl⟩:=z;rw[Ze (by exact oq9 p)];refine up_in hl2 (.lst (ts.map V.str)) fun H2 s2 g2=>?_;refine⟨l2,_,rfl,.inl ⟨Z1 g2,fun t3 o=>?_⟩⟩;refine up_in o (.tup (ts.map V.str)) fun H3 s3 g3=>?_;have Z:=(X.trans s2).trans s3;refine⟨_,_,Z0 (Z _ _ S),rfl,.tup (ts.map Dat.str),.tup (g.map Dat.str),Yy g3 (XW ts),Yy (Z _ _ hl) (XW g),?_,_,rfl,?_⟩
  .have:=J3 ts
   unfold Dat.dep at this |-;exact this
  unfold Dat.pq;rw[XB]
  by_cases ct:ts=g
  case neg=>
   rw[Xg (fun z=>ct (by have X:=G.symm.trans z.1;injection X with z2;injection z2 with z3;exact z3.symm))]at q;exact VJ (by simp[ct]) (q H3 Z)
  subst ct;refine Y1 (by simp) ?_;have I:=Z _ _ hf;refine⟨_,.str y,Z1 I,Y3 (j:=1) rfl,?_⟩;refine⟨2,rfl,fl,_,rfl,Z1 I,fun l4 Z9=>?_⟩;rw[yf];refine up_in Z9 (.lst (r.map V.str)) fun H4 s4 U=>?_;refine⟨⟨_,Z1 U⟩,?_⟩;refine VR r.length (Ye (by omega)) (fun j Y J=>Same H4 J/\Y=((r.take j).map fun u=>!decide (V.str u=V.str y)).map V.bl/\Y.length=j) ⟨Z6 _,rfl,rfl⟩ (fun j Y J z=>z.2.2) ?_ ?_ ?_ ?_
  .intro j Y J hj z
   exact⟨_,.str r[j],Z1 (z.1 _ _ U),by rw[ZG,ZC hj];rfl⟩
  .intro Y J z
   exact⟨_,Z1 (z.1 _ _ U),by rw[ZA];exact ZF _⟩
  .intro j Y J u H'' R hj z yl hR
   obtain⟨rfl,m⟩:=yl;have e5:=m _ (Z1 (z.1 _ _ U));rw[ZG,ZC hj]at e5;cases ZP e5;refine⟨rfl,hR _ _ ⟨z.1,?_,by rw[ZJ,z.2.2];rfl⟩⟩;rw[z.2.1,take_snoc (ZC hj),ZI,ZI]
   rfl
  .intro Y H5 l6' z hl6
   obtain⟨z5,rfl,_⟩:=z;rw[List.take_length];refine up_in hl6 (.lst ((r.map fun u=>!decide (V.str u=V.str y)).map V.bl)) fun H6 s6 g6=>?_;have O:=((Z.trans s4).trans z5).trans s6;refine⟨l6',_,rfl,Z1 g6,_,rfl,?_⟩
   by_cases cu:∀u∈r,u=y
   .rw [Dz G cu]at q
    exact Y1 (by rw[(LU y r).mpr cu];simp) (q H6 O)
   .rw [Xg (fun z=>cu z.2)]at q
    refine VJ ?_ (q H6 O)
    cases ea:(r.map fun u=>!decide (V.str u=V.str y)).any id with
    |true=>rfl
    |false=>exact Zp ((LU y r).mp ea) cu
end
end K4
namespace L2
open PySem
theorem NN{g:TG}{M:TS}{D:Ends}(Y:Nat->St->Hp->Prop)(C:Y 0 U H)(I:∀i U H,i<=xs.length->Y i U H->Sq K tp H a xs)(F:∀i x U H r,xs[i]?=some x->Y i U H->H r=none->g (.ref r) U (upd H r (.tup [.int ((i:Nat):Int),x])) fun σ2 L=>M {D with nx:=Y (i+1),ct:=Y (i+1),bk:=D.nx} σ2 L)(S:∀U H,Y xs.length U H->D.nx U H):
  ∃W:Nat->Nat->St->Hp->Prop,(∃m,W 0 m U H)/\∀i m U H,W i m U H->
   ((Ite K tp a).stop i H/\D.nx U H)\/((Ite K tp a).go i H/\∃N:St->Hp->Prop,(∀G H',N G H'->∃O,O<m/\W (i+1) O G H')/\∀x H',(Ite K tp a).yld i H x H'->g x U H' fun σ2 L=>M {D with nx:=N,ct:=N,bk:=D.nx} σ2 L):=by
 refine⟨fun i m U H=>m=xs.length-i/\i<=xs.length/\Y i U H,⟨xs.length,by simp,Za _,C⟩,fun i m U H z=>?_⟩;obtain⟨rfl,R,p⟩:=z;have q:=I i U H R p;rcases Nat.lt_or_ge i xs.length with Z|J
 .refine .inr ⟨⟨xs,xs[i],q,ZC Z⟩,Y (i+1),fun G H' B=>⟨xs.length-(i+1),by exact RB Z,rfl,Z,B⟩,fun x H' y=>?_⟩
  obtain⟨r,T,rfl,A,rfl,E⟩:=y;exact F i T U H r (E xs q) p A
 .have e:i=xs.length:=by exact Q4 R J
  exact .inl ⟨⟨xs,q,by omega⟩,by subst e;exact S U H p⟩
theorem Gp{g:TG}{J:TS}{D:Ends}(Y:Nat->St->Hp->Prop)(A:Y 0 U H)(E:∀i U H,i<=xs.length->Y i U H->Sq K tp H a xs)(O:∀(B:St->Hp->Prop)(R:VK) i x U H r,xs[i]?=some x->Y i U H->H r=none->g (.ref r) U (upd H r (.tup [.int ((i:Nat):Int),x])) fun σ2 Z=>J {nx:=Y (i+1),rt:=R,bk:=B,ct:=Y (i+1)} σ2 Z)(F:∀U H,Y xs.length U H->D.nx U H):
  ∃W:Nat->Nat->St->Hp->Prop,(∃m,W 0 m U H)/\∀i m U H,W i m U H->
   ((Ite K tp a).stop i H/\D.nx U H)\/((Ite K tp a).go i H/\∃N:St->Hp->Prop,(∀L H',N L H'->∃G,G<m/\W (i+1) G L H')/\∀x H',(Ite K tp a).yld i H x H'->g x U H' fun σ2 Z=>J {D with nx:=N,ct:=N,bk:=D.nx} σ2 Z):=
 NN Y A E (fun i x U H r M p T=>O _ _ i x U H r M p T) F
theorem Rd.same(r:Rd H a u)(e:Same H H'):Rd H' a u:=r.imp (fun h=>e _ _ h) (fun⟨o,h⟩=>⟨o,e _ _ h⟩)
theorem DQ(Y:List (Key×V))(b:Bd):(wth Y b).length<=Y.length+1:=by
 cases b with
 |letb x z e g=>exact WB Y _ _
 |_=>exact Nat.le_succ _
theorem Ud{o:Option Str}(h:o=none):JJ o=.non:=by rw[h];rfl
end L2
namespace K4
open PySem L2
section
variable{f g C CK:Addr}
def G4(C CK:Addr)(n:Nat):Sp:=fun vs H Q _=>∃(t a:Addr)(v:V)(ks:List (Str×Shp))(c d:Str->Nat)(ds:List Dd)(kv:List (Key×V))(b:Bd),
 vs=[.ref t,.ref a,v]/\BI H C CK t ks d ds/\KK 30 c d ks/\HK (ks.map (·.1)) (Vh (ds.map (·.1)))/\NK (ks.map (·.1)) kv/\(∀x∈ds,x.1.2.1.length<=3)/\Rd H a (.dK kv)/\kv.length+b.dep<=500/\Has H v b.dat/\b.ok/\b.dep<n/\n<=500/\
 ∀r p H',Same H H'->H' r=some (.tup [JJ (kdn ks (Vh (ds.map (·.1))) n kv b),p])->(kdn ks (Vh (ds.map (·.1))) n kv b=none->∃l xs,p=.ref l/\H' l=some (.tup xs)/\xs.length<=n)->Q (.ref r) H'
theorem T9:Yr ["book","around","body","within","found","number","part","kind","place","rule"] ["book","around","body"] (Yh sKP):=Y7
theorem Ll(h:U[i]?=some (some v))(k:u D (U.set j (some v)) H):Yj (EY (Nk i) (JG j)) u D U H:=by
 show Fa U[i]? _;rw[h];exact k
theorem zH(B:Blt mg)(me:mg "enumerate"=none)(TB:BCl K C)(TC:KCl K CK)(F:Fun K "kind_or_place" "kind_or_place" sKP f fd)(G:Yo P w K mg base CX0 (L+3) f fd ["book","around","body"] (G4 C CK n))(bG:Binds K fd ["book","around","body"] [])(mG:mg "kind_or_place"=some (.ref f))(m1:JZ K C "kinds" g1)(G1:Yo P w K mg base CX0 (L+3) g1 d1 ["self"] (J4 C CK))(b1:Binds K d1 ["self"] [])(m2:JZ K CK "names" g2)(G2:Yo P w K mg base CX0 (L+3) g2 d2 ["self"] (Xa CK))(b2:Binds K d2 ["self"] [])(DP:Df P w K mg base (L+3) "parts" ["body"] GG)(mU:mg "RULES"=some (.ref aR))(hM:base.MapOf (VC P w) aR mR)(hR:∀b:Bd,(∀e ts bs,b=.choose e ts bs->1<=bs.length)->∃(g:Addr)(gd:FuncData)(p:Bd->Prop),mR (Sum.inr b.word)=some (.ref g)/\Yo P w K mg base CX0 (L+3) g gd rps (X7 C CK p)/\p b/\W.keepIn K (.ref g)=true/\Binds K gd rps []):
  Yo P w K mg base CX0 (L+3+1) f fd ["book","around","body"] (G4 C CK (n+1)):=by
 refine F.oq T9 fun D0 A N7 s H vs Q E hr h=>?_;obtain⟨t,a,v,J,c,d,ds,M,b,rfl,bi,kk,hk,nk,pl,ha,kl,hv,ok,dn,n5,q⟩:=h;have hu:=V1 hr;have DG:Df P w K mg base (L+3) "kind_or_place" ["book","around","body"] (G4 C CK n):=⟨f,fd,mG,F.kp,bG,G⟩;refine⟨_,YW (Yp 3 T9.nd (pv 1))
  (YW (Yx (Yi VB (Yd Yg (pv 2) YX) Yn (Yq _))
   (YW (Yx (PW.pt (UK (Ju (XC hu (Yd Yg (pv 2) YX) (pv 1))) (Js (Yi Uq (Yd Yg (pv 2) YX) (JR (JR (pv 0) TB.cl m1 G1 hr b1 .nil VH) TC.cl m2 G2 hr b2 .nil VH) rfl)))) (YZ (Yf (Yw (pa2 VZ (Yw VT))))) Yl)
   (YW (Yp 3 T9.nd (Y4 Uw rfl B.dict JF (pa1 (pv 1))))
   (YZ (VW hu (pv 3) (Yd Yg (pv 2) YX) (Yd Yg (pv 2) YX) rfl)))) Yl)
  (YW (Yp 4 T9.nd (VD VT))
  (YW (Vu Zt rfl (WD rfl me (pa1 (Yt DP hr (pa1 (pv 2))))) (Vn (n:=2) rfl (Ys (Yk 5 T9.nd) (Ys (Yk 6 T9.nd) VO)))
   (YW (Je (Yt DG hr (pa3 (pv 0) (pv 3) (pv 6))) (Vn (n:=2) rfl (Ys (Yk 7 T9.nd) (Ys (Yk 8 T9.nd) VO))))
   (YW (Yx (Yi Xx (pv 7) VZ (Yq _)) (YZ (Yf (Yw (pa2 VZ (Y2 Xh (Yw (pa1 (pv 5))) (pv 8)))))) Yl)
   (YZ (JB (UR Zx Zy Zz JK (pv 4) (pa1 (pv 7))))))))
  (YW (Yp 9 T9.nd (L5 rfl mU hM hu (Yd Yg (pv 2) YX) (fun _ _=>rfl)))
  (YW (Yp 7 T9.nd (IZ (pv 9) hr VH (pa4 (pv 0) (pv 1) (pv 2) (pv 4))))
  (YW (Yx (Yi Xx (pv 7) VZ (Yq _)) (YZ (Yf (Yw (pa2 VZ (Yw VT))))) Yl)
  (YZ (Yf (Yw (pa2 (pv 7) VZ)))))))))),?_⟩
 dsimp only[JV,Cx.nox,Cx.wish];show let a:=_;let b:=_;let c:=Yj (Y9 _ b _) a;let d:=Yj _ c;let e:=Yj _ d;let f:=_;let g:=_;let h:=Yj (Y9 _ g _) f;let i:=Yj _ h;let j:=Yj (UE _ _ i) e;let k:=Yj _ j;let l:=_;let m:=Yj _ l;let n:=_;let o:=Yj (Y9 _ n _) m;let p:=Yj (Y9 _ o _) k;Yj _ p _ _ _
 intros
 obtain⟨bt,ys,rfl,hb⟩:=J7 hv;have T2:=Bd.few ok
 have N0:kdn J (Vh (ds.map (·.1))) (n+1) M b=none->∀O,Same H O->∀Z r0,O Z=none->(upd O Z (.tup [])) r0=none->Q (.ref r0) (upd (upd O Z (.tup [])) r0 (.tup [.non,.ref Z])):=fun e O R Z r0 h0 h1=>by
  have s2:=Yb h0 (.tup []);have g2:upd O Z (.tup []) Z=some (.tup []):=YY;refine q r0 (.ref Z) _ ((R.trans s2).trans (Yb h1 _)) (by rw[Ud e];exact YY) fun _=>⟨Z,[],rfl,(Yb h1 _) _ _ g2,Za _⟩
 refine Ll rfl ?_;refine VQ (fun U' O=>∃wa,Same H O/\ ¬XH J M b/\Rd O wa (.dK (wth M b))/\U'=[some (.ref t),some (.ref a),some (.ref bt),some (.ref wa),none,none,none,none,none,none]) ?_ ?_
 .rintro U' O ⟨wa,R,nb,hw,rfl⟩
  have N2:=nk.wth nb;refine⟨sl 0,fun fl N5=>?_⟩;refine up_in N5 _ fun H2 s2 g2=>?_;refine⟨.ref bt,b,rfl,(hv.mono R).mono s2,ok,fun u H3 s3 R1=>?_⟩;obtain⟨pa,xs,rfl,N4,N3⟩:=Y6 R1;have lx:=N3.length;rw[Z7,ZA]at lx;refine⟨pa,true,xs,rfl,Z0 N4,?_⟩
  let I:Nat->St->Hp->Prop:=fun i U Hi=>Same O Hi/\Hi pa=some (.tup xs)/\HasL Hi xs (Bd.dats b.parts)/\(∃X:List Str,(b.parts.take i).map (kdn J (Vh (ds.map (·.1))) n (wth M b))=X.map some/\Hi fl=some (.lst (X.map V.str)))/\∃z5 z6 z7 z8,U=[some (.ref t),some (.ref a),some (.ref bt),some (.ref wa),some (.ref fl),z5,z6,z7,z8,none]
  refine NN (tp:=true) (xs:=xs) I ⟨s2.trans s3,N4,N3,⟨[],rfl,s3 _ _ g2⟩,_,_,_,_,rfl⟩ (fun i U Hi _ z=>Z0 z.2.1) ?_ ?_
  .rintro i x U Hi r hx ⟨si,hai,hxi,⟨X,ez,hfi⟩,z5,z6,z7,z8,rfl⟩ hr'
   refine up_in hr' _ fun HR sR gR=>?_;obtain⟨dd,S,R6⟩:=hxi.get hx;rw[Z7,ZG]at S
   cases hc:b.parts[i]? with
   |none=>rw[hc]at S;cases S
   |some c'=>
    rw[hc]at S;cases S;have G3:=ZH hc;have dc:=Bd.dep_mem G3;have il:=(ZE.mp hc).1;have wl:=DQ M b;have Z9:=(R.trans si).trans sR
    have lz:X.length<=i:=by
     have:=congrArg List.length ez;rw[ZA,ZA,ZL]at this;omega
    refine⟨_,Z0 gR,rfl,?_⟩;refine⟨t,wa,x,J,c,d,ds,wth M b,c',rfl,bi.mono Z9,kk,hk,N2,pl,hw.same (si.trans sR),by exact Pu kl dc wl,R6.mono sR,Bd.ok_parts ok c' G3,by exact Ti dc dn,by omega,fun r2 p2 H4 s4 h4 hp=>?_⟩;refine⟨_,Z0 h4,rfl,?_⟩
    cases ek:kdn J (Vh (ds.map (·.1))) n (wth M b) c' with
    |none=>
     have en:kdn J (Vh (ds.map (·.1))) (n+1) M b=none:=To (ZU.mpr ⟨c',G3,ek⟩);obtain⟨l2,ws,rfl,Z8,lw⟩:=hp ek;refine⟨rfl,_,rfl,VJ (by simp[JJ]) ?_⟩;refine⟨sl 1,fun t1 R4=>?_⟩;refine up_in R4 _ fun H5 s5 g5=>?_;refine⟨t1,l2,_,_,rfl,rfl,Z0 g5,Z0 (s5 _ _ Z8),by simp,Zf (Ye (by show 1+ws.length<=1000;omega)),fun e0=>?_,fun e0 t2 R3=>?_⟩
     .refine ⟨sl 2,fun T Y=>?_⟩
      exact q T _ _ (((Z9.trans s4).trans s5).trans (Yb Y _)) (by rw[Ud en];exact YY) fun _=>⟨t1,_,rfl,(Yb Y _) _ _ g5,by show 1<=n+1;exact Q6⟩
     .refine up_in R3 _ fun H6 s6 g6=>?_
      refine⟨sl 2,fun T Y=>?_⟩;exact q T _ _ ((((Z9.trans s4).trans s5).trans s6).trans (Yb Y _)) (by rw[Ud en];exact YY) fun _=>⟨t2,_,rfl,(Yb Y _) _ _ g6,by rw[ZJ];show 1+ws.length<=n+1;exact AU lw⟩
    |some zk=>
     refine⟨rfl,_,rfl,Y1 (by simp[JJ]) ?_⟩;have J2:=s4 _ _ (sR _ _ hfi);refine⟨.inl ⟨rfl,_,Z1 J2⟩,fl,_,_,rfl,rfl,J2,Ye (by rw[ZA];omega),?_⟩;have R5:=s4 _ _ (sR _ _ hai);have tk:TK H4 (upd H4 fl (.lst (X.map V.str++[JJ (some zk)]))):=fun b us h=>by rw[Ya (fun e=>by rw[e,J2]at h;cases h)];exact h
     refine⟨((si.trans sR).trans s4).putN N5,tk _ _ R5,VG tk _ (Bd.sts _) ((hxi.mono sR).mono s4),⟨X++[zk],?_,?_⟩,_,_,_,_,rfl⟩
     .rw [take_snoc hc,ZI,ZI,ez]
      show _++[kdn _ _ _ _ _]=_;rw[ek];rfl
     .rw [YY,ZI];rfl
  .rintro U Hi ⟨si,hai,hxi,⟨X,ez,hfi⟩,z5,z6,z7,z8,rfl⟩
   rw[Ze (by exact oq9 lx)]at ez;have sH:=R.trans si;have a0:atI (V.str b.word::ys) 0=some (.str b.word):=Y3 (j:=0) rfl
   obtain⟨gr,R7,pr,r1,r2,r3,r4,r5⟩:=hR b (fun e' R8 F1 eb=>by
    subst eb;unfold Bd.ok at ok;rw[ok.2.1];exact ok.2.2.1.1)
   have lz:X.length=b.parts.length:=by
    have:=congrArg List.length ez;rw[ZA,ZA]at this;exact this.symm
   have mz:∀z∈X,z∈J.map (·.1):=fun z hz=>by
    have m:some z∈b.parts.map (kdn J (Vh (ds.map (·.1))) n (wth M b)):=by rw[ez];exact ZU.mpr ⟨z,hz,rfl⟩
    obtain⟨p,_,e⟩:=ZU.mp m;exact MX kk hk n _ p z N2 e
   have eo:=Gg nb ez;refine⟨_,_,Z0 (sH _ _ hb),a0,Sum.inr b.word,_,.ref gr,rfl,r1,rfl,?_⟩;refine⟨gr,R7,rps,X7 C CK pr,rfl,r2,r4,r5,t,a,fl,.ref bt,J,c,d,ds,M,b,X,rfl,bi.mono sH,kk,nk,pl,ha.same sH,hv.mono sH,ok,r3,hfi,lz,mz,fun H5 s5=>?_⟩;rw[<-eo];have N1:=sH.trans s5
   cases ek:kdn J (Vh (ds.map (·.1))) (n+1) M b with
   |none=>exact⟨rfl,_,rfl,VJ (by simp[JJ]) ⟨sl 0,fun Z D=>⟨sl 2,fun T Y=>N0 ek H5 N1 Z T D Y⟩⟩⟩
   |some y=>
    refine⟨rfl,_,rfl,Y1 (by simp[JJ]) ⟨sl 2,fun T Y=>?_⟩⟩;exact q T _ _ (N1.trans (Yb Y _)) (by rw[ek];exact YY) fun e=>by rw[ek]at e;cases e
 .intro N key
  have a0:atI (V.str b.word::ys) 0=some (.str b.word):=Y3 (j:=0) rfl;refine⟨_,_,Z0 hb,a0,rfl,_,rfl,?_⟩
  cases b with
  |letb x k e g=>
   obtain⟨D3,u1,u2,e1,L2⟩:=Gk hv;cases e1;obtain⟨A',kt,rfl,b'⟩:=id bi;refine VJ (decide_eq_true rfl) ?_;refine⟨_,_,Z0 L2,rfl,_,.inl ⟨M,Sum.inr x,ha,rfl,rfl⟩,_,rfl,?_⟩
   by_cases kn:(Y8 M (Sum.inr x)).isSome=true
   .exact VJ (by rw[kn]) ⟨sl 0,fun Z D=>⟨sl 2,fun T Y=>N0 (WI (.inl kn)) H (Z6 _) Z T D Y⟩⟩
   refine Y1 (by simpa using kn) ?_;refine⟨_,_,Z0 L2,rfl,_,_,b'.ins,rfl,A'.t,J,d,ds,rfl,bi,fun so ki=>?_⟩;obtain⟨AK,SK,rfl,N8,T0⟩:=id ki;refine⟨_,_,N8.ins,rfl,AK.t,J,d,rfl,ki,fun l O R hl g1=>?_⟩;have el:(J.map fun k=>V.str k.1)=(J.map (·.1)).map V.str:=by rw[List.map_map];rfl
   rw[el]at g1;refine⟨l,_,rfl,.inl (Z1 g1),rfl,Uh _,_,rfl,?_⟩;rw[XI]
   by_cases km:k∈J.map (·.1)
   case neg=>exact VJ (by simp only[if_true,Bool.not_eq_true',decide_eq_false_iff_not];exact km) ⟨sl 0,fun Z D=>⟨sl 2,fun T Y=>N0 (WI (.inr km)) O R Z T D Y⟩⟩
   refine Y1 (by simp only[if_true,Bool.not_eq_true',decide_eq_false_iff_not,Classical.not_not];exact km) ?_;refine⟨a,M,rfl,ha.same R,fun l2 Z8=>?_⟩;refine up_in Z8 _ fun H2 s2 g2=>?_;have N6:=s2 _ _ (R _ _ L2);refine⟨_,_,Z0 N6,rfl,_,_,Z0 N6,rfl,_,Ja.k (k:=Sum.inr x) g2 (Ye (by exact Pq kl)),?_⟩;exact key _ _ ⟨l2,(R.trans s2).putN (R.free Z8),fun z=>z.elim (fun z=>kn z) (fun z=>z km),.inl YY,rfl⟩
  |_=>exact Y1 (fun z=>by have z1:=Zr z;injection z1 with z2;exact Zp z2 (by dsimp only[Bd.word];decide +kernel)) (key _ _ ⟨a,Z6 _,fun z=>z,ha,rfl⟩)
end
end K4
namespace L2
open PySem
def Sx(t:TE):TE:=fun U H Q=>t U H fun v H1=>∃d kvs,v=.ref d/\H1 d=some (.dK kvs)/\∀o,Q v (upd H1 d (.frz o (.dK kvs)))
theorem Bj{X:Cx}(h:PE X e t):PE X e (Sx t):=by
 intro Y s U H Q I q;refine thn (h Y s U H _ I q) fun u L ⟨y,R,G,M,d,Z,T,J,N⟩=>?_;obtain⟨o,O⟩:=(show Vf X.prog X.w R L.heap d (.dK Z)from G.hok d _ J).dk_ex;exact⟨y,_,G.freeze J O,M,N o⟩
theorem Wm{α:Type}{p:α->Bool}{l:List α}{x:α}(h:(l.take i).find? p=none)(e:l[i]?=some x)(Y:¬p x=true):(l.take (i+1)).find? p=none:=by
 rw[take_snoc e,List.find?_append,h];show(List.find? p [x])=none;rw[List.find?_cons]
 cases q:p x with
 |true=>exact Zp q Y
 |false=>rfl
theorem Qe(s:Shp)(a b:Str):s.dat.pq (.tup [.str "pair",.str a,.str b])=V0 a b s:=by
 cases s with
 |tags Y=>
  unfold Shp.dat V0;cases Y <;> simp[Dat.pq,Dat.pqs]
 |pair c e=>
  unfold Shp.dat V0;rw[Bool.eq_iff_iff];simp[Dat.pq,Dat.pqs]
end L2
namespace K4
open PySem L2
section
theorem Fo:Yr ["shapes","tag","kind"] ["shapes","tag"] (Yh Fz):=Y7
theorem Dj:Yr ["shapes","one","other","kind"] ["shapes","one","other"] (Yh BH):=Y7
def Np:Sp:=fun vs H Q _=>∃(sA:Addr)(t:Str)(ks:List (Str×Shp)),vs=[.ref sA,.str t]/\SF H sA ks/\(ks.map (·.1)).Nodup/\Q (JJ (V4 ks t)) H
theorem OO(F:Fun K "_law_tag_kind" "_law_tag_kind" Fz f fd):Yo P w K mg base CX0 (n+1) f fd ["shapes","tag"] Np:=by
 refine F.oq Fo fun r A M s H e Q E p h=>?_;obtain⟨L,t,N,rfl,X,m,q⟩:=h;have D:=V1 p;refine⟨_,YW (Vu Zt rfl (UL (pv 0)) (Yk 2 Fo.nd)
   (YZ (Yx (PW.pt (JU (Yi VB (Yd Yg (Yz D (pv 0) (pv 2) (fun _ _=>rfl)) YX) Yn (Yq _)) (JH (Yi Wf (pv 1) (Yd Yg (Yz D (pv 0) (pv 2) (fun _ _=>rfl)) YX) rfl)))) (YZ (Yf (pv 2))) Yl)))
  (YZ (Yf VZ)),?_⟩
 obtain⟨o,Y,O,I,d⟩:=id X;refine⟨L,o,Y,rfl,O,?_⟩;refine Tv (fun i U Z=>Z=H/\(N.take i).find? (fun k=>JS t k.2)=none/\∃z,U=[some (.ref L),some (.str t),z]) ⟨rfl,rfl,_,rfl⟩ (fun i U Z _ z=>by rw[z.1];exact O) ?_ ?_
 .rintro i kv U Z hk ⟨rfl,hn,z,rfl⟩
  obtain⟨y,B,G,u⟩:=Wl I hk;have g:=Dg m (ZH G);obtain⟨v,S,T⟩:=d y B g;rw[u];have R:VP Z L (.str y) (some v):=.inl ⟨Y,Sum.inr y,.inr ⟨o,O⟩,rfl,S.symm⟩
  cases B with
  |pair a b=>
   obtain⟨j,rfl,J⟩:=V2 T;exact⟨_,R,_,_,Z0 J,rfl,rfl,_,rfl,Y1 (by decide +kernel) ⟨rfl,Wm hn G (fun z=>by cases z),_,rfl⟩⟩
  |tags C=>
   obtain⟨j,l,rfl,J,c⟩:=JO T;refine⟨_,R,_,_,Z0 J,rfl,rfl,_,rfl,VJ (by decide +kernel) ?_⟩;refine⟨_,R,_,_,Z0 J,rfl,l,_,rfl,.inr (Z0 c),rfl,Uh _,_,rfl,?_⟩;rw[XI]
   by_cases mt:t∈C
   .refine VJ (by simp only[Bool.false_eq_true,if_false];exact decide_eq_true mt) ?_
    rw[show V4 N t=some y by unfold V4;rw[Uu hn G (decide_eq_true mt)];rfl]at q;exact q
   .exact Y1 (by simp only[Bool.false_eq_true,if_false,decide_eq_true_eq];exact mt) ⟨rfl,Wm hn G (fun z=>mt (Zr z)),_,rfl⟩
 .rintro U Z ⟨rfl,hn,z,rfl⟩
  rw[WH I,List.take_length]at hn;rw[show V4 N t=none by unfold V4;rw[hn];rfl]at q;exact q
def Rt:Sp:=fun vs H Q _=>∃(sA:Addr)(a b:Str)(ks:List (Str×Shp)),vs=[.ref sA,.str a,.str b]/\SF H sA ks/\(ks.map (·.1)).Nodup/\∀H',Same H H'->Q (JJ (Vg ks a b)) H'
theorem KW(Y:4<=n)(F:Fun K "_law_pair_kind" "_law_pair_kind" BH f fd):Yo P w K mg base CX0 (n+1) f fd ["shapes","one","other"] Rt:=by
 refine F.oq Dj fun Z8 A N s H vs Q E I h=>?_;obtain⟨D,a,b,O,rfl,m,g,q⟩:=h;have p:=V1 I;have R:V7 (3+1) _:=I.mono Y;refine⟨_,YW (Vu Zt rfl (UL (pv 0)) (Yk 3 Dj.nd)
   (YZ (Yx (Yi (Xy R) (Yz p (pv 0) (pv 3) (fun _ _=>rfl)) (Yw (pa3 Yn (pv 1) (pv 2))) (Yq _)) (YZ (Yf (pv 3))) Yl)))
  (YZ (Yf VZ)),?_⟩
 obtain⟨o,J,B,S,r⟩:=id m;refine⟨D,o,J,rfl,B,?_⟩;refine Tv (fun i U L=>Same H L/\(O.take i).find? (fun k=>V0 a b k.2)=none/\∃z,U=[some (.ref D),some (.str a),some (.str b),z]) ⟨Z6 _,rfl,_,rfl⟩ (fun i U L _ z=>z.1 _ _ B) ?_ ?_
 .rintro i kv U L hk ⟨si,Y,z,rfl⟩
  obtain⟨y,G,T,x⟩:=Wl S hk;have u:=Dg g (ZH T);obtain⟨v,X,C⟩:=r y G u;rw[x];refine⟨_,.inl ⟨J,Sum.inr y,.inr ⟨o,si _ _ B⟩,rfl,X.symm⟩,sl 3,fun t d=>?_⟩;refine up_in d _ fun H1 M l=>?_
  refine⟨G.dat,.tup [.str "pair",.str a,.str b],C.mono (si.trans M),Yy l (Z2 Y5 (Z2 Y5 (Z3 Y5))),(by cases G with
   |tags j=>have:=J3 j;unfold Shp.dat;unfold Dat.dep at this;simp[Dat.dep,Dat.deps];omega
   |pair c e=>unfold Shp.dat;simp[Dat.dep,Dat.deps]),_,rfl,?_⟩
  rw[Qe]
  by_cases ip:V0 a b G=true
  .refine VJ ip ?_
   have Z:=q _ (si.trans M);rw[show Vg O a b=some y by unfold Vg;rw[Uu Y T ip];rfl]at Z;exact Z
  .exact Y1 ip ⟨si.trans M,Wm Y T ip,_,rfl⟩
 .rintro U L ⟨si,Y,z,rfl⟩
  have Z:=q _ si;rw[WH S,List.take_length]at Y;rw[show Vg O a b=none by unfold Vg;rw[Y];rfl]at Z;exact Z
end
end K4
namespace L2
open PySem
def HG(H:Hp)(a:Addr)(hd:Hds):Prop:=∃o kvs,H a=some (.frz o (.dK kvs))/\kvs.length<=8/\(∀q∈kvs,∃f,q.1=Sum.inr f)/\(∀f,hd f=none->Y8 kvs (Sum.inr f)=none)/\∀f ps k,hd f=some (ps,k)->ps.length<=3/\∃v,Y8 kvs (Sum.inr f)=some v/\Has H v (hdD ps k)
theorem HG.mono(h:HG H a hd)(e:Same H H'):HG H' a hd:=by
 obtain⟨o,Y,N,M,L,G,J⟩:=h;exact⟨o,Y,e _ _ N,M,L,G,fun f Z k z=>let⟨l,v,R,O⟩:=J f Z k z;⟨l,v,R,O.mono e⟩⟩
theorem Id(h:hd f=none):own ks hd kv (.ask f as) zs=none:=by unfold own;dsimp only;rw[h]
theorem Ic(h:hd f=some (ps,k))(e:ps.map (·.2)=zs):own ks hd kv (.ask f as) zs=some k:=by unfold own;dsimp only;rw[h];exact Zn e
theorem Ie(h:hd f=some (ps,k))(e:ps.map (·.2)≠zs):own ks hd kv (.ask f as) zs=none:=by unfold own;dsimp only;rw[h];exact Zo e
theorem Ia(e:a=z):own ks hd kv (.letb x z b g) [a,y]=some y:=Zn e
theorem Ib(e:a≠z):own ks hd kv (.letb x z b g) [a,y]=none:=Zo e
theorem LW(y:Str)(r:List Str):((r.map fun u=>decide (V.str u=V.str y)).all id=true)↔∀u∈r,u=y:=by
 rw[List.all_eq_true]
 constructor
 .intro h u Y
  have:=h _ (ZU.mpr ⟨u,Y,rfl⟩);simpa using this
 .intro h b hb
  obtain⟨u,Y,rfl⟩:=ZU.mp hb;simp[h u Y]
theorem yg{z:Str}{r:List Str}:Jp ((z::r).map V.str) (some 1) none=r.map V.str:=by
 have e:HT.sIx ((z::r).map V.str).length 0 (some 1)=1:=by
  unfold HT.sIx;simp
  try omega
 unfold Jp;rw[e];simp[HT.sIx];exact Ze (by rw[ZA];exact ZF _)
end L2
namespace K4
open PySem L2
section
theorem Ny:Yr ["shapes","asks","around","body","found","shape","fits"] ["shapes","asks","around","body","found"] (Yh IA):=Y7
theorem SE:List.Nodup [("own":Str)]:=by decide +kernel
theorem Ol:List.Nodup [("row":Str)]:=by decide +kernel
theorem zM:List.Nodup [("kind":Str),"found"]:=by decide +kernel
abbrev ops:List Str:=["shapes","asks","around","body","found"]
def Ru:Sp:=fun vs H Q _=>∃(sA aA a fl:Addr)(v:V)(ks:List (Str×Shp))(hd:Hds)(c d:Str->Nat)(kv:List (Key×V))(b:Bd)(zs:List Str),
 vs=[.ref sA,.ref aA,.ref a,v,.ref fl]/\SF H sA ks/\HG H aA hd/\(ks.map (·.1)).Nodup/\KK 30 c d ks/\NK (ks.map (·.1)) kv/\Rd H a (.dK kv)/\Has H v b.dat/\b.ok/\H fl=some (.lst (zs.map V.str))/\zs.length=b.parts.length/\(∀z∈zs,z∈ks.map (·.1))/\∀H',Same H H'->Q (JJ (own ks hd kv b zs)) H'
theorem OU(hn:4<=n)(B:Blt mg)(F:Fun K "_law_own_kind" "_law_own_kind" IA f fd)(DT:Df P w K mg base n "_law_tag_kind" ["shapes","tag"] Np)(DP:Df P w K mg base n "_law_pair_kind" ["shapes","one","other"] Rt):Yo P w K mg base CX0 (n+1) f fd ops Ru:=by
 refine F.oq Ny fun N7 A N1 s H J Q E hr h=>?_;obtain⟨sA,aA,a,fl,v,ks,hd,c,d,kv,b,zs,rfl,sf,hg,nd,kk,nk,ha,S,ok,X,lz,hz,q⟩:=h;have hu:=V1 hr;have L2:V7 (1+1) _:=hr.mono (show 2<=n by omega);refine⟨_,YW (Yx (Yi VB (Yd Yg (pv 3) YX) Yn (Yq _)) (YZ (Yf (Yt DT hr (pa2 (pv 0) (Yd Yg (pv 3) YX))))) Yl)
  (YW (Yx (Yi VB (Yd Yg (pv 3) YX) Yn (Yq _)) (YZ (Yf (WE hu (pv 2) (Yd Yg (pv 3) YX) ⟨rfl,rfl,rfl,rfl⟩))) Yl)
  (YW (Yx (Yi VB (Yd Yg (pv 3) YX) Yn (Yq _)) (YZ (Yf (Yt DP hr (pa3 (pv 0) (Yd Yv (pv 4) YX) (Yd Yv (pv 4) YX))))) Yl)
  (YW (Yx (Yi VB (Yd Yg (pv 3) YX) Yn (Yq _))
   (YW (Yx (PW.pt (JU (Ju (XC hu (Yd Yg (pv 3) YX) (pv 1))) (JH (Yi (Xy L2) (V6 ["own"] [] (Ji (Yd Yg (Yz hu (pv 1) (Yd Yg (pv 3) YX) (fun _ _=>rfl)) YX)) (Vl (i:=0) (by decide)) (fun cl C fp s H=>Yk 0 SE rfl (Or.inl rfl) (Or.inr rfl)) (fun cl C fp s H=>Yd (r:=Ta K) Yg (pv 0) YX)) (pv 4) (Yq _))))) (YZ (Yf (Yd Yg (Yz hu (pv 1) (Yd Yg (pv 3) YX) (fun _ _=>rfl)) YX))) Yl)
   (YZ (Yf VZ))) Yl)
  (YW (Yx (Yi VB (Yd Yg (pv 3) YX) Yn (Yq _)) (YZ (Yf (Yd Yv (VD (pa2 VZ (Yd Yv (pv 4) YX))) (Y4 Wo rfl B.int Ul (pa1 (Vs VB (Yd Yv (pv 4) YX) (Yd Yg (pv 3) YX) rfl))) (fun _ _=>rfl)))) Yl)
  (YW (Yp 5 Ny.nd (Yz hu (pv 0) (Yd Yv (pv 4) YX) (fun _ _=>rfl)))
  (YW (Yx (Yi Xq (Yd Yg (pv 3) YX) Yn (Yq _))
   (YW (Yx (Yi Xq (Yd Yg (pv 5) YX) Yn (Yq _)) (YZ (Yf VZ)) Yl)
   (YZ (Yf (Yd Yg (pv 5) (Y2 Vo YX (Y4 Wo rfl B.int Ul (pa1 (Vs VB (Yd Yg (pv 3) YX) Yn rfl)))) (fun _ _=>rfl))))) Yl)
  (YW (Yp 6 Ny.nd (UV (Vs VB (Yd Yg (pv 5) YX) Yn rfl) (Up (Vs (Xy L2) (V6 ["row"] [] (Ji (Yd Yg (pv 3) YX)) (Vl (i:=0) (by decide)) (fun cl C fp s H=>Yk 0 Ol rfl (Or.inl rfl) (Or.inr rfl)) (fun cl C fp s H=>Yd (r:=Ta K) Yg (pv 0) YX)) (Y4 JN rfl B.list Vc (pa1 (Yd Yg (pv 5) YX))) rfl))))
  (YW (Yx (PW.pt (JU (V9 (pv 6)) (JH (V9 (Y0 (T3 rfl) rfl B.all Wp (pa1 (V6 ["kind"] [4] (V5 (VM Xd (pv 4) (VY YX) Vr)) (Vl (i:=0) (by decide)) (fun cl C fp s H=>Yk 0 zM rfl (Or.inl rfl) (Or.inr rfl)) (fun cl C fp s H=>Vs VB (pv 0) (Yd (r:=IS K) Yv (pv 1) YX) rfl)))))))) (YZ (Yf (Yd Yv (pv 4) YX))) Yl)
  (YZ (Yf VZ)))))))))),?_⟩
 dsimp only[JV,Cx.nox,Cx.wish];show let a:=_;let b:=_;let c:=Yj (Y9 _ b _) a;let d:=Yj _ c;let e:=_;let f:=_;let g:=Yj (Y9 _ f _) e;let h:=Yj (Y9 _ g _) d;let i:=Yj _ h;let j:=_;let k:=Yj (Y9 _ j _) i;let l:=_;let m:=_;let n:=Yj (Y9 _ m _) l;let o:=Yj (Y9 _ n _) k;let p:=_;let q:=Yj (Y9 _ p _) o;let r:=_;let s:=Yj (Y9 _ r _) q;let t:=_;Yj (Y9 _ t _) s _ _ _
 intros
 obtain⟨oS,N2,s1,s2,s3⟩:=id sf;obtain⟨oA,G3,g1,g2,g3,g4,g5⟩:=id hg
 have sh:∀z∈zs,∃s v,Vd ks z=some s/\VP H sA (.str z) (some v)/\Has H v s.dat:=fun z hm=>by
  obtain⟨s',U⟩:=Vw (hz z hm);obtain⟨v,v1,v2⟩:=s3 z s' U;exact⟨s',v,U,.inl ⟨N2,Sum.inr z,.inr ⟨oS,s1⟩,rfl,v1.symm⟩,v2⟩
 cases b with
 |tag tg=>
  unfold Bd.dat at S;obtain⟨bt,rfl,Y⟩:=Jz S;refine⟨_,_,Z0 Y,rfl,rfl,_,rfl,VJ (by decide +kernel) ?_⟩;exact⟨_,_,Z0 Y,rfl,sA,tg,ks,rfl,sf,nd,q H (Z6 _)⟩
 |name x=>
  unfold Bd.dat at S;obtain⟨bt,rfl,Y⟩:=Jz S;refine⟨_,_,Z0 Y,rfl,rfl,_,rfl,Y1 (by decide +kernel) ?_⟩;refine⟨_,_,Z0 Y,rfl,rfl,_,rfl,VJ (by decide +kernel) ?_⟩;refine⟨.inl ⟨kv,ha⟩,_,_,Z0 Y,rfl,_,.inl ⟨kv,Sum.inr x,ha,rfl,rfl⟩,?_⟩;have Z:Q (JJ ((Y8 kv (Sum.inr x)).bind Fi)) H:=q H (Z6 _)
  cases e:Y8 kv (Sum.inr x)with
  |none=>rw[e]at Z;exact Z
  |some v=>
   obtain⟨k,rfl,_⟩:=nk.at e;rw[e]at Z;exact Z
 |pair e g=>
  obtain⟨bt,ys,rfl,Y⟩:=J7 S;dsimp only[Bd.word]at Y;obtain⟨z1,z2,rfl⟩:=RC lz;refine⟨_,_,Z0 Y,Y3 (j:=0) rfl,rfl,_,rfl,Y1 (by decide +kernel) ?_⟩;refine⟨_,_,Z0 Y,Y3 (j:=0) rfl,rfl,_,rfl,Y1 (by decide +kernel) ?_⟩;refine⟨_,_,Z0 Y,Y3 (j:=0) rfl,rfl,_,rfl,VJ (by decide +kernel) ?_⟩;exact⟨_,_,Z1 X,rfl,_,_,Z1 X,rfl,sA,z1,z2,ks,rfl,sf,nd,q⟩
 |ask fn as=>
  obtain⟨bt,ub,rfl,Y,_⟩:=WL S;refine⟨_,_,Z0 Y,rfl,rfl,_,rfl,Y1 (by decide +kernel) ?_⟩;refine⟨_,_,Z0 Y,rfl,rfl,_,rfl,Y1 (by decide +kernel) ?_⟩;refine⟨_,_,Z0 Y,rfl,rfl,_,rfl,Y1 (by decide +kernel) ?_⟩;refine⟨_,_,Z0 Y,rfl,rfl,_,rfl,VJ (by decide +kernel) ?_⟩;refine⟨_,_,Z0 Y,rfl,_,.inl ⟨G3,Sum.inr fn,.inr ⟨oA,g1⟩,rfl,rfl⟩,_,rfl,?_⟩
  cases eh:hd fn with
  |none=>
   rw[g4 fn eh];have Z:=q H (Z6 _);rw[Id eh]at Z;exact Y1 (by simp) (Y1 (by simp) Z)
  |some pk=>
   obtain⟨T,k⟩:=pk;obtain⟨l3,v,v1,v2⟩:=g5 fn T k eh;rw[v1];refine VJ rfl ?_;obtain⟨t,l,D,rfl,ht,hl,I⟩:=Ma v2;have dg:∀{G},Same H G->VP G aA (.str fn) (some (.ref t)):=fun e=>.inl ⟨G3,Sum.inr fn,.inr ⟨oA,e _ _ g1⟩,rfl,v1.symm⟩;have lx:=I.length;rw[ZA]at lx;refine⟨_,_,Z0 Y,rfl,_,dg (Z6 _),_,_,Z0 ht,rfl,⟨_,Z0 hl⟩,?_⟩;refine VR D.length (Ye (by exact Pw lx l3)) (fun j J G=>Same H G/\J.length=j/\J=((T.map (·.2)).take j).map V.str) ⟨Z6 _,rfl,rfl⟩ (fun j J G z=>z.2.1) ?_ ?_ ?_ ?_
   .intro j J G hj z
    exact⟨D,D[j],Z0 (z.1 _ _ hl),by simp[hj]⟩
   .intro J G z
    exact⟨D,Z0 (z.1 _ _ hl),ZF _⟩
   .intro j J G u H'' R hj z yl hR
    obtain⟨rfl,yy⟩:=yl;obtain⟨dd,O,G1⟩:=I.get (yy D (Z0 (z.1 _ _ hl)));rw[ZG]at O
    cases M:T[j]? with
    |none=>rw[M]at O;cases O
    |some pr=>
     rw[M]at O;cases O;obtain⟨t2,rfl,J2⟩:=Jz G1;refine⟨_,_,Z0 (z.1 _ _ J2),rfl,?_⟩;refine hR _ _ ⟨z.1,by rw[ZJ,z.2.1];rfl,?_⟩;rw[z.2.2,show(T.map (·.2)).take (j+1)=(T.map (·.2)).take j++[pr.2]from take_snoc (by rw[ZG,M];rfl),ZI]
     rfl
   .intro J H1 l2 z hl2
    obtain⟨z1,_,rfl⟩:=z;rw[Ze (by rw[ZA];exact oq9 lx)];refine up_in hl2 _ fun H2 s2 g2=>?_;have L:=z1.trans s2;refine⟨.lst ((T.map (·.2)).map Dat.str),.lst (zs.map Dat.str),MW g2,MW (L _ _ X),J3 _,_,rfl,?_⟩;unfold Dat.pq;rw[XB];have Z:=q H2 L
    by_cases cz:T.map (·.2)=zs
    .rw [Ic eh cz]at Z
     refine VJ (decide_eq_true cz) ?_;exact⟨_,_,Z0 (L _ _ Y),rfl,_,dg L,_,_,Z0 (L _ _ ht),rfl,Z⟩
    .rw [Ie eh cz]at Z
     exact Y1 (by simp[cz]) Z
 |letb x k e g=>
  obtain⟨bt,u1,u2,rfl,Y⟩:=Gk S;obtain⟨z1,z2,rfl⟩:=RC lz;refine⟨_,_,Z0 Y,rfl,rfl,_,rfl,Y1 (by decide +kernel) ?_⟩;refine⟨_,_,Z0 Y,rfl,rfl,_,rfl,Y1 (by decide +kernel) ?_⟩;refine⟨_,_,Z0 Y,rfl,rfl,_,rfl,Y1 (by decide +kernel) ?_⟩;refine⟨_,_,Z0 Y,rfl,rfl,_,rfl,Y1 (by decide +kernel) ?_⟩;refine⟨_,_,Z0 Y,rfl,rfl,_,rfl,VJ (by decide +kernel) ?_⟩;refine⟨_,_,Z1 X,rfl,sl 2,fun l0 N5=>?_⟩;refine up_in N5 _ fun H1 s1 g1=>?_;have Z:=q H1 s1;refine⟨_,_,Z1 (s1 _ _ X),rfl,_,_,Z0 (s1 _ _ Y),rfl,rfl,.inr ⟨_,rfl,?_⟩⟩
  by_cases ck:z1=k
  .rw [Ia ck]at Z
   rw[ck];exact⟨_,_,Z1 g1,by simp;rfl,Z⟩
  .rw [Ib ck]at Z
   exact⟨_,_,Z1 g1,by simp[ck];rfl,Z⟩
 |one e=>
  obtain⟨bt,ys,rfl,Y⟩:=J7 S;dsimp only[Bd.word]at Y;obtain⟨z,rfl⟩:=RD lz;refine⟨_,_,Z0 Y,Y3 (j:=0) rfl,rfl,_,rfl,Y1 (by decide +kernel) ?_⟩;refine⟨_,_,Z0 Y,Y3 (j:=0) rfl,rfl,_,rfl,Y1 (by decide +kernel) ?_⟩;refine⟨_,_,Z0 Y,Y3 (j:=0) rfl,rfl,_,rfl,Y1 (by decide +kernel) ?_⟩;refine⟨_,_,Z0 Y,Y3 (j:=0) rfl,rfl,_,rfl,Y1 (by decide +kernel) ?_⟩;refine⟨_,_,Z0 Y,Y3 (j:=0) rfl,rfl,_,rfl,Y1 (by decide +kernel) ?_⟩;obtain⟨s',v,U,dg,N⟩:=sh z (by simp);refine⟨_,_,Z1 X,rfl,_,dg,?_⟩;refine⟨_,_,Z0 Y,Y3 (j:=0) rfl,rfl,_,rfl,VJ (by decide +kernel) ?_⟩;have Z:Q (JJ (match Vd ks z with|some (.pair a _)=>some a|_=>none)) H:=q H (Z6 _);rw[U]at Z
  cases s' with
  |tags ts=>
   obtain⟨T,l,rfl,M,hl⟩:=JO N;exact⟨_,_,Z0 M,rfl,rfl,_,rfl,VJ (by decide +kernel) Z⟩
  |pair p1 p2=>
   obtain⟨T,rfl,M⟩:=V2 N;refine⟨_,_,Z0 M,rfl,rfl,_,rfl,Y1 (by decide +kernel) ?_⟩;exact⟨_,_,Z0 Y,Y3 (j:=0) rfl,rfl,.inr ⟨_,rfl,_,_,Z0 M,rfl,Z⟩⟩
 |other e=>
  obtain⟨bt,ys,rfl,Y⟩:=J7 S;dsimp only[Bd.word]at Y;obtain⟨z,rfl⟩:=RD lz;refine⟨_,_,Z0 Y,Y3 (j:=0) rfl,rfl,_,rfl,Y1 (by decide +kernel) ?_⟩;refine⟨_,_,Z0 Y,Y3 (j:=0) rfl,rfl,_,rfl,Y1 (by decide +kernel) ?_⟩;refine⟨_,_,Z0 Y,Y3 (j:=0) rfl,rfl,_,rfl,Y1 (by decide +kernel) ?_⟩;refine⟨_,_,Z0 Y,Y3 (j:=0) rfl,rfl,_,rfl,Y1 (by decide +kernel) ?_⟩;refine⟨_,_,Z0 Y,Y3 (j:=0) rfl,rfl,_,rfl,Y1 (by decide +kernel) ?_⟩;obtain⟨s',v,U,dg,N⟩:=sh z (by simp);refine⟨_,_,Z1 X,rfl,_,dg,?_⟩;refine⟨_,_,Z0 Y,Y3 (j:=0) rfl,rfl,_,rfl,VJ (by decide +kernel) ?_⟩;have Z:Q (JJ (match Vd ks z with|some (.pair _ b)=>some b|_=>none)) H:=q H (Z6 _);rw[U]at Z
  cases s' with
  |tags ts=>
   obtain⟨T,l,rfl,M,hl⟩:=JO N;exact⟨_,_,Z0 M,rfl,rfl,_,rfl,VJ (by decide +kernel) Z⟩
  |pair p1 p2=>
   obtain⟨T,rfl,M⟩:=V2 N;refine⟨_,_,Z0 M,rfl,rfl,_,rfl,Y1 (by decide +kernel) ?_⟩;exact⟨_,_,Z0 Y,Y3 (j:=0) rfl,rfl,.inr ⟨_,rfl,_,_,Z0 M,rfl,Z⟩⟩
 |choose e ts bs=>
  obtain⟨bt,ub,bl,D,rfl,Y,Z8,I⟩:=X1 S;unfold Bd.ok at ok;obtain⟨_,lb,⟨b1,l7⟩,_⟩:=ok;have lx:=I.length;rw[brs_len lb]at lx;obtain⟨z,zr,rfl⟩:∃z zr,zs=z::zr:=match zs,lz with|z::zr,_=>⟨z,zr,rfl⟩
  have lr:zr.length=bs.length:=Nat.succ.inj lz;obtain⟨y,r,rfl⟩:∃y r,zr=y::r:=match zr,lr with|[],e=>by rw[lb]at e;rw[<-e]at b1;exact Zp b1 (by decide)|y::r,_=>⟨y,r,rfl⟩
  rw[Zd]at lr;refine⟨_,_,Z0 Y,rfl,rfl,_,rfl,Y1 (by decide +kernel) ?_⟩;refine⟨_,_,Z0 Y,rfl,rfl,_,rfl,Y1 (by decide +kernel) ?_⟩;refine⟨_,_,Z0 Y,rfl,rfl,_,rfl,Y1 (by decide +kernel) ?_⟩;refine⟨_,_,Z0 Y,rfl,rfl,_,rfl,Y1 (by decide +kernel) ?_⟩;refine⟨_,_,Z0 Y,rfl,rfl,_,rfl,Y1 (by decide +kernel) ?_⟩;obtain⟨s',v,U,dg,N⟩:=sh z (by simp);refine⟨_,_,Z1 X,Y3 (j:=0) rfl,_,dg,?_⟩;refine⟨_,_,Z0 Y,rfl,rfl,_,rfl,Y1 (by decide +kernel) ?_⟩
  cases s' with
  |pair p1 p2=>
   obtain⟨T,rfl,M⟩:=V2 N;have Z:=q H (Z6 _);rw[Xg (fun z=>by rw[U]at z;cases z.1)]at Z;exact⟨_,_,Z0 M,rfl,rfl,_,rfl,Y1 (by decide +kernel) ⟨_,rfl,Y1 (by simp) (Y1 (by simp) Z)⟩⟩
  |tags us=>
   obtain⟨T,l,rfl,M,hl⟩:=JO N;refine⟨_,_,Z0 M,rfl,rfl,_,rfl,VJ (by decide +kernel) ?_⟩;refine⟨_,_,Z0 Y,rfl,⟨_,Z0 Z8⟩,?_⟩;refine VR D.length (Ye (by exact CF lx l7)) (fun j J G=>Same H G/\J.length=j/\J=(ts.take j).map V.str) ⟨Z6 _,rfl,rfl⟩ (fun j J G z=>z.2.1) ?_ ?_ ?_ ?_
   .intro j J G hj z
    exact⟨D,D[j],Z0 (z.1 _ _ Z8),by simp[hj]⟩
   .intro J G z
    exact⟨D,Z0 (z.1 _ _ Z8),ZF _⟩
   .intro j J G u H'' R hj z yl hR
    obtain⟨rfl,yy⟩:=yl;obtain⟨dd,O,G1⟩:=I.get (yy D (Z0 (z.1 _ _ Z8)));obtain⟨tg,bb,ht,rfl⟩:=brs_get O;obtain⟨t2,N6,rfl,J2,_⟩:=Tp G1;refine⟨_,_,Z0 (z.1 _ _ J2),rfl,?_⟩;refine hR _ _ ⟨z.1,by rw[ZJ,z.2.1];rfl,?_⟩;rw[z.2.2,take_snoc ht,ZI]
    rfl
   .intro J H1 l2 z hl2
    obtain⟨z1,_,rfl⟩:=z;rw[Ze (by exact oq9 lx)];refine up_in hl2 _ fun H2 s2 g2=>?_;have L:=z1.trans s2;refine⟨_,_,Z0 (L _ _ M),rfl,l,_,rfl,.inr (Z0 (L _ _ hl)),fun l3 N4=>?_⟩;refine up_in N4 _ fun H3 s3 g3=>?_;have Z9:=L.trans s3;refine⟨.lst (ts.map Dat.str),.lst (us.map Dat.str),MW (s3 _ _ g2),MW g3,J3 _,?_⟩;unfold Dat.pq;rw[XB]
    by_cases ct:ts=us
    case neg=>
     have Z:=q H3 Z9;rw[Xg (fun z=>ct (by have z1:=U.symm.trans z.1;injection z1 with z2;injection z2 with z3;exact z3.symm))]at Z;rw[Zw ct];exact⟨_,rfl,Y1 (by simp) (Y1 (by simp) Z)⟩
    subst ct;rw[decide_eq_true rfl];refine⟨_,rfl,VJ rfl ?_⟩;have N0:=Z9 _ _ X;refine⟨1,rfl,fl,_,rfl,Z1 N0,fun l4 N3=>?_⟩;rw[yg];refine up_in N3 _ fun H4 s4 g4=>?_;refine⟨⟨_,Z1 g4⟩,?_⟩;refine VR (y::r).length (Ye (by rw[Zd];exact CC lr lb l7)) (fun j J G=>Same H4 G/\J=(((y::r).take j).map fun u=>decide (V.str u=V.str y)).map V.bl/\J.length=j) ⟨Z6 _,rfl,rfl⟩ (fun j J G z=>z.2.2) ?_ ?_ ?_ ?_
    .intro j J G hj z
     exact⟨_,.str (y::r)[j],Z1 (z.1 _ _ g4),by rw[ZG,ZC hj];rfl⟩
    .intro J G z
     exact⟨_,Z1 (z.1 _ _ g4),by rw[ZA];exact ZF _⟩
    .intro j J G u H'' R hj z yl hR
     obtain⟨rfl,yy⟩:=yl;have e5:=yy _ (Z1 (z.1 _ _ g4));rw[ZG,ZC hj]at e5;cases ZP e5;refine⟨_,_,Z1 (z.1 _ _ (s4 _ _ N0)),Y3 (j:=1) rfl,rfl,hR _ _ ⟨z.1,?_,by rw[ZJ,z.2.2];rfl⟩⟩;rw[z.2.1,take_snoc (ZC hj),ZI,ZI]
     rfl
    .intro J H5 l6' z hl6
     obtain⟨z5,rfl,_⟩:=z;rw[List.take_length];refine up_in hl6 _ fun H6 s6 g6=>?_;have G2:=((Z9.trans s4).trans z5).trans s6;have Z:=q H6 G2;refine⟨l6',_,rfl,Z1 g6,_,rfl,?_⟩
     by_cases cu:∀u∈r,u=y
     .rw [Dz U cu]at Z
      refine VJ ((LW y _).mpr fun u hu=>(Zb.mp hu).elim id (cu u)) ?_;exact⟨_,_,Z1 (G2 _ _ X),Y3 (j:=1) rfl,Z⟩
     .rw [Xg (fun z=>cu z.2)]at Z
      exact Y1 (fun z=>cu fun u hu=>(LW y _).mp z u (ZK _ hu)) Z
end
end K4
namespace L2
open PySem
theorem Bd.pls_app:∀(xs ys:List Bd)(k:Nat),Bd.pls k (xs++ ys)=Bd.pls k xs++ Bd.pls (k+xs.length) ys
 |[],ys,k=>by simp[Bd.pls]
 |x::xs,ys,k=>by
  rw[List.cons_append];rw[Bd.pls,Bd.pls,Bd.pls_app xs ys (k+1),List.append_assoc,Zd,show k+1+xs.length=k+(xs.length+1) by exact oq1]
theorem Bd.pls_snoc{bs:List Bd}{i:Nat}{c:Bd}(h:bs[i]?=some c):Bd.pls 0 (bs.take (i+1))=Bd.pls 0 (bs.take i)++ c.places.map fun w=>((i:Nat):Int)::w:=by
 have Y:=(ZE.mp h).1;rw[show bs.take (i+1)=bs.take i++[c]from take_snoc h,Bd.pls_app];rw[ZL,Nat.zero_add,Nat.min_eq_left (Zf Y)];simp[Bd.pls]
theorem Bd.pls_le(bs:List Bd)(i:Nat):(Bd.pls 0 (bs.take i)).length<=(Bd.pls 0 bs).length:=by
 have e:bs=bs.take i++ bs.drop i:=(List.take_append_drop i bs).symm
 have Y:Bd.pls 0 bs=Bd.pls 0 (bs.take i)++ Bd.pls (0+(bs.take i).length) (bs.drop i):=by
  conv=>lhs;rw[e]
  exact Bd.pls_app _ _ _
 rw[Y,ZJ];exact Ip
theorem Bd.part_le{b c:Bd}{i:Nat}(h:b.parts[i]?=some c):1+(Bd.pls 0 (b.parts.take i)).length+c.places.length<=b.places.length:=by
 have e:=congrArg List.length (Bd.pls_snoc h);rw[ZJ,ZA]at e;have l:=Bd.pls_le b.parts (i+1);rw[Bd.places_eq b,Zd];omega
theorem Bd.pls_mem:∀{bs:List Bd}{k:Nat}{w:List Int},w∈Bd.pls k bs->∃c∈bs,∃(m:Nat)(r:List Int),r∈c.places/\w=((m:Nat):Int)::r
 |[],_,_,h=>by unfold Bd.pls at h;cases h
 |b::bs,k,w,h=>by
  unfold Bd.pls at h;rcases ZV.mp h with h|h
  .obtain ⟨r,hr,e⟩:=ZU.mp h
   exact⟨b,ZY,k,r,hr,e.symm⟩
  .obtain ⟨c,hc,m,r,h1,h2⟩:=Bd.pls_mem h
   exact⟨c,ZK _ hc,m,r,h1,h2⟩
theorem Bd.way_len:∀(n:Nat)(b:Bd),b.dep<=n->∀w∈b.places,w.length<=n
 |n,b,h,w,Y=>by
  rw[Bd.places_eq]at Y;rcases Zb.mp Y with e|Y
  .rw [e];exact Za _
  .obtain ⟨c,hc,m,r,h1,rfl⟩:=Bd.pls_mem Y
   have:=Bd.dep_mem hc
   cases n with
   |zero=>omega
   |succ n=>
    have:=Bd.way_len n c (by exact D1 this h) r h1;simp;omega
theorem Bd.pls_len:∀{bs:List Bd}{k:Nat},(∀c∈bs,c.places.length=c.size)->(Bd.pls k bs).length=Bd.sizes bs
 |[],k,_=>by simp[Bd.pls,Bd.sizes]
 |b::bs,k,h=>by
  rw[Bd.pls,ZJ,ZA,h b ZY,Bd.pls_len (k:=k+1) fun c Y=>h c (ZK _ Y)];simp[Bd.sizes]
theorem Bd.places_len:∀(n:Nat)(b:Bd),b.dep<=n->b.places.length=b.size
 |n,b,h=>by
  rw[Bd.places_eq,Bd.size_eq,Zd]
  have:(Bd.pls 0 b.parts).length=Bd.sizes b.parts:=Bd.pls_len fun c Y=>by
   have:=Bd.dep_mem Y
   cases n with
   |zero=>omega
   |succ n=>exact Bd.places_len n c (by exact D1 this h)
  exact Ab this
theorem Bd.pls_at:∀{bs:List Bd}{k:Nat}{w:List Int},w∈Bd.pls k bs->∃(m:Nat)(c:Bd)(r:List Int),bs[m]?=some c/\r∈c.places/\w=((k+m:Nat):Int)::r
 |[],_,_,h=>by unfold Bd.pls at h;cases h
 |b::bs,k,w,h=>by
  rw[Bd.pls]at h;rcases ZV.mp h with h|h
  .obtain ⟨r,hr,e⟩:=ZU.mp h
   exact⟨0,b,r,rfl,hr,e.symm⟩
  .obtain ⟨m,c,r,h1,h2,h3⟩:=Bd.pls_at h
   exact⟨m+1,c,r,h1,h2,by rw[h3];congr 2;exact oq1⟩
theorem Bd.at_places:∀(n:Nat)(b:Bd),b.dep<=n->∀w∈b.places,∃c,b.at w=some c
 |n,b,h,w,Y=>by
  rw[Bd.places_eq]at Y;rcases Zb.mp Y with e|Y
  .rw [e];exact⟨b,by unfold Bd.at;rfl⟩
  .obtain ⟨m,c,r,h1,h2,rfl⟩:=Bd.pls_at Y
   have:=Bd.dep_mem (ZH h1)
   cases n with
   |zero=>omega
   |succ n=>
    obtain⟨d,Z⟩:=Bd.at_places n c (by exact D1 this h) r h2;refine⟨d,?_⟩;unfold Bd.at;rw[Zn (by omega),show(((0+m:Nat):Int)).toNat=m by exact Aa,h1];exact Z
end L2
namespace K4
open PySem L2
section
theorem TQ:Yr ["body","found","k","part"] ["body"] (Yh Dr):=Y7
theorem QP:List.Nodup [("place":Str),"k"]:=by decide +kernel
def UG(n:Nat):Sp:=fun vs H Q _=>∃(v:V)(b:Bd),vs=[v]/\Has H v b.dat/\b.ok/\b.dep<n/\b.dep<=20/\b.places.length<=500/\∀(r:Addr)(H':Hp),Same H H'->Has H' (.ref r) (.lst (b.places.map UB))->Q (.ref r) H'
theorem Rc{F:TE}{I:St}{Q:VK}{Y:List V}{ws:List (List Int)}(i:Nat)(B:H r2=some (.lst Y))(C:HasL H Y (ws.map UB))(N:∀w∈ws,w.length<=20)(S:ws.length<=500)(L:∀(J:Addr)(w:List Int)(D:Hp)(R:VK),D J=some (.tup (w.map V.int))->w.length<=20->(∀t G,Same D G->G t=some (.tup ((((i:Nat):Int)::w).map V.int))->R (.ref t) G)->F (I.set 0 (some (.ref J))) D R)(P:∀vs H' p,Same H H'->H' p=none->vs.length=ws.length->HasL H' vs ((ws.map fun w=>((i:Nat):Int)::w).map UB)->Q (.ref p) (upd H' p (.lst vs))):EV (Itl K r2) (JG 0) F I Q H:=by
 have M:=C.length;rw[ZA]at M;refine VR Y.length (Ye (by omega)) (fun j vs H'=>Same H H'/\vs.length=j/\HasL H' vs (((ws.take j).map fun w=>((i:Nat):Int)::w).map UB)) ⟨Z6 _,rfl,Z4⟩ (fun j vs H' z=>z.2.1) ?_ ?_ ?_ ?_
 .rintro j vs H' hj ⟨sj,_⟩
  exact⟨Y,Y[j],Z1 (sj _ _ B),by simp[hj]⟩
 .rintro vs H' ⟨sj,_⟩
  exact⟨Y,Z1 (sj _ _ B),ZF _⟩
 .rintro j vs H' x H3 R hj ⟨sj,z2,z3⟩ yl hR
  obtain⟨rfl,y⟩:=yl;obtain⟨q,Z,O⟩:=C.get (y Y (Z1 (sj _ _ B)));rw[ZG]at Z;obtain⟨E,U,rfl⟩:=Zh.mp Z;obtain⟨J,rfl,T⟩:=Gj O;refine L J E _ _ (sj _ _ T) (N E (ZH U)) fun t G A X=>hR _ _ ⟨sj.trans A,by rw[ZJ,z2];rfl,?_⟩;rw[take_snoc U,ZI,ZI];exact Z5 (z3.mono A) (Z3 (X5 X))
 .rintro vs H' p ⟨sj,z2,z3⟩ hp
  rw[Ze (by exact oq9 M)]at z3;exact P vs H' p sj hp (by exact AC M z2) z3
theorem EO{Q:VK}{i:Int}{w:List Int}(L:H pw=some (.tup (w.map V.int)))(l:w.length<=20)(q:∀t H',Same H H'->H' t=some (.tup ((i::w).map V.int))->Q (.ref t) H'):
  ∀Y,H Y=none->Wv K (.ref Y) (.ref pw) (upd H Y (.tup [.int i])) Q:=fun Y J=>by
 have Z:=Yb J (.tup [.int i]);have G:upd H Y (.tup [.int i]) Y=some (.tup [.int i]):=YY;refine⟨Y,pw,_,_,rfl,rfl,Z0 G,Z0 (Z _ _ L),by simp,Zf (Ye (by simp;omega)),fun e=>?_,fun N p M=>?_⟩
 .have e':w=[]:=by cases w with|nil=>rfl|cons _ _=>cases e
  subst e';exact q Y _ Z G
 .exact q p _ (Z.trans (Yb M _)) YY
theorem Og(me:mg "enumerate"=none)(F:Fun K "_law_all_places" "_law_all_places" Dr f fd)(G:Yo P w K mg base CX0 m f fd ["body"] (UG n))(bG:Binds K fd ["body"] [])(mG:mg "_law_all_places"=some (.ref f))(DR:Df P w K mg base m "_law_parts" ["body"] Vy):Yo P w K mg base CX0 (m+1) f fd ["body"] (UG (n+1)):=by
 refine F.oq TQ fun J2 A k s H B Q E hr h=>?_;obtain⟨v,b,rfl,hv,ok,dn,T,Y,q⟩:=h;have DG:Df P w K mg base m "_law_all_places" ["body"] (UG n):=⟨f,fd,mG,F.kp,bG,G⟩;refine⟨_,YW (Yp 1 TQ.nd (VD (pa1 (Yw VT))))
  (YW (Vu Zt rfl (WD rfl me (pa1 (Yt DR hr (pa1 (pv 0))))) (Vn (n:=2) rfl (Ys (Yk 2 TQ.nd (hx:=Or.inr rfl)) (Ys (Yk 3 TQ.nd) VO)))
   (YZ (Yp 1 TQ.nd (Y2 Ur (pv 1) (V6 ["place"] [2] (V5 (Yt DG hr (pa1 (pv 3)))) (Vl (i:=0) (by decide)) (fun cl C fp s H=>Yk 0 QP rfl (Or.inl rfl) (Or.inr rfl))
    (fun cl C fp s H=>Y2 (r:=Wv K) Xh (Yw (pa1 (pv 1))) (pv 0)))))))
  (YZ (Yf (pv 1)))),?_⟩
 dsimp only[JV,Cx.nox,Cx.wish];refine⟨sl 0,fun t0 u=>?_⟩;refine up_in u _ fun H1 s1 g1=>?_;refine⟨sl 1,fun Z o=>?_⟩;refine up_in o _ fun H2 t g2=>?_;refine⟨v,b,rfl,(hv.mono s1).mono t,ok,fun a H3 y Z9 d=>?_⟩;obtain⟨_,xs,er,ha,M⟩:=Jd d;cases er;have lx:=M.length;rw[Z7,ZA]at lx;refine⟨a,false,xs,rfl,Z1 ha,?_⟩;have g:=(s1.trans t).trans y
 let I:Nat->St->Hp->Prop:=fun i U J=>Same H3 J/\∃Z L,J Z=some (.lst L)/\HasL J L (([]::Bd.pls 0 (b.parts.take i)).map UB)/\∃S D,U=[some v,some (.ref Z),S,D]
 refine Gp (tp:=false) (xs:=xs) I ⟨Z6 _,Z,_,y _ _ g2,Z3 (X5 (ws:=[]) (y _ _ (t _ _ g1))),_,_,rfl⟩ (fun i U J _ z=>Z1 (z.1 _ _ ha)) ?_ ?_
 .rintro BB RR i x U J r hx ⟨si,Z,L,hfi,hzi,S,D,rfl⟩ hr'
  refine up_in hr' _ fun HR sR gR=>?_;obtain⟨dd,N,Z8⟩:=(M.mono si).get hx;rw[Z7,ZG]at N;obtain⟨c,hc,rfl⟩:=Zh.mp N;have O:=ZH hc;have dc:=Bd.dep_mem O;have le:=Bd.part_le hc;refine⟨_,Z0 gR,rfl,?_⟩;refine⟨x,c,rfl,Z8.mono sR,Bd.ok_parts ok c O,by exact Ti dc dn,by exact Pf dc T,by exact Pe Y le,fun r2 H4 s4 h4=>?_⟩;obtain⟨_,os,er,ho,e⟩:=Jd h4;cases er;refine⟨⟨_,Z1 ho⟩,?_⟩;refine Rc (K:=K) i ho e (fun w hw=>ZZ (Bd.way_len _ c (ZF _) w hw) (by exact Pf dc T)) (by exact Pe Y le) ?_ ?_
  .intro pw w0 Hx R hpw lw hR
   exact⟨sl 1,EO hpw lw hR⟩
  .intro B H5 p s5 hp lv hvs
   refine up_in hp _ fun H6 s6 g6=>?_;have X:Same J H6:=((sR.trans s4).trans s5).trans s6;have lz:=hzi.length;rw[ZA,Zd]at lz;refine⟨Z,p,L,B,rfl,rfl,X _ _ hfi,g6,Zf (Ye (by omega)),fun p7 l=>?_⟩;have j:=Yb l (.lst (L++ B));have sB:=(si.trans X).trans j;refine⟨sB,p7,L++ B,YY,?_,_,_,rfl⟩;rw[Bd.pls_snoc hc,<-List.cons_append,ZI];exact Z5 ((hzi.mono X).mono j) ((hvs.mono s6).mono j)
 .rintro U J ⟨si,Z,L,hfi,hzi,S,D,rfl⟩
  rw[lx,List.take_length,<-Bd.places_eq]at hzi;exact q Z J (g.trans si) (JD hfi hzi)
theorem M0:Yo P w K mg base CX0 m f fd ["body"] (UG 0):=
 ⟨fun J H Q E h=>let⟨_,_,_,_,_,Z,_⟩:=h;Zp Z (Zu _),fun A Y s H args G J Q E _ _ _ _ h=>let⟨_,_,_,_,_,Z,_⟩:=h;Zp Z (Zu _)⟩
theorem EU(Y:mg "enumerate"=none)(F:Fun K "_law_all_places" "_law_all_places" Dr f fd)(J:Binds K fd ["body"] [])(Z:mg "_law_all_places"=some (.ref f))(G:Df P w K mg base 1 "_law_parts" ["body"] Vy):∀n,Yo P w K mg base CX0 (1+n) f fd ["body"] (UG n)
 |0=>M0
 |n+1=>Og (m:=1+n) Y F (EU Y F J Z G n) J Z (G.up (by exact RP))
end
end K4
namespace L2
open PySem
theorem Rl(b:TK H H'):∀{ws:List (List Int)}{xs:List V},HasL H xs (ws.map UB)->HasL H' xs (ws.map UB)
 |[],xs,h=>by
  obtain rfl:=Vb h;exact Z4
 |w::ws,xs,h=>by
  rw[ZT]at h;obtain⟨x,r,rfl,J,Z⟩:=Ym h;obtain⟨a,rfl,Y⟩:=Gj J;exact Z2 (X5 (b _ _ Y)) (Rl b Z)
theorem FZ:∀ws:List (List Int),(Dat.lst (ws.map UB)).dep<=2:=by
 have J:∀Y:List Int,Dat.deps (Y.map Dat.int)=0:=fun Y=>by
  induction Y with
  |nil=>unfold List.map Dat.deps;rfl
  |cons n Y ih=>rw[ZT];unfold Dat.deps;rw[ih];simp[Dat.dep]
 have Z:∀ws:List (List Int),Dat.deps (ws.map UB)<=1:=fun ws=>by
  induction ws with
  |nil=>unfold List.map Dat.deps;decide
  |cons n Y ih=>
   rw[ZT];unfold Dat.deps UB;have e:(Dat.tup (n.map Dat.int)).dep<=1:=by unfold Dat.dep;rw[J];decide
   unfold UB at ih;omega
 intro ws;unfold Dat.dep;have:=Z ws;exact AB this
theorem SF.key(h:SF H a ks):∃kvs,Rd H a (.dK kvs)/\∀y,(Y8 kvs (Sum.inr y)).isSome=true↔y∈ks.map (·.1):=by
 obtain⟨o,kvs,O,N,M⟩:=h;refine⟨kvs,.inr ⟨o,O⟩,fun y=>⟨fun z=>?_,fun m=>?_⟩⟩
 .obtain ⟨v,Y⟩:=Option.isSome_iff_exists.mp z
  obtain⟨q,J,e,_⟩:=X6 Y;obtain⟨i,L⟩:=List.mem_iff_getElem?.mp J;obtain⟨R,s,G,Z⟩:=Wl N L;rw[e]at Z;cases Z;exact ZU.mpr ⟨_,ZH G,rfl⟩
 .obtain ⟨s,hs⟩:=Vw m
  obtain⟨v,Y,_⟩:=M y s hs;rw[Y];rfl
theorem Bd.sizes_app(as bs:List Bd):Bd.sizes (as++ bs)=Bd.sizes as+Bd.sizes bs:=by
 induction as with
 |nil=>simp[Bd.sizes]
 |cons x Y ih=>simp only[List.cons_append,Bd.sizes,ih];exact A9
end L2
namespace K4
open PySem L2
section
theorem JX:Yr ["shapes","asks","around","body","inner","found","wrong","k","part","kind","some"] ["shapes","asks","around","body"] (Yh GY):=Y7
abbrev kps:List Str:=["shapes","asks","around","body"]
def Xb(n:Nat):Sp:=fun vs H Q _=>∃(sA aA a:Addr)(v:V)(ks:List (Str×Shp))(hd:Hds)(c d:Str->Nat)(kv:List (Key×V))(b:Bd),
 vs=[.ref sA,.ref aA,.ref a,v]/\SF H sA ks/\HG H aA hd/\(ks.map (·.1)).Nodup/\KK 30 c d ks/\HK (ks.map (·.1)) hd/\NK (ks.map (·.1)) kv/\Rd H a (.dK kv)/\kv.length+b.dep<=500/\Has H v b.dat/\b.ok/\b.dep<n/\b.dep<=18/\b.size<=100/\
 ∀r wl ws H',Same H H'->H wl=none->H' r=some (.tup [JJ (kdn ks hd n kv b),.ref wl])->Has H' (.ref wl) (.lst (ws.map UB))->(ws=[]↔kdn ks hd n kv b≠none)->ws.length<=b.size->(∀w∈ws,w.length<=b.dep)->Q (.ref r) H'
theorem Eu(B:Blt mg)(me:mg "enumerate"=none)(F:Fun K "_law_kinded" "_law_kinded" GY f fd)(G:Yo P w K mg base CX0 (L+6) f fd kps (Xb n))(bG:Binds K fd kps [])(mG:mg "_law_kinded"=some (.ref f))(DR:Df P w K mg base (L+6) "_law_parts" ["body"] Vy)(DO:Df P w K mg base (L+6) "_law_own_kind" ops Ru):Yo P w K mg base CX0 (L+6+1) f fd kps (Xb (n+1)):=by
 refine F.oq JX fun cdv A F5 s H vs Q E hr h=>?_;obtain⟨sA,aA,a,v,ks,hd,c,d,X,b,rfl,sf,hg,nd,kk,hk,nk,ha,kl,hv,ok,dn,S2,sz,q⟩:=h;have hu:=V1 hr;have I2:V7 (2+1) _:=hr.mono (show 3<=L+6 by exact A8);have DG:Df P w K mg base (L+6) "_law_kinded" kps (Xb n):=⟨f,fd,mG,F.kp,bG,G⟩;refine⟨_,YW (Yp 4 JX.nd (Y4 Uw rfl B.dict JF (pa1 (pv 2))))
  (YW (Yx (Yi VB (Yd Yg (pv 3) YX) Yn (Yq _))
   (YW (Yx (PW.pt (UK (Ju (XC hu (Yd Yg (pv 3) YX) (pv 2))) (Js (Ju (Uc hu (Yd Yg (pv 3) YX) (pv 0)))))) (YZ (Yf (Yw (pa2 VZ (VD (pa1 (Yw VT))))))) Yl)
   (YZ (VW hu (pv 4) (Yd Yg (pv 3) YX) (Yd Yg (pv 3) YX) rfl))) Yl)
  (YW (Yp 5 JX.nd (VD VT))
  (YW (Yp 6 JX.nd (VD VT))
  (YW (Vu Zt rfl (WD rfl me (pa1 (Yt DR hr (pa1 (pv 3))))) (Vn (n:=2) rfl (Ys (Yk 7 JX.nd (hx:=Or.inr rfl)) (Ys (Yk 8 JX.nd) VO)))
   (YW (Je (Yt DG hr (pa4 (pv 0) (pv 1) (pv 4) (pv 8))) (Vn (n:=2) rfl (Ys (Yk 9 JX.nd) (Ys (Yk 10 JX.nd) VO))))
   (YW (JB (UR Zx Zy Zz JK (pv 5) (pa1 (pv 9))))
   (YZ (Yp 6 JX.nd (Y2 Ur (pv 6) (V6 ["place"] [7] (V5 (pv 10)) (Vl (i:=0) (by decide)) (fun cl C fp s H=>Yk 0 QP rfl (Or.inl rfl) (Or.inr rfl)) (fun cl C fp s H=>Y2 (r:=Wv K) Xh (Yw (pa1 (pv 1))) (pv 0)))))))))
  (YW (Yx (Yi (MV I2) (pv 6) (VD VT) (Yq _)) (YZ (Yf (Yw (pa2 VZ (pv 6))))) Yl)
  (YW (Yp 9 JX.nd (Yt DO hr (pa5 (pv 0) (pv 1) (pv 2) (pv 3) (pv 5))))
  (YW (Yx (Yi Xx (pv 9) VZ (Yq _)) (YZ (Yf (Yw (pa2 VZ (VD (pa1 (Yw VT))))))) Yl)
  (YZ (Yf (Yw (pa2 (pv 9) (VD VT)))))))))))),?_⟩
 dsimp only[JV,Cx.nox,Cx.wish];show let a:=_;let b:=_;let c:=Yj (Y9 _ b _) a;let d:=Yj _ c;let e:=_;let f:=Yj (Y9 _ e _) d;let g:=_;let h:=Yj _ g;let i:=Yj _ h;let j:=Yj (UE _ _ i) f;let k:=Yj _ j;let l:=Yj _ k;let m:=_;let n:=_;let o:=Yj (Y9 _ n _) m;let p:=Yj (Y9 _ o _) l;Yj _ p _ _ _
 intros
 obtain⟨bt,ys,rfl,hb⟩:=J7 hv;have I8:=Bd.few ok;have F4:1<=b.size:=by rw[Bd.size_eq];exact RP
 obtain⟨F8,rS,kS⟩:=sf.key
 have R1:kdn ks hd (n+1) X b=none->∀t,Same H t->∀D,t D=none->∀O,(upd t D (.tup [])) O=none->∀T,(upd (upd t D (.tup [])) O (.lst [.ref D])) T=none->Q (.ref T) (upd (upd (upd t D (.tup [])) O (.lst [.ref D])) T (.tup [.non,.ref O])):=fun e t s1 D h0 O h1 T h2=>by
  have sa:=Yb h0 (.tup []);have sb:=Yb h1 (.lst [.ref D]);have sc:=Yb h2 (.tup [.non,.ref O]);refine q T O [[]] _ (((s1.trans sa).trans sb).trans sc) ((s1.trans sa).free h1) (by rw[Ud e];exact YY) (JD (sc _ _ YY) (Z3 (X5 (ws:=[]) (sc _ _ (sb _ _ YY))))) ⟨(fun z=>by cases z),fun z=>Zp e z⟩ F4 (fun w hw=>by cases ZO.mp hw;exact Za _)
 refine⟨a,X,rfl,ha,fun il T2=>?_⟩;refine up_in T2 _ fun H0 s0 g0=>?_;dsimp only[JG];refine VQ (fun U' t=>Same H t/\ ¬XH ks X b/\t il=some (.dK (wth X b))/\U'=[some (.ref sA),some (.ref aA),some (.ref a),some (.ref bt),some (.ref il),none,none,none,none,none,none]) ?_ ?_
 .rintro U' t ⟨s1,nb,hw,rfl⟩
  have R6:=nk.wth nb;refine⟨sl 0,fun M D0=>?_⟩;refine up_in D0 _ fun H2 s2 g2=>?_;refine⟨sl 0,fun S N4=>?_⟩;refine up_in N4 _ fun H3 s3 g3=>?_;have F6:S≠M:=(Yc g2 N4).symm;refine⟨.ref bt,b,rfl,((hv.mono s1).mono s2).mono s3,ok,fun pa H4 s4 I7 I1=>?_⟩;obtain⟨_,xs,er,T0,R7⟩:=Jd I1;cases er;have F7:pa≠M:=(Yc (s3 _ _ g2) I7).symm;have lx:=R7.length;rw[Z7,ZA]at lx;refine⟨pa,false,xs,rfl,Z1 T0,?_⟩
  let Y:=kdn ks hd n (wth X b)
  let I:Nat->St->Hp->Prop:=fun i U Hi=>Same t Hi/\Hi pa=some (.lst xs)/\HasL Hi xs (Bd.dats b.parts)/\Hi M=some (.lst (((b.parts.take i).map Y).map JJ))/\∃S us ws,S≠M/\H S=none/\Hi S=some (.lst us)/\HasL Hi us (ws.map UB)/\(ws=[]↔none∉(b.parts.take i).map Y)/\ws.length<=Bd.sizes (b.parts.take i)/\(∀w∈ws,w.length<=b.dep)/\∃z7 z8 z9 N1,U=[some (.ref sA),some (.ref aA),some (.ref a),some (.ref bt),some (.ref il),some (.ref M),some (.ref S),z7,z8,z9,N1]
  refine Gp (tp:=false) (xs:=xs) I ⟨(s2.trans s3).trans s4,T0,R7,s4 _ _ (s3 _ _ g2),S,[],[],F6,(s1.trans s2).free N4,s4 _ _ g3,Z4,⟨fun _ z=>by simp at z,fun _=>rfl⟩,Za _,(fun w hw=>nomatch hw),_,_,_,_,rfl⟩ (fun i U Hi _ z=>Z1 z.2.1) ?_ ?_
  .rintro BB RR i x U Hi r hx ⟨si,hai,hxi,hfi,S,us,ws,nw,fw,hwi,hus,iw,lw,dw,z7,z8,z9,N1,rfl⟩ hr'
   refine up_in hr' _ fun HR sR gR=>?_;obtain⟨dd,D3,I5⟩:=hxi.get hx;rw[Z7,ZG]at D3;obtain⟨c',hc,rfl⟩:=Zh.mp D3;have N8:=ZH hc;have dc:=Bd.dep_mem N8;have il':=(ZE.mp hc).1;have F2:=DQ X b;have R3:=Bd.size_eq b;have szc:=Bd.sizes_mem N8;have R4:=(s1.trans si).trans sR
   have I9:Bd.sizes (b.parts.take (i+1))=Bd.sizes (b.parts.take i)+c'.size:=by
    rw[take_snoc hc];rw[Bd.sizes_app];simp[Bd.sizes]
   have sle:=Bd.sizes_take b.parts (i+1);refine⟨_,Z0 gR,rfl,?_⟩;refine⟨sA,aA,il,x,ks,hd,c,d,wth X b,c',rfl,sf.mono R4,hg.mono R4,nd,kk,hk,R6,.inl ((si.trans sR) _ _ hw),by exact Pu kl dc F2,I5.mono sR,Bd.ok_parts ok c' N8,by exact Ti dc dn,by exact Iu dc S2,by omega,fun r2 w2 F1 H5 s5 f2 h5 F9 i2 l2 d2=>?_⟩;refine⟨_,Z0 h5,rfl,?_⟩;have N7:=s5 _ _ (sR _ _ hfi);refine⟨.inl ⟨rfl,_,Z1 N7⟩,M,_,_,rfl,rfl,N7,Ye (by rw[ZA,ZA,ZL];exact A7 I8),?_⟩;have tk:TK H5 (upd H5 M (.lst (((b.parts.take i).map Y).map JJ++[JJ (Y c')]))):=fun b us h=>by rw[Ya (fun e=>by rw[e,N7]at h;cases h)];exact h
   have g6:upd H5 M (.lst (((b.parts.take i).map Y).map JJ++[JJ (Y c')])) M=some (.lst (((b.parts.take i).map Y).map JJ++[JJ (Y c')])):=YY;have n6:∀q o,q≠M->H5 q=some o->upd H5 M (.lst (((b.parts.take i).map Y).map JJ++[JJ (Y c')])) q=some o:=fun q o z e=>by rw[Ya z];exact e
   have N2:Same t (upd H5 M (.lst (((b.parts.take i).map Y).map JJ++[JJ (Y c')]))):=((si.trans sR).trans s5).putN D0;obtain⟨_,os,er,ho,I3⟩:=Jd F9;cases er;have R5:w2≠M:=(Yc (sR _ _ hfi) f2).symm;have N6:=n6 _ _ R5 ho;have N0:=Rl tk I3;have F3:Same H5 (upd H5 M (.lst (((b.parts.take i).map Y).map JJ++[JJ (Y c')])))->True:=fun _=>trivial;have L2:=n6 _ _ F7 (s5 _ _ (sR _ _ hai));have R8:=VG tk _ (Bd.sts _) ((hxi.mono sR).mono s5);have G2:=n6 _ _ nw (s5 _ _ (sR _ _ hwi));have G3:=Rl tk ((hus.mono sR).mono s5);clear n6 tk F3;generalize upd H5 M (.lst (((b.parts.take i).map Y).map JJ++[JJ (Y c')]))=H6 at g6 N2 N6 N0 L2 R8 G2 G3 |-;refine⟨⟨_,Z1 N6⟩,?_⟩;refine Rc (K:=K) i N6 N0 (fun w hw=>ZZ (d2 w hw) (by omega)) (by omega) ?_ ?_
   .intro pw w0 Hx R hpw lw hR
    exact⟨sl 1,EO hpw lw hR⟩
   .intro vs H7 p s7 hp lv hvs
    refine up_in hp _ fun H8 s8 g8=>?_;have J2:=s7.trans s8;have lu:=hus.length;rw[ZA]at lu;refine⟨S,p,us,vs,rfl,rfl,J2 _ _ G2,g8,Zf (Ye (by omega)),fun p9 N5=>?_⟩;refine up_in N5 _ fun H9 s9 g9=>?_;have u:=J2.trans s9;have e1:(b.parts.take (i+1)).map Y=(b.parts.take i).map Y++[Y c']:=by rw[take_snoc hc,ZI];rfl
    refine⟨N2.trans u,u _ _ L2,R8.mono u,?_,p9,us++ vs,ws++ F1.map (fun w=>((i:Nat):Int)::w),(Yc (J2 _ _ g6) N5).symm,(s1.trans (N2.trans J2)).free N5,g9,?_,?_,?_,?_,_,_,_,_,rfl⟩
    .rw [e1,ZI];exact u _ _ g6
    .rw [ZI];exact Z5 (G3.mono u) ((hvs.mono s8).mono s9)
    .rw [e1,List.append_eq_nil_iff,List.map_eq_nil_iff,iw,i2,ZV,ZO]
     constructor
     .rintro ⟨z1,z2⟩ (z3|z3)
      .exact z1 z3
      .exact z2 z3.symm
     .intro z
      exact⟨fun z3=>z (.inl z3),fun z3=>z (.inr z3.symm)⟩
    .rw [ZJ,ZA,I9];exact Ps lw l2
    .intro w hw
     rcases ZV.mp hw with m|m
     .exact dw w m
     .obtain ⟨w1,m1,rfl⟩:=ZU.mp m
      have:=d2 w1 m1;rw[Zd];exact A6 dc this
  .rintro U Hi ⟨si,hai,hxi,hfi,S,us,ws,nw,fw,hwi,hus,iw,lw,dw,z7,z8,z9,N1,rfl⟩
   rw[Ze (by exact oq9 lx)]at hfi iw lw;have R3:=Bd.size_eq b;have sH:=s1.trans si;refine⟨sl 0,fun e0 I4=>?_⟩;refine up_in I4 _ fun Hj sj gj=>?_;refine⟨_,_,JD (sj _ _ hwi) (hus.mono sj),JD gj Z4,FZ _,_,rfl,?_⟩;rw[Te]
   by_cases ew:ws=[]
   case neg=>
    have en:kdn ks hd (n+1) X b=none:=To (Classical.not_not.mp fun z=>ew (iw.mpr z));refine VJ (by cases ws with|nil=>exact Zp rfl ew|cons _ _=>rfl) ⟨sl 2,fun T Z=>?_⟩;have sr:=Yb Z (.tup [.non,.ref S]);exact q T S ws _ ((sH.trans sj).trans sr) fw (by rw[Ud en];exact YY) ((JD (sj _ _ hwi) (hus.mono sj)).mono sr) ⟨fun z=>Zp z ew,fun z=>Zp en z⟩ (by exact Pr R3 lw) dw
   subst ew;refine Y1 (by simp) ?_;have nn:=iw.mp rfl;obtain⟨zs,ez⟩:=Mm nn
   have hf:Hj M=some (.lst (zs.map V.str)):=by
    have:=sj _ _ hfi;rw[ez,List.map_map]at this;exact this
   have lz:zs.length=b.parts.length:=by
    have:=congrArg List.length ez;rw[ZA,ZA]at this;exact this.symm
   have mz:∀z∈zs,z∈ks.map (·.1):=fun z hz=>by
    have m:some z∈b.parts.map Y:=by rw[ez];exact ZU.mpr ⟨z,hz,rfl⟩
    obtain⟨p,_,e⟩:=ZU.mp m;exact MX kk hk n _ p z R6 e
   have eo:=Gg nb ez;have Z8:=sH.trans sj;refine⟨sA,aA,a,M,.ref bt,ks,hd,c,d,X,b,zs,rfl,sf.mono Z8,hg.mono Z8,nd,kk,nk,ha.same Z8,hv.mono Z8,ok,hf,lz,mz,fun H5 s5=>?_⟩;rw[<-eo];have N3:=Z8.trans s5
   cases ek:kdn ks hd (n+1) X b with
   |none=>exact⟨rfl,_,rfl,VJ (by simp[JJ]) ⟨sl 0,fun D Z9=>⟨sl 1,fun O J=>⟨sl 2,fun T Z=>R1 ek H5 N3 D Z9 O J T Z⟩⟩⟩⟩
   |some y=>
    refine⟨rfl,_,rfl,Y1 (by simp[JJ]) ⟨sl 0,fun O J=>?_⟩⟩;refine up_in J _ fun H6 s6 g6=>?_;refine⟨sl 2,fun T Z=>?_⟩;have sr:=Yb Z (.tup [JJ (some y),.ref O]);exact q T O [] _ ((N3.trans s6).trans sr) (N3.free J) (by rw[ek];exact YY) (JD (sr _ _ g6) Z4) ⟨fun _ z=>(by rw[ek]at z;cases z),fun _=>rfl⟩ (Za _) (fun w hw=>nomatch hw)
 .intro N key
  have a0:atI (V.str b.word::ys) 0=some (.str b.word):=Y3 (j:=0) rfl;refine⟨_,_,Z0 (s0 _ _ hb),a0,rfl,_,rfl,?_⟩
  cases b with
  |letb x k e g=>
   obtain⟨bt',u1,u2,e1,I6⟩:=Gk hv;cases e1;have G1:=s0 _ _ I6;refine VJ (decide_eq_true rfl) ?_;refine⟨_,_,Z0 G1,rfl,_,.inl ⟨X,Sum.inr x,ha.same s0,rfl,rfl⟩,_,rfl,?_⟩
   by_cases kn:(Y8 X (Sum.inr x)).isSome=true
   .exact VJ (by rw[kn]) ⟨sl 0,fun D Z9=>⟨sl 1,fun O J=>⟨sl 2,fun T Z=>R1 (WI (.inl kn)) H0 s0 D Z9 O J T Z⟩⟩⟩
   refine Y1 (by simpa using kn) ?_;refine⟨_,_,Z0 G1,rfl,_,.inl ⟨F8,Sum.inr k,rS.same s0,rfl,rfl⟩,_,rfl,?_⟩
   by_cases km:k∈ks.map (·.1)
   case neg=>exact VJ (by rw[Bool.not_eq_true',Bool.eq_false_iff];exact fun z=>km ((kS k).mp z)) ⟨sl 0,fun D Z9=>⟨sl 1,fun O J=>⟨sl 2,fun T Z=>R1 (WI (.inr km)) H0 s0 D Z9 O J T Z⟩⟩⟩
   refine Y1 (by rw[(kS k).mpr km];simp) ?_;refine⟨_,_,Z0 G1,rfl,_,_,Z0 G1,rfl,_,Ja.k (k:=Sum.inr x) g0 (Ye (by exact Pq kl)),?_⟩;exact key _ _ ⟨s0.putN T2,fun z=>z.elim (fun z=>kn z) (fun z=>z km),YY,rfl⟩
  |_=>exact Y1 (fun z=>by have z1:=Zr z;injection z1 with z2;exact Zp z2 (by dsimp only[Bd.word];decide +kernel)) (key _ _ ⟨s0,fun z=>z,g0,rfl⟩)
end
end K4
namespace L2
open PySem PySem.Spec PyProof.Rows
theorem ET(Y:Nat->Int):∀j,argBest (fun i k=>decide (Y i > Y k)) j<=j/\∀i,i<=j->Y i<=Y (argBest (fun i k=>decide (Y i > Y k)) j)
 |0=>⟨ZF _,fun i h=>by cases Nat.le_zero.mp h;exact Int.le_refl _⟩
 |j+1=>by
  obtain⟨G,J⟩:=ET Y j;unfold argBest
  by_cases c:Y (j+1) > Y (argBest (fun i k=>decide (Y i > Y k)) j)
  .rw [Zn (decide_eq_true c)]
   refine⟨ZF _,fun i Z=>?_⟩
   by_cases e:i=j+1
   .rw [e];exact Int.le_refl _
   .have:=J i (by exact Pp Z e);omega
  .rw [Zo (by simpa using c)]
   refine⟨by exact Ek G,fun i Z=>?_⟩
   by_cases e:i=j+1
   .rw [e];omega
   .exact J i (by exact Pp Z e)
theorem FO(E:X.calm=true):Jb X (.builtin "max") (fun xs H Q=>∃(p:Addr)(ns:List Int),xs=[.ref p]/\SqL X.K H p (ns.map V.int)/\0<ns.length/\∀m,(∀n∈ns,n<=m)->Q (.int m) H):=by
 intro L s U H xs F Q I r h;obtain⟨p,ns,rfl,T,O,q⟩:=h;obtain⟨u,rfl,N⟩:=vals1 r;cases N;obtain⟨Y,J,G,C⟩:=I.list T;have M:p<s.heap.objs.size:=let⟨o,_,e,_⟩:=G;ZN e
 have Z:Y.length=ns.length:=by
  have:=J.length;rw[ZA]at this;exact this.symm
 refine call_max_walk (wpAny_pyIter_list G.isList ?_);refine⟨s.heap.objs.size,_,_,Y.toArray.size,_,_,_,rfl,Walks.list (A:=X.A.in1) (I.ok.hd E) _ p (Zc M) Y.toArray,⟨⟨_,ZW _ rfl,rfl,rfl⟩,G.isList.push _⟩,?_,by rw[ZM,Z];exact O,CmpOf.ints_gt (fun i=>ns.getD i 0) (fun i v R=>MY J (by simpa using R)),?_⟩
 .intro b hb
  have e:b=s.heap.objs.size\/b=p:=by simpa using hb
  show b<(s.heap.push _).objs.size;rw[Heap.size_push];rcases e with e|e
  .rw [e];exact Nat.lt_succ_self _
  .rw [e];exact Nat.lt_succ_of_lt M
 .intro v h' tk hP hk
  obtain⟨t,rfl⟩:=MY J (show Y[_]?=some v by simpa using hP);refine⟨.int _,H,I.kept fun b o e=>hk b o (fun D=>?_) (ZD _ e),⟨t,rfl⟩,q _ fun n B=>?_⟩
  .have e':b=s.heap.objs.size:=by simpa using D
   rw[e']at e;exact Nat.lt_irrefl _ (ZN e)
  .obtain ⟨i,hi⟩:=List.mem_iff_getElem?.mp B
   have S:=(ZE.mp hi).1;have:=(ET (fun i=>ns.getD i 0) (Y.toArray.size-1)).2 i (by rw[ZM];omega);have e:ns.getD i 0=n:=by rw[List.getD_eq_getElem?_getD,hi];rfl
   rw[e]at this;exact this
theorem Oi{ns:List Int}(h:∀n∈ns,0<=n)(s:ns.sum<2 ^ 62):PyProof.Rows.SumFits ns:=by
 have Y:∀l:List Int,(∀n∈l,0<=n)->0<=l.sum:=fun l=>by
  induction l with
  |nil=>intro _;simp
  |cons x l ih=>intro z;rw[List.sum_cons];have:=z x (by simp);have:=ih fun n Z=>z n (ZK _ Z);omega
 intro j J;have L:ns=ns.take (j+1)++ ns.drop (j+1):=(List.take_append_drop _ _).symm;have B:=Y (ns.take (j+1)) fun n Z=>h n (Zi Z);have T:=Y (ns.drop (j+1)) fun n Z=>h n (List.mem_of_mem_drop Z)
 have N:ns.sum=(ns.take (j+1)).sum+(ns.drop (j+1)).sum:=by
  conv=>lhs;rw[L]
  exact List.sum_append
 have M:(ns.take (j+1)).sum=(ns.take j).sum+ns[j]:=by rw[take_snoc (ZC J),List.sum_append];simp
 have R:=Y (ns.take j) fun n Z=>h n (Zi Z);have O:=h ns[j] (List.getElem_mem J);have G:ns.getD j 0=ns[j]:=by rw[List.getD_eq_getElem?_getD,ZC J];rfl
 rw[G];unfold InLong
 constructor <;> constructor <;> omega
theorem Bd.dep_le{b:Bd}{m:Nat}(h:∀c∈b.parts,c.dep+1<=m)(L:1<=m):b.dep<=m:=by
 have Z:∀{bs:List Bd},(∀c∈bs,c.dep+1<=m)->Bd.deps bs+1<=m:=fun{bs}=>by
  induction bs with
  |nil=>intro _;unfold Bd.deps;omega
  |cons x bs ih=>intro z;unfold Bd.deps;have:=z x (by simp);have:=ih fun c Y=>z c (ZK _ Y);omega
 cases b with
 |choose e G bs=>
  have:=h e (by simp[Bd.parts]);have:=Z (bs:=bs) fun c Y=>h c (by simp[Bd.parts,Y]);unfold Bd.dep;omega
 |ask f J=>
  have:=Z (bs:=J) h;unfold Bd.dep;omega
 |_=>
  simp[Bd.parts]at h;unfold Bd.dep;omega
end L2
namespace K4
open PySem L2
section
theorem Qq:Yr ["body"] ["body"] (Yh Dq):=Y7
theorem Qk:Yr ["body"] ["body"] (Yh Dp):=Y7
theorem Qp:Yr ["body"] ["body"] (Yh IM):=Y7
def WW(n:Nat):Sp:=fun vs H Q _=>∃(v:V)(b:Bd),vs=[v]/\Has H v b.dat/\b.ok/\b.dep<n/\∀(r:Nat) H',Same H H'->b.dep<=r->1<=r->Q (.int r) H'
theorem Oc(B:Blt mg)(F:Fun K "_law_deep" "_law_deep" Dq f fd)(G:Yo P w K mg base CX0 m f fd ["body"] (WW n))(bG:Binds K fd ["body"] [])(mG:mg "_law_deep"=some (.ref f))(DL:Df P w K mg base m "_law_parts" ["body"] Vy):
  Yo P w K mg base CX0 (m+1) f fd ["body"] (WW (n+1)):=by
 refine F.oq Qq fun J2 A U s H Y Q E hr h=>?_;obtain⟨v,b,rfl,hv,X,dn,q⟩:=h;have DG:Df P w K mg base m "_law_deep" ["body"] (WW n):=⟨f,fd,mG,F.kp,bG,G⟩;refine⟨_,YZ (Yf (Y2 Vo YX (Y0 (FO rfl) rfl B.max Uk (pa1 (Y2 Ur (VD (pa1 YX)) (V6 ["part"] [] (V5 (Yt DL hr (pa1 (pv 0)))) (Vl (i:=0) (by decide)) (fun cl C fp s H=>Yk 0 Gc rfl (Or.inl rfl) (Or.inr rfl))
   (fun cl C fp s H=>Yt DG hr (pa1 (pv 0))))))))),?_⟩
 refine⟨sl 1,fun l0 a=>?_⟩;refine up_in a _ fun H0 s0 g0=>?_;refine⟨v,b,rfl,hv.mono s0,X,fun r H1 s1 fr h1=>?_⟩;obtain⟨_,M,er,D,hl⟩:=Jd h1;cases er;have t:=hl.length;rw[Z7,ZA]at t;have Z9:=Bd.few X;refine⟨⟨_,Z1 D⟩,?_⟩;refine VR M.length (Ye (by exact D4 t Z9)) (fun j Y L=>Same H1 L/\Y.length=j/\∃Z:List Nat,Y=(Z.map fun r=>((r:Nat):Int)).map V.int/\∀i c,i<j->b.parts[i]?=some c->∃r∈Z,c.dep<=r/\1<=r) ⟨Z6 _,rfl,[],rfl,fun i c h=>Zp h (Zu _)⟩ (fun j Y L z=>z.2.1) ?_ ?_ ?_ ?_
 .intro j Y L hj z
  exact⟨M,M[j],Z1 (z.1 _ _ D),by simp[hj]⟩
 .intro Y L z
  exact⟨M,Z1 (z.1 _ _ D),ZF _⟩
 .intro j Y L x H3 R hj z yl hR
  obtain⟨rfl,y⟩:=yl;obtain⟨d,hd,p⟩:=hl.get (y M (Z1 (z.1 _ _ D)));rw[Z7,ZG]at hd;obtain⟨c,hp,rfl⟩:=Zh.mp hd;have hm:=ZH hp;have Z8:=Bd.dep_mem hm;obtain⟨T,g,Z,rfl,good⟩:=z;refine⟨x,c,rfl,p.mono T,Bd.ok_parts X c hm,by exact Ti Z8 dn,fun r H4 S d1 r1=>hR _ _ ⟨T.trans S,by rw[ZJ,g];rfl,Z++[r],by rw[ZI,ZI];rfl,fun i c' I J=>?_⟩⟩
  by_cases e:i=j
  .rw [e,hp]at J;cases J;exact⟨r,by simp,d1,r1⟩
  .obtain ⟨r',m',h'⟩:=good i c' (by exact A5 I e) J
   exact⟨r',List.mem_append_left _ m',h'⟩
 .intro Y L l z hl3
  obtain⟨T,g,Z,rfl,good⟩:=z;refine up_in hl3 _ fun H4 S g4=>?_;have N:=(s1.trans T).trans S;rw[ZA,ZA]at g;refine⟨l0,l,_,_,rfl,rfl,N _ _ g0,g4,Zf (Ye (by rw[ZA,ZA];show 1+Z.length<=1000;omega)),fun l5 o=>?_⟩;refine up_in o _ fun H5 s5 g5=>?_;refine⟨l5,0::Z.map (fun r=>((r:Nat):Int)),rfl,Z1 g5,Nat.succ_pos _,fun mx O=>?_⟩;have m0:=O 0 (by simp);obtain⟨k,rfl⟩:∃k:Nat,mx=k:=⟨mx.toNat,by exact U1 m0⟩;have e:(1:Int)+(k:Int)=((k+1:Nat):Int):=by omega
  have q1:=q (k+1) H5 ((s0.trans N).trans s5) (Bd.dep_le (fun c hc=>by
   obtain⟨i,I⟩:=List.mem_iff_getElem?.mp hc;obtain⟨r,u,d1,_⟩:=good i c (by have:=(ZE.mp I).1;exact W3 this t) I;have:=O r (ZK _ (ZU.mpr ⟨r,u,rfl⟩));omega) (by exact Q6)) (by exact Q6)
  rw[<-e]at q1;exact q1
theorem EJ(B:Blt mg)(F:Fun K "_law_deep" "_law_deep" Dq f fd)(Z:Binds K fd ["body"] [])(Y:mg "_law_deep"=some (.ref f))(J:Df P w K mg base 1 "_law_parts" ["body"] Vy):∀n,Yo P w K mg base CX0 (1+n) f fd ["body"] (WW n)
 |0=>.none fun L H Q E h=>by
  obtain⟨_,_,_,_,_,G,_⟩:=h;exact Zu _ G
 |n+1=>Oc (m:=1+n) B F (EJ B F Z Y J n) Z Y (J.up (by exact RP))
def WU(n:Nat):Sp:=fun vs H Q _=>∃(v:V)(b:Bd),vs=[v]/\Has H v b.dat/\b.ok/\b.dep<n/\b.dep<=18/\∀(r:Nat) H',Same H H'->r<=b.size->Q (.int r) H'
theorem OV(B:Blt mg)(ms:mg "sum"=none)(F:Fun K "_law_lets" "_law_lets" Dp f fd)(G:Yo P w K mg base CX0 m f fd ["body"] (WU n))(bG:Binds K fd ["body"] [])(mG:mg "_law_lets"=some (.ref f))(DL:Df P w K mg base m "_law_parts" ["body"] Vy):
  Yo P w K mg base CX0 (m+1) f fd ["body"] (WU (n+1)):=by
 refine F.oq Qk fun Z8 A U s H Z Q E e h=>?_;obtain⟨v,b,rfl,u,I,dn,O,q⟩:=h;have DG:Df P w K mg base m "_law_lets" ["body"] (WU n):=⟨f,fd,mG,F.kp,bG,G⟩;refine⟨_,YZ (Yf (Y2 Vo (Y4 Wo rfl B.int Ul (pa1 (Vs VB (Yd Yg (pv 0) YX) Yn rfl))) (Y0 (Re rfl) rfl ms Rf (pa1 (V6 ["part"] [] (V5 (Yt DL e (pa1 (pv 0)))) (Vl (i:=0) (by decide)) (fun cl C fp s H=>Yk 0 Gc rfl (Or.inl rfl) (Or.inr rfl))
   (fun cl C fp s H=>Yt DG e (pa1 (pv 0)))))))),?_⟩
 obtain⟨bt,ys,rfl,hb⟩:=J7 u;refine⟨_,_,Z0 hb,Y3 (j:=0) rfl,rfl,.inr ⟨_,rfl,?_⟩⟩;refine⟨.ref bt,b,rfl,u,I,fun r H1 s1 fr h1=>?_⟩;obtain⟨_,L,er,S,hl⟩:=Jd h1;cases er;have X:=hl.length;rw[Z7,ZA]at X;have k:=Bd.few I;refine⟨⟨_,Z1 S⟩,?_⟩;refine VR L.length (Ye (by exact D4 X k)) (fun j Z J=>Same H1 J/\Z.length=j/\∃Y:List Nat,Z=(Y.map fun r=>((r:Nat):Int)).map V.int/\Y.sum<=Bd.sizes (b.parts.take j)) ⟨Z6 _,rfl,[],rfl,Za _⟩ (fun j Z J z=>z.2.1) ?_ ?_ ?_ ?_
 .intro j Z J hj z
  exact⟨L,L[j],Z1 (z.1 _ _ S),by simp[hj]⟩
 .intro Z J z
  exact⟨L,Z1 (z.1 _ _ S),ZF _⟩
 .intro j Z J x H3 R hj z yl hR
  obtain⟨rfl,y⟩:=yl;obtain⟨d,hd,g⟩:=hl.get (y L (Z1 (z.1 _ _ S)));rw[Z7,ZG]at hd;obtain⟨c,o,rfl⟩:=Zh.mp hd;have a:=ZH o;have N:=Bd.dep_mem a;obtain⟨T,t,Y,rfl,good⟩:=z;refine⟨x,c,rfl,g.mono T,Bd.ok_parts I c a,by exact Ti N dn,by exact Iu N O,fun r H4 D r1=>hR _ _ ⟨T.trans D,by rw[ZJ,t];rfl,Y++[r],by rw[ZI,ZI];rfl,?_⟩⟩;rw[take_snoc o,Bd.sizes_app,List.sum_append];simp[Bd.sizes];exact Ps good r1
 .intro Z J l z hl3
  obtain⟨T,t,Y,rfl,good⟩:=z;rw[Ze (by exact oq9 X)]at good;refine up_in hl3 _ fun H4 D g4=>?_
  have Z9:Bd.sizes b.parts<2 ^ 62:=by
   have h2:=Bd.size_le 18 b O I;rw[Bd.size_eq]at h2;have:(9:Nat) ^ 18<2 ^ 62:=by decide
   exact Po h2
  have es:(Y.map fun r=>((r:Nat):Int)).sum=((Y.sum:Nat):Int):=by
   clear good t g4 D hl3
   induction Y with
   |nil=>rfl
   |cons x Y ih=>rw[ZT,List.sum_cons,List.sum_cons,ih];omega
  refine⟨l,_,rfl,Z1 g4,Oi (ns:=Y.map fun r=>((r:Nat):Int)) (fun n hn=>by obtain⟨r,_,rfl⟩:=ZU.mp hn;exact Int.natCast_nonneg r) (by rw[es];omega),?_⟩;rw[es];have M:=Bd.size_eq b;have p:=(s1.trans T).trans D;dsimp only[rI0,rI,J9]
  split
  .rw [show(1:Int)+((Y.sum:Nat):Int)=((1+Y.sum:Nat):Int) by exact KB]
   exact q _ _ p (by exact A4 M good)
  .rw [show(0:Int)+((Y.sum:Nat):Int)=((Y.sum:Nat):Int) by exact P5]
   exact q _ _ p (by exact Pr M good)
theorem EA(B:Blt mg)(Y:mg "sum"=none)(F:Fun K "_law_lets" "_law_lets" Dp f fd)(J:Binds K fd ["body"] [])(Z:mg "_law_lets"=some (.ref f))(G:Df P w K mg base 1 "_law_parts" ["body"] Vy):∀n,Yo P w K mg base CX0 (1+n) f fd ["body"] (WU n)
 |0=>.none fun M H Q E h=>by
  obtain⟨_,_,_,_,_,L,_⟩:=h;exact Zu _ L
 |n+1=>OV (m:=1+n) B Y F (EA B Y F J Z G n) J Z (G.up (by exact RP))
def Rz:Sp:=fun vs H Q _=>∃(v:V)(b:Bd),vs=[v]/\Has H v b.dat/\b.ok/\b.dep<=16/\∀(k:Bool) H',Same H H'->(k=true->b.size<=40/\b.dep<=12)->Q (.bl k) H'
theorem Ob(F:Fun K "_law_body_fits" "_law_body_fits" IM f fd)(X:Df P w K mg base n "_law_size" ["body"] (U9 17))(y:Df P w K mg base n "_law_deep" ["body"] (WW 17))(j:Df P w K mg base n "_law_lets" ["body"] (WU 17)):
  Yo P w K mg base CX0 (n+1) f fd ["body"] Rz:=by
 refine F.oq Qp fun R A G s H t Q E N h=>?_;obtain⟨v,b,rfl,M,L,Y,q⟩:=h;refine⟨_,YZ (Yf (UV (Vs XD (Yt X N (pa1 (pv 0))) YX rfl) (UV (Vs XD (Yt y N (pa1 (pv 0))) YX rfl) (Up (Vs XD (Yt j N (pa1 (pv 0))) YX rfl))))),?_⟩;refine⟨v,b,rfl,M,L,by exact Ir Y,by exact Pn Y,fun C Z=>⟨_,rfl,Vq (fun I=>?_) (fun _=>q false C Z (fun z=>by cases z))⟩⟩;have D:((b.size:Nat):Int)<=40:=Zr I;refine⟨v,b,rfl,M.mono Z,L,by exact Ir Y,fun r U J g _=>⟨_,rfl,Vq (fun B=>?_) (fun _=>q false U (Z.trans J) (fun z=>by cases z))⟩⟩;have T:((r:Nat):Int)<=12:=Zr B;exact⟨v,b,rfl,(M.mono Z).mono J,L,by exact Ir Y,by exact Pn Y,fun m S O _=>q _ S ((Z.trans J).trans O) (fun _=>⟨by omega,by omega⟩)⟩
end
end K4
namespace L2
open PySem PySem.Spec PyProof.Rows
section
variable{prog:Program}{w:World}{A:Around}{E:Value->Shared->Prop}{s:Shared}
theorem RE{t sl:Addr}{items:Array Value}{N M:Value}{lo hi:Option Int}{Q:Value->Shared->Prop}(Y:IsTup s.heap t items)(R:s.heap.IsSliceOf sl N M .none)(pl:IsPart N lo)(B:IsPart M hi)(O:HT.sIx items.size 0 lo=0/\HT.sIx items.size items.size hi=items.size)(h:Q (.ref t) s):wpAny (model prog w) A (getItem (.ref t) (.ref sl)) Q E s:=by
 obtain⟨D,J,G,F⟩:=id R;have L:s.TypeIs (.ref sl) "slice":=⟨D,J,G⟩;unfold getItem
 try with_reducible refine wpAny_holding ?_
 first|refine Zj (Zk ?_)|skip
 refine Zj (wpAny_sequenceKey Y.typeIs (by decide) ?_);refine Zj (wpAny_callSpecial?_slot (name:=Str.ofString "__getitem__") Y.typeIs PyProof.Rows.slot_tuple_getitem (wpAny_call_entry PyProof.Rows.slot_tuple_getitem Y.typeIs entry_tuple_getitem ?_ (args_tuple_getitem _ _)));show wpAny _ _ (Builtin.Tuple.tupleItemsOf (.ref t) >>=_) _ _ s;refine Zj (tupleItemsOf_ Y (Zj (wpAny_typeOf L ?_)));rw[Zn (by decide)];refine Zj (HT.sliceApplied_gen R pl B ?_)
 have Z:(((HT.sIx items.size 0 lo:Nat):Int)==0 && (1:Int)==1 && (HT.sIx items.size items.size hi-HT.sIx items.size 0 lo)==items.size)=true:=by
  rw[O.1,O.2];simp
 show wpAny _ _ (if(((HT.sIx items.size 0 lo:Nat):Int)==0 && (1:Int)==1 && (HT.sIx items.size items.size hi-HT.sIx items.size 0 lo)==items.size)=true then _ else _) _ _ s;rw[Zn Z];have T:s.TypeIs (.ref t) "tuple":=Y.typeIs;unfold Builtin.Tuple.tupleIsExact
 first
 |exact Zj (Zj (wpAny_typeOf T (Zk (Zj (wpAny_rule (Zk ⟨_,rfl,Zk h⟩))))))
 |exact Zj (Zj (wpAny_typeOf T (Zk (Zj (wpAny_rule (Zj (Zk ⟨_,rfl,Zk h⟩)))))))
end
section
variable{X:Cx}
def S6:V->Option Int->Option Int->Hp->VK->Prop:=fun x lo hi H Q=>∃a xs,x=.ref a/\H a=some (.tup xs)/\
 (HT.sIx xs.length 0 lo=0/\HT.sIx xs.length xs.length hi=xs.length->Q (.ref a) H)/\∀p,H p=none->Q (.ref p) (upd H p (.tup (Jp xs lo hi)))
theorem Xc:SlR X S6:=by
 intro Z s U H x v F E O D sl Q I L B N M h;obtain⟨a,Y,rfl,R,S,A⟩:=h
 by_cases hw:HT.sIx Y.length 0 O=0/\HT.sIx Y.length Y.length D=Y.length
 .cases L
  obtain⟨G,r,T,C⟩:=I.tuple (Z0 R);have J:G.toArray.size=Y.length:=by rw[ZM];exact r.length.symm
  exact⟨"tuple",_,PyProof.Rows.slot_tuple_getitem.lookup,T.typeIs,RE T B N M (by rw[J];exact hw) ⟨.ref a,H,I,rfl,S hw⟩⟩
 .exact WX Z s U H _ v F E O D sl Q I L B N M ⟨a,Y,rfl,Z0 R,hw,A⟩
theorem NP{α β:Type}{f g:α->Option β}:∀{l:List α},(∀x∈l,f x=g x)->l.filterMap f=l.filterMap g
 |[],_=>rfl
 |x::l,h=>by rw[List.filterMap_cons,List.filterMap_cons,h x (by simp),NP fun y Y=>h y (ZK _ Y)]
theorem IU(xs:Array Value):((List.range xs.size).filterMap fun(k:Nat)=>xs[(((xs.size:Nat):Int)-1+(k:Int)*(-1)).toNat]?).toArray=xs.toList.reverse.toArray:=by
 congr 1
 have e:(List.range xs.size).filterMap (fun(k:Nat)=>xs[(((xs.size:Nat):Int)-1+(k:Int)*(-1)).toNat]?)=((List.range xs.size).map fun k=>xs.size-1-k).filterMap (xs[·]?):=by
  rw[List.filterMap_map];refine NP fun k Y=>?_;show xs[_]?=xs[xs.size-1-k]?
  congr 1
  have:=List.mem_range.mp Y;omega
 rw[e,W.krv_range,List.filterMap_reverse,W.krv_all]
theorem O7{prog:Program}{w:World}{A:Around}{E:Value->Shared->Prop}{s:Shared}{t sl:Addr}{items:Array Value}{tk:Tok}{Q:Value->Shared->Prop}(G:IsTup s.heap t items)(O:s.heap.IsSliceOf sl .none .none (.int (-1) tk))(h:Q (.ref s.heap.objs.size) {s with heap:=s.heap.push {cls:=.type "tuple",data:=.seq items.toList.reverse.toArray}})(hsz:items.size<=sizeLine):wpAny (model prog w) A (getItem (.ref t) (.ref sl)) Q E s:=by
 have J:sizeOk (.seq items.toList.reverse.toArray):=by
  show items.toList.reverse.toArray.size<=sizeLine;rw[ZM,List.length_reverse,Array.length_toList];exact hsz
 obtain⟨N,Y,L,Z⟩:=id O;have M:s.TypeIs (.ref sl) "slice":=⟨N,Y,L⟩;unfold getItem
 try with_reducible refine wpAny_holding ?_
 first|refine Zj (Zk ?_)|skip
 refine Zj (wpAny_sequenceKey G.typeIs (by decide) ?_);refine Zj (wpAny_callSpecial?_slot (name:=Str.ofString "__getitem__") G.typeIs PyProof.Rows.slot_tuple_getitem (wpAny_call_entry PyProof.Rows.slot_tuple_getitem G.typeIs entry_tuple_getitem ?_ (args_tuple_getitem _ _)));show wpAny _ _ (Builtin.Tuple.tupleItemsOf (.ref t) >>=_) _ _ s;refine Zj (tupleItemsOf_ G (Zj (wpAny_typeOf M ?_)));rw[Zn (by decide)];refine Zj ?_;unfold Builtin.Slice.sliceApplied Builtin.Slice.sliceFields;refine Zj (Zj (Zm Y Z (x:=.none) rfl (Zj (Zm Y Z (x:=.none) rfl (Zj (Zm Y Z (x:=.int (-1) tk) rfl (Zk ?_)))))));refine Zj (slicePart_int ?_);show wpAny _ _ (if((-1:Int)==0)=true then _ else _) _ _ s;rw[Zo (by decide)];refine Zj (slicePart_none (Zj (slicePart_none (Zj (Zk ?_)))));have T:Builtin.Slice.sliceAdjust none none (-1) ((items.size:Nat):Int)=(((items.size:Nat):Int)-1,-1):=rfl
 have R:Builtin.Slice.slicePlaces (((items.size:Nat):Int)-1) (-1) (-1)=items.size:=by
  unfold Builtin.Slice.slicePlaces;rw[Zo (by decide),Int.neg_neg,Int.ediv_one]
  split <;> omega
 show wpAny _ _ (match Builtin.Slice.sliceAdjust none none (-1) ((items.size:Nat):Int)with|(lo,hi)=>pure (lo,(-1:Int),Builtin.Slice.slicePlaces lo hi (-1))) _ _ s;rw[T];show wpAny _ _ (pure (((items.size:Nat):Int)-1,(-1:Int),Builtin.Slice.slicePlaces (((items.size:Nat):Int)-1) (-1) (-1))) _ _ s;rw[R];refine Zk ?_;show wpAny _ _ (if((((items.size:Nat):Int)-1)==0 && (-1:Int)==1 && items.size==items.size)=true then _ else _) _ _ s;rw[Zo (by simp),IU]
 first
  |exact Zj (m:=Builtin.Tuple.tupleExact _) (wpAny_newObj_type (Zk ⟨_,rfl,Zk h⟩) J)
  |exact Zj (Zj (m:=Builtin.Tuple.tupleExact _) (wpAny_newObj_type (Zk ⟨_,rfl,Zk h⟩) J))
def PU(K:W.Frag):R2:=fun x y H Q=>∃a xs,x=.ref a/\y=.int (-1)/\SqT K H a xs/\∀p,H p=none->Q (.ref p) (upd H p (.tup xs.reverse))
def Sn(K:W.Frag)(te tk:TE):TE:=fun U H Q=>te U H fun x H1=>tk U H1 fun y H2=>PU K x y H2 Q
theorem Dw(he:PE X e te)(S:PE X k tk):PE X (.Subscript e (.Slice none none (some k) p2) pos) (Sn X.K te tk):=by
 intro Y s U H Q I h;refine Subscript_ (thn (he Y s U H _ I h) fun v R ⟨x,z,P,B,E⟩=>?_);refine wpAny_Slice ?_;rw[evalPart_none];refine Zk ?_;refine Zk ?_;rw[evalPart_some];refine thn (S Y R U z _ P E) fun m Z ⟨y,j,C,T,D⟩=>?_;obtain⟨a,O,rfl,rfl,A,q⟩:=D;cases B;obtain⟨t,rfl⟩:=T;have L:Inv X Y U j {Z with heap:=Z.heap.push {cls:=.type "slice",data:=.fields #[.none,.none,.int (-1) t]}}:=C.kept (t':=Z.toks) fun b F q=>ZD _ q;obtain⟨G,r,N,M⟩:=L.tuple A;have J:=r.length;show wpAny (model X.prog X.w) X.A (subscriptTail e (.Slice none none (some k) p2) (.ref a) (.ref Z.heap.objs.size)) (EP X Y U Q) X.xe {Z with heap:=Z.heap.push {cls:=.type "slice",data:=.fields #[.none,.none,.int (-1) t]}};refine tail_any (ops:=[.ref a,.ref Z.heap.objs.size]) N.typeIs PyProof.Rows.slot_tuple_getitem.lookup ?_ (by with_unfolding_all rfl);refine O7 N (Heap.IsSliceOf.new ..) ?_ (by rw[ZM];exact Tj J M);rw[List.toList_toArray];refine⟨.ref _,_,L.laid (t':=Z.toks) (o:=.tup O.reverse) (fun b F q=>ZD _ q) (ZF _) ?_,rfl,q _ (L.hok.fresh (ZF _))⟩;exact⟨by rw[List.length_reverse];exact M,G.reverse,Mo r,Wt.new _ _⟩
theorem OI:OpR X (binaryOp .Mult) (fun x y H Q=>∃a xs,x=.ref a/\y=.int 2/\H a=some (.lst xs)/\0<xs.length/\xs.length<=100/\∀p,H p=none->Q (.ref p) (upd H p (.lst (xs++ xs)))):=by
 intro J s U H x y v u Q I N M h;obtain⟨a,xs,rfl,rfl,B,E,Z,q⟩:=h;cases N;obtain⟨t,rfl⟩:=M;obtain⟨z,Y,n,r,e⟩:=(show Vf X.prog X.w H s.heap a (.lst xs)from I.hok a _ B);have R:=r.length
 have O:Y.toArray.isEmpty=false:=by
  cases Y with
  |nil=>rw[List.length_nil]at R;omega
  |cons _ _=>rfl
 have D:List.foldl (fun Z G=>Z++ G) #[] (List.replicate (if Y.toArray.isEmpty=true then 0 else(2:Int).toNat) Y.toArray)=(Y++ Y).toArray:=by
  rw[O];simp[List.replicate]
 refine wpAny_binaryOp_repeat_ref (T:="list") (U:="int") (by decide) ⟨_,e,rfl⟩ (fun L=>typeIs_int L 2 t) noFill_list_mul F.fills_int_mul F.slot_int_rmul repeat_list F.slot_int_index.lookup ?_;refine call_meets F.slot_int_rmul (typeIs_int s 2 t) F.entry_int_rmul (F.args_int_rmul_2 _ _) (int___rmul___int_list 2 t a Y.toArray n) ⟨e,rfl,⟨_,e,rfl⟩,?_⟩;refine call_meets F.slot_list_mul ⟨_,e,rfl⟩ F.entry_list_mul (F.args_list_mul_2 _ _) (AutoListH.list___mul___list_int_3 a Y.toArray n 2 t (by decide) (by rw[ZM,show(2:Int).toNat=2 from rfl];omega) (by rw[ZM,show(2:Int).toNat=2 from rfl];simp[Builtin.List.listTooLong,sizeLine];omega)) ⟨e,?_⟩;rw[D];refine⟨.ref _,_,I.laid (t':=s.toks) (o:=.lst (xs++ xs)) (fun b A q=>ZD _ q) (ZF _) ?_,rfl,q _ (I.hok.fresh (ZF _))⟩;exact⟨by rw[ZJ];exact Zf (Ye (by omega)),Y++ Y,0,r.append r,ZW _ rfl⟩
set_option tactic.hygienic true in
theorem OH(hu:X.A.units<cLine):OpR X (compareOp .NotEq) (fun x y H Q=>∃a b kvs,x=.ref a/\y=.ref b/\Rd H a (.dK kvs)/\Rd H b (.dK kvs)/\(∀q∈kvs,∃k:Str,q.2=V.str k)/\Q (.bl false) H):=by
 intro S s U H x y v u Q I d c h;obtain⟨a,b,kvs,rfl,rfl,ha,hb,N,q⟩:=h;cases d;cases c;obtain⟨_,na,va,F,da⟩:=U2 I.hok ha;obtain⟨_,i,Z,E,j⟩:=U2 I.hok hb;have G:(Z.map (·.1)).Nodup:=let⟨_,_,_,_,_,_,_,_,n⟩:=j;n
 have la:=Paired.length F;have lb:=Paired.length E
 have find:∀(l:List (Key×Value))(k:Key)(y:Value),(l.map (·.1)).Nodup->(k,y)∈l->valueAt l k=some y:=fun l k y=>by
  induction l with
  |nil=>intro _ m;cases m
  |cons p l ih=>
   intro G m;rw[ZT,List.nodup_cons]at G;unfold valueAt;rw[List.find?_cons];rcases Zb.mp m with e|e
   .subst e;simp
   .have ne:¬p.1=k:=fun q=>G.1 (by rw[q];exact ZU.mpr ⟨_,e,rfl⟩)
    rw[Zw ne];exact ih G.2 e
 have hits:∀{Y:List (Key×V)}{M L:List (Key×Value)},(∀q∈Y,∃k:Str,q.2=V.str k)->KV Y M->KV Y L->(∀y∈L,y∈Z)->W.KeqHits X.A.in1 s Z M true:=fun{Y}=>by
  induction Y with
  |nil=>intro M L _ r _ _;cases r;exact .nil
  |cons p Y ih=>
   intro M L N r f m
   cases r with
   |cons h t=>
    cases f with
    |cons h2 g=>
     rename_i o l1 w l2
     obtain⟨k1,u1⟩:=o;obtain⟨k2,u2⟩:=w;obtain⟨P,R⟩:=h;obtain⟨C,O⟩:=h2;obtain⟨z,ez⟩:=N p (by simp);dsimp only at P R C O;rw[ez]at R O;obtain⟨D,rfl⟩:=R;obtain⟨J,rfl⟩:=O
     have T:valueAt Z k1=some (.str z J):=by
      rw[<-P,C];exact find Z k2 _ G (m _ (by simp))
     have:=W.KeqHits.hit (A:=X.A.in1) (s:=s) (v:=.str z D) T (PySem.SeqAt.EqAt.str_str z D z J) (ih (fun q hq=>N q (ZK _ hq)) t g fun y B=>m y (ZK _ B));simpa using this
 refine W.keq_ne na i da j hu (fun _=>hits N F E fun y B=>B) ⟨.bl _,H,I,rfl,?_⟩;rw[<-la,<-lb];simpa using q
end
theorem Bd.put_parts_of{b:Bd}{Y:List Bd}(h:Y.length=b.parts.length):(b.put Y).parts=Y:=by
 cases b with
 |tag t=>exact(List.eq_nil_of_length_eq_zero h).symm
 |name x=>exact(List.eq_nil_of_length_eq_zero h).symm
 |pair a e=>obtain⟨Z,J,rfl⟩:=RC h;rfl
 |one e=>obtain⟨Z,rfl⟩:=RD h;rfl
 |other e=>obtain⟨Z,rfl⟩:=RD h;rfl
 |choose e G L=>match Y,h with|Z::Y,_=>rfl
 |ask f M=>rfl
 |letb x k e g=>obtain⟨Z,J,rfl⟩:=RC h;rfl
theorem Bd.oks_of{bs:List Bd}(h:∀b∈bs,b.ok):Bd.oks bs:=by
 induction bs with
 |nil=>unfold Bd.oks;trivial
 |cons b bs ih=>unfold Bd.oks;exact⟨h b (by simp),ih fun c Y=>h c (ZK _ Y)⟩
theorem Bd.put_ok{b:Bd}{J:List Bd}(Z:b.ok)(h:J.length=b.parts.length)(Y:∀c∈J,c.ok):(b.put J).ok:=by
 cases b with
 |tag t=>exact Z
 |name x=>exact Z
 |pair a e=>obtain⟨G,L,rfl⟩:=RC h;unfold Bd.put Bd.ok;exact⟨Y _ (by simp),Y _ (by simp)⟩
 |one e=>obtain⟨G,rfl⟩:=RD h;unfold Bd.put Bd.ok;exact Y _ (by simp)
 |other e=>obtain⟨G,rfl⟩:=RD h;unfold Bd.put Bd.ok;exact Y _ (by simp)
 |choose e M N=>
  match J,h with
  |G::J,h=>
   unfold Bd.ok at Z;unfold Bd.put Bd.ok;exact⟨Y _ (by simp),(Nat.succ.inj h).trans Z.2.1,Z.2.2.1,Bd.oks_of fun c m=>Y c (by simp[m])⟩
 |ask f O=>
  unfold Bd.ok at Z;unfold Bd.put Bd.ok;exact⟨ZZ (Nat.le_of_eq h) Z.1,Bd.oks_of Y⟩
 |letb x k e g=>obtain⟨G,L,rfl⟩:=RC h;unfold Bd.put Bd.ok;exact⟨Y _ (by simp),Y _ (by simp)⟩
theorem Bd.pre{b:Bd}(h:(∀e ts bs,b≠.choose e ts bs)/\∀f as,b≠.ask f as)(G:0<b.parts.length):∃Y:List Dat,0<Y.length/\Y.length<=3/\b.dat=.tup (Y++ Bd.dats b.parts)/\∀Z,Z.length=b.parts.length->(b.put Z).dat=.tup (Y++ Bd.dats Z):=by
 cases b with
 |tag t=>exact Zp G (Nat.lt_irrefl _)
 |name x=>exact Zp G (Nat.lt_irrefl _)
 |pair a e=>exact⟨[.str "pair"],by decide,by decide,by simp[Bd.dat,Bd.parts,Bd.dats],fun Z l=>by obtain⟨J,L,rfl⟩:=RC l;simp[Bd.put,Bd.dat,Bd.dats]⟩
 |one e=>exact⟨[.str "one"],by decide,by decide,by simp[Bd.dat,Bd.parts,Bd.dats],fun Z l=>by obtain⟨J,rfl⟩:=RD l;simp[Bd.put,Bd.dat,Bd.dats]⟩
 |other e=>exact⟨[.str "other"],by decide,by decide,by simp[Bd.dat,Bd.parts,Bd.dats],fun Z l=>by obtain⟨J,rfl⟩:=RD l;simp[Bd.put,Bd.dat,Bd.dats]⟩
 |choose e ts bs=>exact Zp rfl (h.1 e ts bs)
 |ask f as=>exact Zp rfl (h.2 f as)
 |letb x k e g=>exact⟨[.str "let",.str x,.str k],Nat.succ_pos _,ZF _,by simp[Bd.dat,Bd.parts,Bd.dats],fun Z l=>by obtain⟨J,L,rfl⟩:=RC l;simp[Bd.put,Bd.dat,Bd.dats]⟩
theorem Tr:∀{as bs:List Dat}{xs:List V},HasL H xs (as++ bs)->∃ys Y,xs=ys++ Y/\HasL H ys as/\HasL H Y bs
 |[],bs,xs,h=>⟨[],xs,rfl,Z4,h⟩
 |a::as,bs,xs,h=>by
  rw[List.cons_append]at h;obtain⟨x,r,rfl,L,G⟩:=Ym h;obtain⟨ys,Y,rfl,J,Z⟩:=Tr G;exact⟨x::ys,Y,rfl,Z2 L J,Z⟩
theorem HasL.set(Y:Has H u d):∀{xs:List V}{ds:List Dat}{j:Nat},HasL H xs ds->HasL H (xs.set j u) (ds.set j d)
 |[],[],j,_=>by simp[Z4]
 |[],_::_,_,h=>by unfold HasL at h;exact h.elim
 |_::_,[],_,h=>by unfold HasL at h;exact h.elim
 |x::xs,e::ds,0,h=>by unfold HasL at h;exact Z2 Y h.2
 |x::xs,e::ds,j+1,h=>by unfold HasL at h;exact Z2 h.1 (HasL.set Y h.2)
theorem Lc(ws:List Int):(UB ws).dep<=1:=by
 have:∀ws:List Int,Dat.deps (ws.map Dat.int)=0:=by
  intro ws
  induction ws with
  |nil=>unfold List.map Dat.deps;rfl
  |cons w ws ih=>rw[ZT];unfold Dat.deps;rw[ih];unfold Dat.dep;rfl
 unfold UB Dat.dep;rw[this];decide
theorem Lb(ws:List Int):(UB ws).pq (.tup [])=ws.isEmpty:=by
 unfold UB Dat.pq
 cases ws with
 |nil=>unfold List.map Dat.pqs;rfl
 |cons d Y=>unfold List.map Dat.pqs;rfl
theorem Ld{i:Int}{r:List Int}:Jp ((i::r).map V.int) (some 1) none=r.map V.int:=by
 simp[Jp,HT.sIx];exact Ze (by simp)
end L2
namespace K4
open PySem L2
section
theorem TH:Yr ["body","place","step"] ["body","place"] (Yh MN):=Y7
def G0:Sp:=fun vs H Q _=>∃(v:V)(a:Addr)(b c:Bd)(ws:List Int),vs=[v,.ref a]/\Has H v b.dat/\b.ok/\H a=some (.tup (ws.map V.int))/\b.at ws=some c/\∀u H',Same H H'->Has H' u c.dat->Q u H'
theorem Es(F:Fun K "_law_part_at" "_law_part_at" MN f fd)(DR:Df P w K mg base n "_law_parts" ["body"] Vy):Yo P w K mg base CX0 (n+1) f fd ["body","place"] G0:=by
 refine F.oq TH fun Z8 A G s H vs Q E y h=>?_;obtain⟨v,a,b,c,N,rfl,j,X,B,g,q⟩:=h;refine⟨_,YW (Vu Zt rfl (Ji (pv 1)) (Yk 2 TH.nd)
  (YZ (Yp 0 TH.nd (Yd Yv (Yt DR y (pa1 (pv 0))) (pv 2) (fun _ _=>rfl)))))
  (YZ (Yf (pv 0))),?_⟩
 show let a:=_;let b:=_;Yj (UE _ _ b) a _ _ _
 intros
 refine⟨⟨_,Z0 B⟩,?_⟩
 let I:Nat->St->Hp->Prop:=fun i U J=>Same H J/\∃u z Y,U=[some u,some (.ref a),z]/\Has J u (Bd.dat Y)/\Y.ok/\Y.at (N.drop i)=some c
 refine X2 (xs:=N.map V.int) I ⟨Z6 _,v,none,b,rfl,j,X,g⟩ ?_ ?_ ?_
 .rintro i U J _ ⟨sj,_⟩
  exact Z0 (sj _ _ B)
 .rintro BB RR i x U J hx ⟨sj,u,z,Y,rfl,hu,okb,e⟩
  obtain⟨m,r,rfl,e1,e2,hm⟩:=FI hx;rw[e1]at e;unfold Bd.at at e
  by_cases hm0:0<=m
  case neg=>rw[Zo hm0]at e;cases e
  rw[Zn hm0]at e
  cases hp:Y.parts[m.toNat]? with
  |none=>rw[hp]at e;cases e
  |some S=>
   rw[hp]at e;refine⟨u,Y,rfl,hu,okb,fun p H2 C fp k=>?_⟩;obtain⟨_,xs,l,M,R⟩:=Jd k;cases l;have O:=R.length;rw[Z7,ZA]at O;have t:=(ZE.mp hp).1;have Z:m.toNat<xs.length:=by exact Iq O t
   obtain⟨d,T,L⟩:=R.get (ZC Z);rw[Z7,ZG,hp]at T;cases T;have o:m=((m.toNat:Nat):Int):=by exact U1 hm0
   refine⟨_,xs[m.toNat],Z1 M,?_,sj.trans C,_,_,S,rfl,L,Bd.ok_parts okb S (ZH hp),by rw[e2];exact e⟩;have D:=Y3 (ZC Z);rw[<-o]at D;exact D
 .rintro U J ⟨sj,u,z,Y,rfl,hu,okb,e⟩
  rw[ZA,List.drop_length]at e;unfold Bd.at at e;cases e;exact q _ _ sj hu
theorem Dh:Yr ["body","place","other","some"] ["body","place","other"] (Yh MK):=Y7
theorem QO:List.Nodup [("row":Str),"branch"]:=by decide +kernel
abbrev sps:List Str:=["body","place","other"]
def XZ(n:Nat):Sp:=fun vs H Q _=>∃(v o:V)(a:Addr)(b c d:Bd)(ws:List Int),vs=[v,.ref a,o]/\Has H v b.dat/\b.ok/\H a=some (.tup (ws.map V.int))/\Has H o c.dat/\c.ok/\b.at ws=some d/\ws.length<n/\ws.length<=100/\∀u H' e,Same H H'->Has H' u (Bd.dat e)->e.ok->e.dep<=max b.dep (ws.length+c.dep)->Q u H'
theorem Lk{e p r c b l:Nat}(h:e<=max p (r+c))(Y:p<b)(Z:l=r+1):e+1<=max b (l+c):=by omega
theorem KP(B:Blt mg)(F:Fun K "_law_set_at" "_law_set_at" MK f fd)(G:Yo P w K mg base CX0 (m+2) f fd sps (XZ n))(bG:Binds K fd sps [])(mG:mg "_law_set_at"=some (.ref f))(DR:Df P w K mg base (m+2) "_law_parts" ["body"] Vy):
  Yo P w K mg base CX0 (m+2+1) f fd sps (XZ (n+1)):=by
 refine F.oq Dh fun cdv A T2 s H S Q E hr h=>?_;obtain⟨v,o,a,b,c,d,ws,rfl,hv,ok,ha,ho,N6,Z,ln,N7,q⟩:=h;have I6:V7 (1+1) _:=hr.mono (show 2<=m+2 by exact Ii);have DG:Df P w K mg base (m+2) "_law_set_at" sps (XZ n):=⟨f,fd,mG,F.kp,bG,G⟩;refine⟨_,YW (Yx (Yi (Xy I6) (pv 1) (Yw VT) (Yq _)) (YZ (Yf (pv 2))) Yl)
  (YW (Yp 3 Dh.nd (Yt DR hr (pa1 (pv 0))))
  (YW (Je (Yt DG hr (pa3 (Yd Yv (pv 3) (Yd Yg (pv 1) YX) (fun _ _=>rfl)) (VM WX (pv 1) (VY YX) Vr) (pv 2))) (Tg (pv 3) (Yd Yg (pv 1) YX) set_list))
  (YW (Yx (Yi VB (Yd Yg (pv 0) YX) Yn (Yq _))
   (YZ (Yf (Yw (pa3 Yn (Yd Yv (pv 3) YX) (Y4 Vm rfl B.tuple Ve (pa1
    (V6 ["row","branch"] [] (IW rfl B.zip (pa2 (Yd Yg (pv 0) YX) (VM Xd (pv 3) (VY YX) Vr))) Tt (fun cl C fp s H=>Vn (n:=2) rfl (Ys (Yk 0 QO rfl (Or.inl rfl) (Or.inr rfl)) (Ys (Yk 1 QO rfl (Or.inl rfl) (Or.inr rfl)) VO)))
     (fun cl C fp s H=>Yw (pa2 (Yd (r:=Ta K) Yg (pv 0) YX) (pv 1)))))))))) Yl)
  (YW (Yx (Yi VB (Yd Yg (pv 0) YX) Yn (Yq _)) (YZ (Yf (Yw (pa3 Yn (Yd Yg (pv 0) YX) (Y4 Vm rfl B.tuple Ve (pa1 (pv 3))))))) Yl)
  (YZ (Yf (Y2 Xh (VM WX (pv 0) Vr (VY (Y2 Jv (Y0 Yu rfl B.len Zs (pa1 (pv 0))) (Y0 Yu rfl B.len Zs (pa1 (pv 3)))))) (Y4 Vm rfl B.tuple Ve (pa1 (pv 3)))))))))),?_⟩
 dsimp only[JV,Cx.nox,Cx.wish];show let a:=_;let b:=_;let c:=Yj (Y9 _ b _) a;let d:=_;let e:=Yj (Y9 _ d _) c;let f:=Yj _ e;let g:=Yj _ f;let h:=_;Yj (Y9 _ h _) g _ _ _
 intros
 refine⟨sl 0,fun t0 I5=>?_⟩;refine up_in I5 _ fun H0 s0 g0=>?_;refine⟨UB ws,.tup [],X5 (s0 _ _ ha),Yy g0 Z4,Lc _,_,rfl,?_⟩;rw[Lb]
 cases ws with
 |nil=>exact VJ rfl (q _ _ c s0 (ho.mono s0) N6 (by show c.dep<=max b.dep (0+c.dep);rw[Nat.zero_add];exact Nat.le_max_right _ _))
 |cons i r=>
  refine Y1 (by simp) ?_;refine⟨v,b,rfl,hv.mono s0,ok,fun Y H1 s1 fsl h1=>?_⟩;obtain⟨_,L,er,k,t⟩:=Jd h1;cases er;have fs:H Y=none:=s0.free fsl;have lx:=t.length;rw[Z7,ZA]at lx;have few:=Bd.few ok;unfold Bd.at at Z
  by_cases i0:0<=i
  case neg=>rw[Zo i0]at Z;cases Z
  rw[Zn i0]at Z
  cases hpt:b.parts[i.toNat]? with
  |none=>rw[hpt]at Z;cases Z
  |some pt=>
   rw[hpt]at Z;have hi:=(ZE.mp hpt).1;have R7:i.toNat<L.length:=by exact Iq lx hi
   have em:i=((i.toNat:Nat):Int):=(Int.toNat_of_nonneg i0).symm;obtain⟨dd,Z9,R3⟩:=t.get (ZC R7);rw[Z7,ZG,hpt]at Z9;cases Z9;have N4:=ZH hpt;have N5:=Bd.dep_mem N4;have X:=s0.trans s1
   have ax:atI L i=some L[i.toNat]:=by
    have:=Y3 (ZC R7);rw[<-em]at this;exact this
   have a0:atI ((i::r).map V.int) 0=some (.int i):=Y3 (j:=0) rfl;refine⟨_,_,Z0 (X _ _ ha),a0,_,_,Z1 k,ax,1,rfl,a,_,rfl,Z0 (X _ _ ha),by simp[HT.sIx],fun t3 I3=>?_⟩;rw[Ld];refine up_in I3 _ fun H3 s3 g3=>?_;have T0:=X.trans s3;refine⟨_,o,t3,pt,c,d,r,rfl,R3.mono s3,Bd.ok_parts ok pt N4,g3,ho.mono T0,N6,Z,Nat.lt_of_succ_lt_succ ln,Nat.le_of_succ_le N7,fun u H4 e s4 R4 D0 dpe=>?_⟩;have U:=s3.trans s4;have N3:=X.trans U
   have N8:ixN L.length i=some i.toNat:=by
    unfold ixN;rw[Zn i0,Zn (by omega)]
   refine⟨_,_,Z0 (N3 _ _ ha),a0,Y,L,i,i.toNat,rfl,rfl,U _ _ k,N8,?_⟩;have G1:=U _ _ k;have sP:Same H (upd H4 Y (.lst (L.set i.toNat u))):=N3.putN fs;have G2:TK H4 (upd H4 Y (.lst (L.set i.toNat u))):=fun b us h=>by rw[Ya (fun e=>by rw[e,G1]at h;cases h)];exact h
   have g5:upd H4 Y (.lst (L.set i.toNat u)) Y=some (.lst (L.set i.toNat u)):=YY
   have J:HasL (upd H4 Y (.lst (L.set i.toNat u))) (L.set i.toNat u) (Bd.dats (b.parts.set i.toNat e)):=by
    rw[Z7,List.map_set,<-Z7];exact HasL.set (VF G2 _ (Bd.st _) R4) (VG G2 _ (Bd.sts _) (t.mono U))
   generalize upd H4 Y (.lst (L.set i.toNat u))=H5 at sP G2 g5 J |-;have O:(b.parts.set i.toNat e).length=b.parts.length:=List.length_set;have N:(L.set i.toNat u).length=b.parts.length:=by rw[List.length_set,lx]
   have F1:(i::r).length=r.length+1:=Zd
   have D:∀y∈b.parts.set i.toNat e,y.ok/\y.dep+1<=max b.dep ((i::r).length+c.dep):=fun y hy=>by
    rcases List.mem_or_eq_of_mem_set hy with h|h
    .have:=Bd.dep_mem h
     exact⟨Bd.ok_parts ok y h,ZZ this (Nat.le_max_left _ _)⟩
    .rw [h];exact⟨D0,Lk dpe N5 F1⟩
   generalize b.parts.set i.toNat e=cs at J O D;generalize L.set i.toNat u=M at g5 J N;have N1:∀u6 H6,Same H5 H6->Has H6 u6 (b.put cs).dat->Q u6 H6:=fun u6 H6 T h6=>q u6 H6 _ (sP.trans T) h6 (Bd.put_ok ok O fun y hy=>(D y hy).1) (Bd.dep_le (fun y hy=>by rw[Bd.put_parts_of O]at hy;exact(D y hy).2) (ZZ (Nat.lt_of_le_of_lt (Za _) N5) (Nat.le_max_left _ _)));have I:=hv.mono sP;clear t R3 k G1 ax N8 Z R4
   by_cases hch:∃e' ts bs,b=.choose e' ts bs
   .obtain ⟨e',ts,bs,rfl⟩:=hch
    obtain⟨p,ub,pz,zs,rfl,hp,Z8,R1⟩:=X1 I;unfold Bd.ok at ok;obtain⟨o1,o2,o3,o4⟩:=ok;have lz:=R1.length;rw[Bd.brs_len o2]at lz;refine⟨_,_,Z0 hp,rfl,rfl,_,rfl,VJ (by decide +kernel) ?_⟩;obtain⟨c0,cs,rfl⟩:∃c0 N2,cs=c0::N2:=match cs,O with|c0::N2,_=>⟨c0,N2,rfl⟩
    unfold Bd.dats at J;obtain⟨y0,M,rfl,F4,G3⟩:=Ym J;have J2:cs.length=bs.length:=Nat.succ.inj O;have D3:M.length=bs.length:=Nat.succ.inj N;refine⟨_,_,Z1 g5,Y3 (j:=0) rfl,?_⟩;refine⟨_,_,Z0 hp,rfl,1,rfl,Y,_,rfl,Z1 g5,fun t4 I2=>?_⟩;rw[show Jp (y0::M) (some 1) none=M by simp[Jp,HT.sIx]];refine up_in I2 _ fun H6 T g6=>?_;refine⟨pz,t4,true,false,zs,M,rfl,Z0 (T _ _ Z8),Z1 g6,?_⟩;have F2:=R1.mono T;have F3:=G3.mono T;refine VR zs.length (Ye (by exact D2 lz o3)) (fun j S H'=>Same H6 H'/\S.length=j/\HasL H' S (Bd.brs (cs.take j) (ts.take j))) ⟨Z6 _,rfl,by simp[Bd.brs,Z4]⟩ (fun j S H' z=>z.2.1) ?_ ?_ ?_ ?_
    .rintro j S H' hj ⟨sj,_⟩
     exact⟨zs,M,zs[j],M[j]'(by exact A3 hj o2 lz D3),Z0 (sj _ _ (T _ _ Z8)),Z1 (sj _ _ g6),by simp[hj],by simp⟩
    .rintro S H' ⟨sj,_⟩
     exact⟨zs,M,Z0 (sj _ _ (T _ _ Z8)),Z1 (sj _ _ g6),.inl (ZF _)⟩
    .rintro j S H' x H3' R hj ⟨sj,z2,z3⟩ yl hR
     obtain⟨pp,x',y',rfl,I8,rfl,F7,F5⟩:=yl;have ex:=F7 zs (Z0 (sj _ _ (T _ _ Z8)));have ey:=F5 M (Z1 (sj _ _ g6));obtain⟨d1,Z9,F6⟩:=F2.get ex;obtain⟨b1,t1,hb1,I4,rfl⟩:=Bd.brs_get Z9;obtain⟨pr,u2,rfl,I7,_⟩:=Tp F6;obtain⟨d2,R8,G3⟩:=F3.get ey;rw[Z7,ZG]at R8;obtain⟨cj,hc,rfl⟩:=Zh.mp R8;have sN:=Yb I8 (.tup [.ref pr,y']);refine⟨_,Z0 YY,rfl,?_⟩;refine⟨_,_,Z0 (sN _ _ (sj _ _ I7)),Y3 (j:=0) rfl,sl 2,fun tq F8=>?_⟩;have sQ:=Yb F8 (.tup [.str t1,y']);have sB:=(sj.trans sN).trans sQ;refine hR _ _ ⟨sB,by rw[ZJ,z2];rfl,?_⟩;rw[take_snoc hc,take_snoc I4,T4 (by rw[ZL,ZL];exact A2 o2 J2)];exact Z5 ((z3.mono sN).mono sQ) (Z3 (Yy YY (Z2 Y5 (Z3 (G3.mono sB)))))
    .rintro S H' l ⟨sj,z2,z3⟩ hl7
     rw[Ze (by exact A1 o2 lz J2),Ze (by exact oq9 lz)]at z3;refine up_in hl7 _ fun H7 s7 g7=>?_;refine⟨l,S,rfl,.inl ⟨Z1 g7,fun t8 F9=>?_⟩⟩;refine up_in F9 _ fun H8 s8 g8=>?_;refine⟨sl 3,fun t9 L2=>?_⟩;have s9:=Yb L2 (.tup [.str "choose",y0,.ref t8]);have sA:=(T.trans sj).trans (s7.trans s8);refine N1 _ _ (sA.trans s9) ?_;show Has _ _ (Bd.choose c0 ts cs).dat;unfold Bd.dat;exact Yy YY (Z2 Y5 (Z2 ((F4.mono sA).mono s9) (Z3 (Yy (s9 _ _ g8) (((z3.mono s7).mono s8).mono s9)))))
   by_cases has:∃g as,b=.ask g as
   .obtain ⟨g,as,rfl⟩:=has
    obtain⟨p,ub,rfl,hp,_⟩:=WL I;refine⟨_,_,Z0 hp,rfl,rfl,_,rfl,Y1 (by decide +kernel) ?_⟩;refine⟨_,_,Z0 hp,rfl,rfl,_,rfl,VJ (by decide +kernel) ?_⟩;refine⟨_,_,Z0 hp,rfl,Y,M,rfl,.inl ⟨Z1 g5,fun t7 N0=>?_⟩⟩;refine up_in N0 _ fun H7 s7 g7=>?_;refine⟨sl 3,fun t9 L2=>?_⟩;have s9:=Yb L2 (.tup [.str "ask",.str g,.ref t7]);refine N1 _ _ (s7.trans s9) ?_;show Has _ _ (Bd.ask g cs).dat;unfold Bd.dat;exact Yy YY (Z2 Y5 (Z2 Y5 (Z3 (Yy (s9 _ _ g7) ((J.mono s7).mono s9)))))
   have h0:0<b.parts.length:=Nat.lt_of_le_of_lt (Za _) hi;obtain⟨pre,p0,p3,eb,ec⟩:=Bd.pre ⟨fun e' ts bs z=>hch ⟨e',ts,bs,z⟩,fun g as z=>has ⟨g,as,z⟩⟩ h0;obtain⟨p,xw,rfl,hp⟩:=J7 I
   have wc:b.word≠"choose" /\b.word≠"ask":=by
    cases b with
    |choose e' ts bs=>exact Zp ⟨e',ts,bs,rfl⟩ hch
    |ask g as=>exact Zp ⟨g,as,rfl⟩ has
    |_=>exact⟨by dsimp only[Bd.word];decide +kernel,by dsimp only[Bd.word];decide +kernel⟩
   refine⟨_,_,Z0 hp,Y3 (j:=0) rfl,rfl,_,rfl,Y1 (by simpa using wc.1) ?_⟩;refine⟨_,_,Z0 hp,Y3 (j:=0) rfl,rfl,_,rfl,Y1 (by simpa using wc.2) ?_⟩;rw[eb]at I;obtain⟨_,xa,e1,R5,hl⟩:=Y6 I;cases e1;obtain⟨xp,xq,rfl,R6,S2⟩:=Tr hl;have l1:=R6.length;have l2:=S2.length;rw[Z7,ZA]at l2;have es:(((xp++ xq).length:Nat):Int)-((M.length:Nat):Int)=((xp.length:Nat):Int):=by rw[ZJ];exact A0 N l2
   refine⟨p,_,rfl,.inr (Z0 R5),Y,_,rfl,.inl (Z1 g5),?_⟩;dsimp only[rI0,rI,J9];rw[es];refine⟨_,rfl,p,_,rfl,Z0 R5,?_,fun t6 I1=>?_⟩
   .rw [HT.sIx_nat]
    rintro⟨_,z⟩;rw[ZJ]at z;exact Az l2 h0 z
   rw[NW _ _ (by rw[ZJ];exact Ip),List.take_left];refine up_in I1 _ fun H6 T g6=>?_;refine⟨Y,M,rfl,.inl ⟨Z1 (T _ _ g5),fun t7 N0=>?_⟩⟩;refine up_in N0 _ fun H7 s7 g7=>?_;refine⟨t6,t7,_,_,rfl,rfl,Z0 (s7 _ _ g6),Z0 g7,(fun z=>by rw[z]at l1;rw[List.length_nil]at l1;omega),Zf (Ye (by exact Ay N l1 p3 few)),fun z=>?_,fun _ p8 I9=>?_⟩
   .rw [z]at N;rw[List.length_nil]at N;omega
   have s8:=Yb I9 (.tup (xp++ M));have sA:=(T.trans s7).trans s8;refine N1 _ _ sA ?_;rw[ec cs O];exact Yy YY (Z5 (R6.mono sA) (J.mono sA))
theorem Mw(B:Blt mg)(F:Fun K "_law_set_at" "_law_set_at" MK f fd)(Z:Binds K fd sps [])(Y:mg "_law_set_at"=some (.ref f))(J:Df P w K mg base 2 "_law_parts" ["body"] Vy):∀n,Yo P w K mg base CX0 (n+2) f fd sps (XZ n)
 |0=>.none fun L H Q E h=>by
  obtain⟨_,_,_,_,_,_,_,_,_,_,_,_,_,_,G,_⟩:=h;exact Zu _ G
 |n+1=>KP (m:=n) B F (Mw B F Z Y J n) Z Y (J.up (by exact Ii))
end
end K4
namespace L2
open PySem
theorem HasL.drop9:∀{ds:List Dat}{xs:List V}(n:Nat),HasL H xs ds->HasL H (xs.drop n) (ds.drop n)
 |_,_,0,h=>h
 |[],[],n+1,h=>h
 |[],_::_,_+1,h=>by unfold HasL at h;exact h.elim
 |_::_,[],_+1,h=>by unfold HasL at h;exact h.elim
 |d::ds,x::xs,n+1,h=>by unfold HasL at h;exact HasL.drop9 n h.2
theorem HasL.take9:∀{ds:List Dat}{xs:List V}(n:Nat),HasL H xs ds->HasL H (xs.take n) (ds.take n)
 |_,_,0,h=>Z4
 |[],[],n+1,h=>h
 |[],_::_,_+1,h=>by unfold HasL at h;exact h.elim
 |_::_,[],_+1,h=>by unfold HasL at h;exact h.elim
 |d::ds,x::xs,n+1,h=>by unfold HasL at h;exact Z2 h.1 (HasL.take9 n h.2)
theorem HasL.rev9:∀{ds:List Dat}{xs:List V},HasL H xs ds->HasL H xs.reverse ds.reverse
 |[],xs,h=>by obtain rfl:=Vb h;exact Z4
 |d::ds,xs,h=>by
  obtain⟨x,r,rfl,Z,Y⟩:=Ym h;rw[List.reverse_cons,List.reverse_cons];exact Z5 (HasL.rev9 Y) (Z3 Z)
def WP{α:Type}(ls:List α)(lo hi:Option Int):List α:=(ls.drop (HT.sIx ls.length 0 lo)).take (HT.sIx ls.length ls.length hi-HT.sIx ls.length 0 lo)
theorem Ui{α:Type}{ls:List α}{x:α}(h:x∈WP ls lo hi):x∈ls:=List.mem_of_mem_drop (Zi h)
section
variable{α:Type}{D:α->Dat}{ls l1 l2:List α}
theorem Xn{Q:VK}(h:Has H u (.tup (ls.map D)))(q:∀J H',Same H H'->Has H' J (.tup ((WP ls lo hi).map D))->Q J H'):S6 u lo hi H Q:=by
 obtain⟨a,Y,rfl,N,G⟩:=Y6 h;have Z:=G.length;rw[ZA]at Z;refine⟨a,Y,rfl,N,fun L=>q _ H (Z6 _) ?_,fun p M=>q _ _ (Yb M _) ?_⟩
 .have e:WP ls lo hi=ls:=by
   unfold WP;rw[<-Z,L.1,L.2,Nat.sub_zero,List.drop_zero,Z,List.take_length]
  rw[e];exact h
 .have e:(WP ls lo hi).map D=((ls.map D).drop (HT.sIx Y.length 0 lo)).take (HT.sIx Y.length Y.length hi-HT.sIx Y.length 0 lo):=by
   unfold WP;rw[List.map_take,List.map_drop,Z]
  rw[e];exact Yy YY (HasL.take9 _ (HasL.drop9 _ (G.mono (Yb M _))))
theorem Ds{Q:VK}(h:Has H u (.tup (ls.map D)))(q:∀Y H',Same H H'->Has H' Y (.tup (ls.reverse.map D))->Q Y H'):PU K u (.int (-1)) H Q:=by
 obtain⟨a,J,rfl,L,G⟩:=Y6 h;refine⟨a,J,rfl,rfl,Z0 L,fun p Z=>q _ _ (Yb Z _) ?_⟩;rw[List.map_reverse];exact Yy YY (HasL.rev9 (G.mono (Yb Z _)))
theorem WQ{Q:VK}(E:Has H u (.tup (l1.map D)))(B:Has H v (.tup (l2.map D)))(l:l1.length+l2.length<=900)(q:∀G H',Same H H'->Has H' G (.tup ((l1++ l2).map D))->Q G H'):My K u v H Q\/Wv K u v H Q:=by
 obtain⟨a,J,rfl,T,O⟩:=Y6 E;obtain⟨b,Z,rfl,R,N⟩:=Y6 B;have M:=O.length;have L:=N.length;rw[ZA]at M L
 by_cases e:J=[]
 .subst e
  refine .inl ⟨a,b,Z,rfl,rfl,Z0 T,Z0 R,q _ H (Z6 _) ?_⟩;rw[List.eq_nil_of_length_eq_zero M.symm];exact B
 .refine .inr ⟨a,b,J,Z,rfl,rfl,Z0 T,Z0 R,e,Zf (Ye (by omega)),fun F=>q _ H (Z6 _) ?_,fun _ p Y=>q _ _ (Yb Y _) ?_⟩
  .subst F
   rw[List.eq_nil_of_length_eq_zero L.symm,List.append_nil];exact E
  .rw [ZI]
   exact Yy YY (Z5 (O.mono (Yb Y _)) (N.mono (Yb Y _)))
end
abbrev brD(p:Str×Bd):Dat:=.tup [.str p.1,p.2.dat]
theorem EQ:∀{bs:List Bd}{ts:List Str},bs.length=ts.length->Bd.brs bs ts=(ts.zip bs).map brD
 |[],[],_=>by simp[Bd.brs]
 |b::bs,t::ts,h=>by rw[Bd.brs,EQ (bs:=bs) (ts:=ts) (Nat.succ.inj h)];rfl
theorem ES(ps:List (Str×Bd)):Bd.brs (ps.map (·.2)) (ps.map (·.1))=ps.map brD:=by
 induction ps with
 |nil=>simp[Bd.brs]
 |cons p ps ih=>rw[ZT,ZT,Bd.brs,ih];rfl
theorem Kd.at_(h:Kd ks hd kv y b):∀{ws:List Int}{c:Bd},b.at ws=some c->∃Y J,Kd ks hd Y J c:=by
 intro ws
 induction ws generalizing b kv y with
 |nil=>intro c e;unfold Bd.at at e;cases e;exact⟨kv,y,h⟩
 |cons i r ih=>
  intro c e;unfold Bd.at at e
  by_cases i0:0<=i
  case neg=>rw[Zo i0]at e;cases e
  rw[Zn i0]at e
  cases hp:b.parts[i.toNat]? with
  |none=>rw[hp]at e;cases e
  |some N=>
   rw[hp]at e;obtain⟨Z,_,G,L⟩:=h.inv;have M:=(ZE.mp hp).1;exact ih (L _ N Z[i.toNat] hp (ZC (by exact Iq G M))) e
theorem Bd.at_ok:∀{w:List Int}{b d:Bd},b.ok->b.at w=some d->d.ok/\w.length+d.dep<=b.dep
 |[],b,d,h,e=>by unfold Bd.at at e;cases e;exact⟨h,by show 0+b.dep<=b.dep;omega⟩
 |i::r,b,d,h,e=>by
  unfold Bd.at at e
  by_cases i0:0<=i
  case neg=>rw[Zo i0]at e;cases e
  rw[Zn i0]at e
  cases ep:b.parts[i.toNat]? with
  |none=>rw[ep]at e;cases e
  |some c=>
   rw[ep]at e;have m:=ZH ep;have q:=Bd.at_ok (Bd.ok_parts h c m) e;have:=Bd.dep_mem m;have Y:=q.2;exact⟨q.1,by rw[Zd];omega⟩
theorem keys_str:∀{kvs:List (Key×V)},(∀q∈kvs,∃f,q.1=Sum.inr f)->∃Y:List Str,(kvs.map fun q=>kV q.1)=Y.map V.str/\Y.length=kvs.length
 |[],_=>⟨[],rfl,rfl⟩
 |q::kvs,h=>by
  obtain⟨Y,e,l⟩:=keys_str (kvs:=kvs) fun r Z=>h r (ZK _ Z);obtain⟨f,J⟩:=h q (by simp);exact⟨f::Y,by rw[ZT,ZT,e,J];rfl,by rw[Zd,Zd,l]⟩
theorem EL{α:Type}{ls:List α}{m:Int}(Z:1<=ls.length)(Y:1<=m):1<=(WP ls none (some m)).length:=by
 unfold WP;have e:HT.sIx ls.length ls.length (some m)=min m.toNat ls.length:=by show(if m<0 then(m+(ls.length:Int)).toNat else min m.toNat ls.length)=_;rw[Zo (by omega)]
 rw[e,HT.sIx_none,List.drop_zero,ZL];exact Ax Z Y
theorem LQ{α:Type}(ls:List α):(WP ls none (some 1)).length<=1:=by
 unfold WP;have e:HT.sIx ls.length ls.length (some 1)=min 1 ls.length:=by show(if(1:Int)<0 then((1:Int)+(ls.length:Int)).toNat else min (1:Int).toNat ls.length)=_;rw[Zo (by decide)];rfl
 rw[e,HT.sIx_none,List.drop_zero,ZL];omega
theorem K9(h:Has H v (Bd.letb x k e b).dat):∃a N M,v=.ref a/\H a=some (.tup [.str "let",.str x,.str k,N,M])/\Has H N e.dat/\Has H M b.dat:=by
 unfold Bd.dat at h;obtain⟨t,S,rfl,T,B⟩:=Y6 h;obtain⟨X,z,rfl,I,L⟩:=Ym B;obtain⟨C,y,rfl,A,G⟩:=Ym L;obtain⟨U,j,rfl,F,J⟩:=Ym G;obtain⟨R,Q,rfl,E,Z⟩:=Ym J;obtain⟨O,P,rfl,D,Y⟩:=Ym Z;obtain rfl:=Vb Y;obtain rfl:=has_str I;obtain rfl:=has_str A;obtain rfl:=has_str F;exact⟨t,R,O,rfl,T,E,D⟩
theorem Uv{α:Type}(ls:List α)(lo hi:Option Int):(WP ls lo hi).length<=ls.length:=by
 unfold WP;rw[ZL,List.length_drop];exact Py
theorem NM(h:Has H v (Bd.choose e ts bs).dat):∃a u l,v=.ref a/\H a=some (.tup [.str "choose",u,.ref l])/\Has H u e.dat/\Has H (.ref l) (.tup (Bd.brs bs ts)):=by
 unfold Bd.dat at h;obtain⟨t,D,rfl,L,M⟩:=Y6 h;obtain⟨A,U,rfl,B,J⟩:=Ym M;obtain⟨G,S,rfl,T,Z⟩:=Ym J;obtain⟨F,I,rfl,R,Y⟩:=Ym Z;obtain rfl:=Vb Y;obtain rfl:=has_str B;obtain⟨l,E,rfl,O,N⟩:=Y6 R;exact⟨t,G,l,rfl,L,T,Yy O N⟩
theorem Mc:∀{l:List Bd}{m:Nat},(∀c∈l,c.dep<=m)->Bd.deps l<=m
 |[],_,_=>Za _
 |x::l,m,z=>by unfold Bd.deps;have:=z x (by simp);have:=Mc (l:=l) (m:=m) fun c Y=>z c (ZK _ Y);omega
theorem Uz{ys:List Str}{r:Int}(Z:0<=r)(Y:r<(ys.length:Nat)):∃z,atI (ys.map V.str) r=some (.str z):=by
 obtain⟨m,v,G,J⟩:=Jq (xs:=ys.map V.str) Z (by rw[ZA];exact Y);obtain⟨y,_,rfl⟩:=U7 G;exact⟨y,J⟩
end L2
namespace K4
open PySem L2
section
theorem Jh:Yr ["stream","shapes","asks","body","kinds","names","way","some","rows","f"] ["stream","shapes","asks","body"] (Yh MJ):=Y7
abbrev nps:List Str:=["stream","shapes","asks","body"]
def Gz:Sp:=fun vs H Q _=>∃(p sA aA:Addr)(v:V)(ks:List (Str×Shp))(hd:Hds)(c d:Str->Nat)(kv:List (Key×V))(y:Str)(b:Bd),vs=[.ref p,.ref sA,.ref aA,v]/\VE H p/\SF H sA ks/\HG H aA hd/\KK 30 c d ks/\0<ks.length/\ks.length<=6/\Has H v b.dat/\b.ok/\Kd ks hd kv y b/\
 ∀u H' b',SameB p H H'->VE H' p->Has H' u (Bd.dat b')->b'.ok->b'.dep<=b.dep+1->Q u H'
theorem Ep(B:Blt mg)(F:Fun K "_law_spoil_node" "_law_spoil_node" MJ f fd)(DT:Df P w K mg base n "_law_take" ["stream","many"] JE):Yo P w K mg base CX0 (n+1) f fd nps Gz:=by
 refine F.oq Jh fun cdv A outer s H vs Q E hr h=>?_;obtain⟨p,sA,aA,v,ks,hd,c,d,kv,y,b,rfl,st,sf,hg,kk,S2,k6,hv,ok,kd,q⟩:=h;refine⟨_,YW (Yp 4 Jh.nd (Y4 (UA rfl) rfl B.list Vc (pa1 (pv 1))))
  (YW (Yp 5 Jh.nd (Y2 Ur (Y4 (UA rfl) rfl B.list Vc (pa1 (pv 2))) (VD (pa1 Yn))))
  (YW (Yp 6 Jh.nd (Yt DT hr (pa2 (pv 0) YX)))
  (YW (Yx (Yi VB (pv 6) YX (Yq _)) (YZ (Yf (Yw (pa2 Yn (Yd Yv (VD (pa3 Yn Yn Yn)) (Yt DT hr (pa2 (pv 0) YX)) (fun _ _=>rfl)))))) Yl)
  (YW (Yx (Yi VB (pv 6) YX (Yq _)) (YZ (Yf (Yw (pa2 Yn (Yd Yv (VD (pa3 Yn Yn Yn)) (Yt DT hr (pa2 (pv 0) YX)) (fun _ _=>rfl)))))) Yl)
  (YW (Yx (Yi VB (pv 6) YX (Yq _)) (YZ (Yf (Yw (pa2 (Yd Yv (VD (pa2 Yn Yn)) (Yt DT hr (pa2 (pv 0) YX)) (fun _ _=>rfl)) (pv 3))))) Yl)
  (YW (Yx (Yi VB (pv 6) YX (Yq _)) (YZ (Yf (Yw (pa3 Yn (pv 3) (pv 3))))) Yl)
  (YW (Yx (Yi VB (pv 6) YX (Yq _)) (YZ (Yf (Yw (pa5 Yn Yn (Yd Yv (pv 4) (Yt DT hr (pa2 (pv 0) (Y0 Yu rfl B.len Zs (pa1 (pv 4))))) (fun _ _=>rfl)) (pv 3) (Yw (pa2 Yn Yn)))))) Yl)
  (YW (Yx (PW.pt (JU (Yi VB (pv 6) YX (Yq _)) (JH (Yi VB (Yd Yg (pv 3) YX) Yn (Yq _)))))
   (YW (Yp 7 Jh.nd (VD (pa3 (VM Xc (Yd Yg (pv 3) YX) Vr (VY (M3 Gs YX))) (Y2 Xi (Yd Yg (pv 3) YX) (Yw (pa1 (Yw (pa2 Yn Yn))))) (Dw (Yd Yg (pv 3) YX) (M3 Gs YX)))))
   (YZ (Yf (Yw (pa3 Yn (Yd Yg (pv 3) YX) (Yd Yv (pv 7) (Yt DT hr (pa2 (pv 0) YX)) (fun _ _=>rfl))))))) Yl)
  (YW (Yx (PW.pt (JU (Yi VB (pv 6) YX (Yq _)) (JH (Yi VB (Yd Yg (pv 3) YX) Yn (Yq _)))))
   (YW (Yp 8 Jh.nd (VD (pa4 (VM Xc (Yd Yg (pv 3) YX) Vr (VY (Y0 (Xo rfl) rfl B.max Uk (pa2 YX (Y2 Jv (Y0 Yu rfl B.len Zs (pa1 (Yd Yg (pv 3) YX))) YX))))) (Dw (Yd Yg (pv 3) YX) (M3 Gs YX)) (Y2 Xi (VM Xc (Yd Yg (pv 3) YX) (VY YX) Vr) (VM Xc (Yd Yg (pv 3) YX) Vr (VY YX))) (Y2 Xi (Yd Yg (pv 3) YX) (VM Xc (Yd Yg (pv 3) YX) Vr (VY YX))))))
   (YW (Yp 8 Jh.nd (Y2 Ur (pv 8) (VD (pa2 (Y2 Xi (Yw (pa1 (Yw (pa2 Yn (Yd Yg (pv 3) YX))))) (VM Xc (Yd Yg (pv 3) YX) (VY YX) Vr)) (Y2 Xi (Yd Yg (pv 3) YX) (Yw (pa1 (Yw (pa2 Yn (Yd Yg (pv 3) YX))))))))))
   (YZ (Yf (Yw (pa3 Yn (Yd Yg (pv 3) YX) (Yd Yv (pv 8) (Yt DT hr (pa2 (pv 0) YX)) (fun _ _=>rfl)))))))) Yl)
  (YW (Yx (PW.pt (JU (Yi VB (pv 6) YX (Yq _)) (JH (Yi VB (Yd Yg (pv 3) YX) Yn (Yq _)))))
   (YW (Yp 7 Jh.nd (Yd Yv (VD (pa2 (Yd Yv (pv 4) YX) Yn)) (Yt DT hr (pa2 (pv 0) YX)) (fun _ _=>rfl)))
   (YZ (Yf (Yw (pa5 Yn (Yd Yv (VD (pa2 Yn (Yd Yg (pv 3) YX))) (Yt DT hr (pa2 (pv 0) YX)) (fun _ _=>rfl)) (pv 7) (Yd Yg (pv 3) YX) (Yd Yg (pv 3) YX)))))) Yl)
  (YW (Yp 9 Jh.nd (Yd Yv (pv 5) (Yt DT hr (pa2 (pv 0) (Y0 Yu rfl B.len Zs (pa1 (pv 5))))) (fun _ _=>rfl)))
  (YW (Yx (PW.pt (JU (Yi VB (Yd Yg (pv 3) YX) Yn (Yq _)) (JH (Yi VB (Yt DT hr (pa2 (pv 0) YX)) YX (Yq _))))) (YZ (Yf (Yw (pa3 Yn (pv 9) (Yd Yg (pv 3) YX))))) Yl)
  (YZ (Yf (Yw (pa3 Yn (pv 9) (Yd Yv (VD (pa2 (Yw (pa1 (pv 3))) (Yw VT))) (Yt DT hr (pa2 (pv 0) YX)) (fun _ _=>rfl)))))))))))))))))),?_⟩
 dsimp only[JV,Cx.nox,Cx.wish];show let a:=_;let b:=_;let c:=Yj (Y9 _ b _) a;let d:=Yj _ c;let e:=_;let f:=Yj _ e;let g:=Yj (Y9 _ f _) d;let h:=_;let i:=Yj _ h;let j:=Yj _ i;let k:=Yj (Y9 _ j _) g;let l:=_;let m:=Yj _ l;let n:=Yj (Y9 _ m _) k;let o:=_;let p:=Yj (Y9 _ o _) n;let q:=_;let r:=Yj (Y9 _ q _) p;let s:=_;let t:=Yj (Y9 _ s _) r;let u:=_;let v:=Yj (Y9 _ u _) t;let w:=_;let x:=Yj (Y9 _ w _) v;let y:=Yj _ x;let z:=Yj _ y;Yj _ z _ _ _
 intros
 obtain⟨oS,R8,s1,s2,s3⟩:=id sf;obtain⟨oA,kvA,g1,g2,g3,g4,g5⟩:=id hg;obtain⟨fs,ef,lf⟩:=keys_str g3
 have ek:(R8.map fun q=>kV q.1)=(ks.map (·.1)).map V.str:=by
  have:(R8.map fun q=>kV q.1)=(R8.map (·.1)).map kV:=by rw[List.map_map];rfl
  rw[this,s2,List.map_map,List.map_map];rfl
 refine⟨sA,R8,rfl,.inr ⟨oS,s1⟩,fun l4 hl4=>?_⟩;rw[ek];have n4:l4≠p:=st.ne hl4;refine up_in hl4 _ fun H1 e1 q4=>?_;refine⟨aA,kvA,rfl,.inr ⟨oA,e1 _ _ g1⟩,fun la hla=>?_⟩;rw[ef];refine up_in hla _ fun H2 e2 qa=>?_;refine⟨sl 1,fun lb hlb=>?_⟩;refine up_in hlb _ fun H3 e3 qb=>?_;refine⟨la,lb,_,_,rfl,rfl,e3 _ _ qa,qb,Zf (Ye (by rw[ZA];show fs.length+1<=1000;omega)),fun l5 hl5=>?_⟩;have F9:=(e1.trans e2).trans e3;have n5:l5≠p:=(st.sm F9).ne hl5;refine up_in hl5 _ fun H4 e4 q5=>?_;have T2:=F9.trans e4;have F2:=st.sm T2;refine⟨p,8,rfl,F2,by decide,by decide,fun X Hw w0 w1 bw Z=>?_⟩;have sbw:SameB p H Hw:=T2.sb.trans bw.sb;have Z9:Has Hw v b.dat:=VF (bw.sb.tk F2) _ (Bd.st _) (hv.mono T2);have F6:Hw l4=some (.lst ((ks.map (·.1)).map V.str)):=bw.sb _ _ n4 (e4 _ _ (e3 _ _ (e2 _ _ q4)));have F5:Hw l5=some (.lst (fs.map V.str++[.str "no"])):=bw.sb _ _ n5 q5;have I:∀{M:Hp}{t:Addr}{o:List V}(b':Bd),SameB p Hw M->VE M p->M t=none->Has (upd M t (.tup o)) (.ref t) b'.dat->b'.ok->b'.dep<=b.dep+1->Q (.ref t) (upd M t (.tup o)):=fun b' sx L2 Y J I7 db'=>q _ _ b' ((sbw.trans sx).trans (Yb Y _).sb) (L2.sm (Yb Y _)) J I7 db';have lk:((ks.map (·.1)).map V.str).length=ks.length:=by rw[ZA,ZA]
 obtain⟨bt,ys,rfl,hb⟩:=J7 Z9;have a0:atI (V.str b.word::ys) 0=some (.str b.word):=Y3 (j:=0) rfl;have kx:∀{M},SameB p Hw M->Has M (.ref bt) b.dat:=fun s=>VF (s.tk Z) _ (Bd.st _) Z9;clear hv T2 F9 F2 bw q4 qa qb q5;dsimp only[JG];refine VQ (fun R O=>R=[some (.ref p),some (.ref sA),some (.ref aA),some (.ref bt),some (.ref l4),some (.ref l5),some (.int X),none,none,none]/\Hw=O) ?_ fun N0 k0=>?_
 case refine_2=>
  refine⟨rfl,_,rfl,?_⟩;refine Vq (fun _=>?_) (fun _=>k0 _ _ ⟨rfl,rfl⟩);refine⟨sl 3,fun l0 U=>?_⟩;have n0:=Z.ne U;refine up_in U _ fun M sx gx=>?_;refine⟨p,3,rfl,Z.sm sx,by decide,by decide,fun r Hr r0 r1 N str=>?_⟩;obtain⟨z,ez⟩:=Uz (ys:=["NO","A","Q"]) r0 r1;exact⟨_,_,Z1 (N.sb _ _ n0 gx),ez,sl 2,fun t Y=>I (.tag z) (sx.sb.trans N.sb) str Y (by unfold Bd.dat;exact UC YY) (by unfold Bd.ok;trivial) (Za _)⟩
 rintro R O ⟨rfl,rfl⟩;refine VQ (fun R O=>R=[some (.ref p),some (.ref sA),some (.ref aA),some (.ref bt),some (.ref l4),some (.ref l5),some (.int X),none,none,none]/\Hw=O) ?_ fun N1 k1=>?_
 case refine_2=>
  refine⟨rfl,_,rfl,?_⟩;refine Vq (fun _=>?_) (fun _=>k1 _ _ ⟨rfl,rfl⟩);refine⟨sl 3,fun l0 U=>?_⟩;have n0:=Z.ne U;refine up_in U _ fun M sx gx=>?_;refine⟨p,3,rfl,Z.sm sx,by decide,by decide,fun r Hr r0 r1 N str=>?_⟩;obtain⟨z,ez⟩:=Uz (ys:=["no","a","q"]) r0 r1;exact⟨_,_,Z1 (N.sb _ _ n0 gx),ez,sl 2,fun t Y=>I (.name z) (sx.sb.trans N.sb) str Y (by unfold Bd.dat;exact UC YY) (by unfold Bd.ok;trivial) (Za _)⟩
 rintro R O ⟨rfl,rfl⟩;refine VQ (fun R O=>R=[some (.ref p),some (.ref sA),some (.ref aA),some (.ref bt),some (.ref l4),some (.ref l5),some (.int X),none,none,none]/\Hw=O) ?_ fun N2 k2=>?_
 case refine_2=>
  refine⟨rfl,_,rfl,?_⟩;refine Vq (fun _=>?_) (fun _=>k2 _ _ ⟨rfl,rfl⟩);refine⟨sl 2,fun l0 U=>?_⟩;have n0:=Z.ne U;refine up_in U _ fun M sx gx=>?_;refine⟨p,2,rfl,Z.sm sx,by decide,by decide,fun r Hr r0 r1 N str=>?_⟩;have T:=sx.sb.trans N.sb;have G1:r=0\/r=1:=by exact Q5 r1 r0
  rcases G1 with rfl|rfl
  .exact ⟨_,_,Z1 (N.sb _ _ n0 gx),rfl,sl 2,fun t Y=>I (.one b) T str Y (by unfold Bd.dat;exact Yy YY (Z2 Y5 (Z3 ((kx T).mono (Yb Y _))))) (by unfold Bd.ok;exact ok) (by show 1+b.dep<=b.dep+1;exact Pm)⟩
  .exact ⟨_,_,Z1 (N.sb _ _ n0 gx),rfl,sl 2,fun t Y=>I (.other b) T str Y (by unfold Bd.dat;exact Yy YY (Z2 Y5 (Z3 ((kx T).mono (Yb Y _))))) (by unfold Bd.ok;exact ok) (by show 1+b.dep<=b.dep+1;exact Pm)⟩
 rintro R O ⟨rfl,rfl⟩;refine VQ (fun R O=>R=[some (.ref p),some (.ref sA),some (.ref aA),some (.ref bt),some (.ref l4),some (.ref l5),some (.int X),none,none,none]/\Hw=O) ?_ fun N3 k3=>?_
 case refine_2=>
  refine⟨rfl,_,rfl,?_⟩;refine Vq (fun _=>?_) (fun _=>k3 _ _ ⟨rfl,rfl⟩);exact⟨sl 3,fun t Y=>I (.pair b b) (SameB.refl _ _) Z Y (by unfold Bd.dat;exact Yy YY (Z2 Y5 (Z2 (Z9.mono (Yb Y _)) (Z3 (Z9.mono (Yb Y _)))))) (by unfold Bd.ok;exact⟨ok,ok⟩) (by show 1+max b.dep b.dep<=b.dep+1;exact Aw)⟩
 rintro R O ⟨rfl,rfl⟩;refine VQ (fun R O=>R=[some (.ref p),some (.ref sA),some (.ref aA),some (.ref bt),some (.ref l4),some (.ref l5),some (.int X),none,none,none]/\Hw=O) ?_ fun N4 k4=>?_
 case refine_2=>
  refine⟨rfl,_,rfl,?_⟩;refine Vq (fun _=>?_) (fun _=>k4 _ _ ⟨rfl,rfl⟩);refine⟨l4,_,rfl,.inl (Z1 F6),p,_,rfl,Z,by exact Wx lk S2,by exact RU lk k6,fun r Hr r0 r1 N str=>?_⟩;rw[ZA]at r1;obtain⟨z,ez⟩:=Uz r0 r1;refine⟨_,_,Z1 (N.sb _ _ n4 F6),ez,sl 2,fun t2 R4=>?_⟩;refine up_in R4 _ fun M sx gx=>?_;have T:=N.sb.trans sx.sb;exact⟨sl 5,fun t Y=>I (.letb "q" z b (.name "q")) T (str.sm sx) Y (by unfold Bd.dat;exact Yy YY (Z2 Y5 (Z2 Y5 (Z2 Y5 (Z2 ((kx T).mono (Yb Y _)) (Z3 (by unfold Bd.dat;exact UC (Yb Y _ _ _ gx)))))))) (by unfold Bd.ok;exact⟨ok,by unfold Bd.ok;trivial⟩) (by show 1+max b.dep 0<=b.dep+1;exact Pl)⟩
 rintro R O ⟨rfl,rfl⟩;refine VQ (fun R O=>R=[some (.ref p),some (.ref sA),some (.ref aA),some (.ref bt),some (.ref l4),some (.ref l5),some (.int X),none,none,none]/\Hw=O) ?_ fun N5 k5=>?_
 case refine_2=>
  refine⟨rfl,_,rfl,?_⟩;refine Vq (fun _=>?_) (fun _=>Y1 (by simp) (k5 _ _ ⟨rfl,rfl⟩));refine⟨_,_,Z0 hb,a0,rfl,_,rfl,?_⟩;refine Vq (fun cw=>?_) (fun _=>k5 _ _ ⟨rfl,rfl⟩);have G2:V.str b.word=V.str _:=Zr cw
  cases b with
  |ask fn as=>
   obtain⟨_,ub,e,J,Z8⟩:=WL Z9;cases e
   have l3:as.length<=3:=by
    cases kd with
    |ask h1 h2 h3=>rw[h2];exact(g5 _ _ _ h1).1
   have I8:∀x∈as,x.ok/\x.dep<=Bd.deps as:=fun x L=>⟨Bd.ok_parts ok x L,Bd.deps_mem L⟩
   have R5:∀{M:Hp}{t:Addr}{u:V}{D:List Bd},SameB p Hw M->VE M p->M t=none->Has M u (.tup (D.map Bd.dat))->D.length<=4->(∀x∈D,x∈as\/x=.tag "Q")->Q (.ref t) (upd M t (.tup [.str "ask",.str fn,u])):=fun{M t u D} sx L2 Y hu lu hm=>by
    refine I (.ask fn D) sx L2 Y (by unfold Bd.dat;rw[Z7];exact Yy YY (Z2 Y5 (Z2 Y5 (Z3 (hu.mono (Yb Y _)))))) (by unfold Bd.ok;exact⟨by omega,Bd.oks_of fun x L=>(hm x L).elim (fun m=>(I8 x m).1) (fun e=>by rw[e];unfold Bd.ok;trivial)⟩) ?_;have:Bd.deps D<=Bd.deps as:=Mc fun x L=>(hm x L).elim (fun m=>(I8 x m).2) (fun e=>by rw[e];exact Za _);show 1+Bd.deps D<=1+Bd.deps as+1;omega
   rw[Z7]at Z8;refine⟨_,_,Z0 J,rfl,1,rfl,_,rfl,Xn Z8 fun u1 H1 s1 h1=>?_⟩;refine⟨_,_,Z0 (s1 _ _ J),rfl,sl 2,fun t2 R4=>?_⟩;refine up_in R4 _ fun H2 s2 q2=>?_;refine⟨sl 1,fun t3 ht3=>?_⟩;refine up_in ht3 _ fun H3 S q3=>?_;have e13:=(s1.trans s2).trans S;refine WQ (l2:=[Bd.tag "Q"]) (Z8.mono e13) (Yy q3 (Z3 (by unfold Bd.dat;exact UC (S _ _ q2)))) (by show as.length+1<=900;omega) fun u4 H4 s4 h4=>?_;have F8:=e13.trans s4;refine⟨_,_,Z0 (F8 _ _ J),rfl,1,rfl,Ds (Z8.mono F8) fun u5 H5 s5 h5=>?_⟩;have e15:=F8.trans s5;refine⟨sl 3,fun l7 hl7=>?_⟩;have n7:=(Z.sm e15).ne hl7;refine up_in hl7 _ fun H6 s6 q6=>?_;have T0:=e15.trans s6;refine⟨_,_,Z0 (T0 _ _ J),rfl,p,3,rfl,Z.sm T0,by decide,by decide,fun r Hr r0 r1 N str=>?_⟩;have T:=T0.sb.trans N.sb
   have kq:∀{u:V}{D:List Bd},Has H6 u (.tup (D.map Bd.dat))->Has Hr u (.tup (D.map Bd.dat)):=fun{u D} h=>by
    rw[<-Z7]at h |-;exact VF (N.sb.tk (Z.sm T0)) _ (by unfold Dat.st;exact Bd.sts _) h
   have e26:=((s2.trans S).trans s4).trans (s5.trans s6);have G1:r=0\/r=1\/r=2:=by exact Av r1 r0
   rcases G1 with rfl|rfl|rfl
   .exact ⟨_,_,Z1 (N.sb _ _ n7 q6),rfl,sl 3,fun t Y=>R5 T str Y (kq (h1.mono e26)) (by unfold WP;rw[ZL,List.length_drop];exact Au l3) fun x L=>.inl (Ui L)⟩
   .exact ⟨_,_,Z1 (N.sb _ _ n7 q6),rfl,sl 3,fun t Y=>R5 T str Y (kq (h4.mono (s5.trans s6))) (by rw[ZJ];show as.length+1<=4;omega) fun x L=>(ZV.mp L).imp id fun m=>ZO.mp m⟩
   .exact ⟨_,_,Z1 (N.sb _ _ n7 q6),rfl,sl 3,fun t Y=>R5 T str Y (kq (h5.mono s6)) (by rw[List.length_reverse];omega) fun x L=>.inl (List.mem_reverse.mp L)⟩
  |_=>exact Zp G2 (by dsimp only[Bd.word];intro z;injection z with z2;revert z2;decide +kernel)
 rintro R O ⟨rfl,rfl⟩;refine VQ (fun R O=>R=[some (.ref p),some (.ref sA),some (.ref aA),some (.ref bt),some (.ref l4),some (.ref l5),some (.int X),none,none,none]/\Hw=O) ?_ fun N6 k6=>?_
 case refine_2=>
  refine⟨rfl,_,rfl,?_⟩;refine Vq (fun _=>?_) (fun _=>Y1 (by simp) (k6 _ _ ⟨rfl,rfl⟩));refine⟨_,_,Z0 hb,a0,rfl,_,rfl,?_⟩;refine Vq (fun cw=>?_) (fun _=>k6 _ _ ⟨rfl,rfl⟩);have G2:V.str b.word=V.str _:=Zr cw
  cases b with
  |choose e ts bs=>
   obtain⟨_,ub,bl,ee,J,Z8,G⟩:=NM Z9;cases ee;unfold Bd.ok at ok;obtain⟨oe,lb,⟨b1,b7⟩,obs⟩:=ok
   have l4:ts.length<=4:=by
    cases kd with
    |choose h1 h2 h3 h4=>exact(kk.at h1).2.1
   rw[EQ lb]at G;have lz:(ts.zip bs).length=ts.length:=by rw[List.length_zip];exact As lb
   have I6:∀x∈ts.zip bs,x.2.ok/\x.2.dep<=Bd.deps bs:=fun x L=>by
    have m:=(List.of_mem_zip L).2;exact⟨Bd.oks_mem obs m,Bd.deps_mem m⟩
   obtain⟨_,xr,er,hbl,_⟩:=Y6 G;cases er
   have lx:xr.length=ts.length:=by
    obtain⟨_,xr',er,F1,hx'⟩:=Y6 G;cases er;rw[hbl]at F1;cases F1;rw[hx'.length,ZA,lz]
   have C:∀{M:Hp}{t:Addr}{u:V}{D:List (Str×Bd)},SameB p Hw M->VE M p->M t=none->Has M u (.tup (D.map brD))->1<=D.length->D.length<=7->(∀x∈D,x∈ts.zip bs\/x=(("NO":Str),e))->Q (.ref t) (upd M t (.tup [.str "choose",ub,u])):=fun{M t u D} sx L2 Y hu l1 l7 hm=>by
    have R3:Has M ub e.dat:=VF (sx.tk Z) _ (Bd.st _) Z8
    refine I (.choose e (D.map (·.1)) (D.map (·.2))) sx L2 Y (by unfold Bd.dat;rw[ES];exact Yy YY (Z2 Y5 (Z2 (R3.mono (Yb Y _)) (Z3 (hu.mono (Yb Y _)))))) (by unfold Bd.ok;exact⟨oe,by rw[ZA,ZA],by rw[ZA];exact⟨l1,l7⟩,Bd.oks_of fun x L=>by
     obtain⟨y,hy,rfl⟩:=ZU.mp L;exact(hm y hy).elim (fun m=>(I6 y m).1) (fun z=>by rw[z];exact oe)⟩) ?_
    have:Bd.deps (D.map (·.2))<=max e.dep (Bd.deps bs):=Mc fun x L=>by
     obtain⟨y,hy,rfl⟩:=ZU.mp L;exact(hm y hy).elim (fun m=>by have:=(I6 y m).2;omega) (fun z=>by rw[z];exact Nat.le_max_left _ _)
    show 1+max e.dep (Bd.deps (D.map (·.2)))<=1+max e.dep (Bd.deps bs)+1;omega
   refine⟨_,_,Z0 J,rfl,_,_,Z0 J,rfl,bl,_,rfl,.inr (Z0 hbl),?_⟩;dsimp only[rI0,rI,J9];refine⟨_,_,rfl,_,rfl,Xn G fun u1 H1 s1 h1=>?_⟩;refine⟨_,_,Z0 (s1 _ _ J),rfl,1,rfl,Ds (G.mono s1) fun u2 H2 s2 h2=>?_⟩;have e2:=s1.trans s2;refine⟨_,_,Z0 (e2 _ _ J),rfl,_,rfl,?_⟩;dsimp only[Rp];refine Xn (G.mono e2) fun u3 H3 S h3=>?_;have e3:=e2.trans S;refine⟨_,_,Z0 (e3 _ _ J),rfl,_,rfl,Xn (G.mono e3) fun u4 H4 s4 h4=>?_⟩;refine WQ (h3.mono s4) h4 (by have:=Uv (ts.zip bs) (some 1) none;have:=Uv (ts.zip bs) none (some 1);omega) fun u5 H5 s5 h5=>?_;have e5:=(e3.trans s4).trans s5;refine⟨_,_,Z0 (e5 _ _ J),rfl,_,_,Z0 (e5 _ _ J),rfl,_,rfl,Xn (G.mono e5) fun u6 H6 s6 h6=>?_⟩;have e6:=e5.trans s6;refine WQ (G.mono e6) h6 (by have:=Uv (ts.zip bs) none (some 1);exact Ar lz this b7) fun u7 H7 s7 h7=>?_;have e7:=e6.trans s7;refine⟨sl 4,fun l8 hl8=>?_⟩;refine up_in hl8 _ fun H8 s8 q8=>?_;have e8:=e7.trans s8;have D3:∀{M:Hp}{t2 t3:Addr}{Hy Hz:Hp},Same Hw M->Same M Hy->Hy t2=some (.tup [.str "NO",ub])->Same Hy Hz->Hz t3=some (.tup [.ref t2])->Has Hz (.ref t3) (.tup ([(("NO":Str),e)].map brD)):=fun sa sb qb sc qc=>Yy qc (Z3 (Yy (sc _ _ qb) (Z2 Y5 (Z3 (((Z8.mono sa).mono sb).mono sc)))));refine⟨_,_,Z0 (e8 _ _ J),rfl,sl 2,fun t9 ht9=>?_⟩;refine up_in ht9 _ fun H9 s9 q9=>?_;refine⟨sl 1,fun ta hta=>?_⟩;refine up_in hta _ fun Ha sa qa=>?_;have ea:=(e8.trans s9).trans sa;refine⟨_,_,Z0 (ea _ _ J),rfl,_,rfl,?_⟩;dsimp only[Rp];refine Xn (G.mono ea) fun ub' Hb sb hb2=>?_;refine WQ ((D3 e8 s9 q9 sa qa).mono sb) hb2 (by have:=Uv (ts.zip bs) (some 1) none;show 1+_<=900;exact Aq lz this b7) fun uc Hc sc hc=>?_;have ec:=(ea.trans sb).trans sc;refine⟨_,_,Z0 (ec _ _ J),rfl,_,_,Z0 (ec _ _ J),rfl,sl 2,fun td htd=>?_⟩;refine up_in htd _ fun Hd sd qd=>?_;refine⟨sl 1,fun te hte=>?_⟩;refine up_in hte _ fun He se qe=>?_;have ede:=(ec.trans sd).trans se;refine WQ (G.mono ede) (D3 ec sd qd se qe) (by show _+1<=900;exact Ap lz b7) fun uf Hf F4 hf=>?_;have ef':=ede.trans F4;refine⟨sl 2,fun lg hlg=>?_⟩;refine up_in hlg _ fun Hg sg qg=>?_;have eg:=ef'.trans sg;have e8f:=(((((((s9.trans sa).trans sb).trans sc).trans sd).trans se).trans F4).trans sg);refine⟨l8,lg,_,_,rfl,rfl,e8f _ _ q8,qg,Zf (Ye (by show 6<=1000;decide)),fun lh hlh=>?_⟩;have nh:=(Z.sm eg).ne hlh;refine up_in hlh _ fun Hh sh qh=>?_;have eh:=eg.trans sh;refine⟨_,_,Z0 (eh _ _ J),rfl,p,6,rfl,Z.sm eh,by decide,by decide,fun r Hr r0 r1 N str=>?_⟩;have T:=eh.sb.trans N.sb;have kq:∀{u:V}{D:List (Str×Bd)},Has Hh u (.tup (D.map brD))->Has Hr u (.tup (D.map brD)):=fun{u D} h=>VF (N.sb.tk (Z.sm eh)) _ (by rw[<-ES];unfold Dat.st;exact Gr (Bd.sts _)) h;have e7h:=(s8.trans e8f).trans sh;have e5h:=(s6.trans s7).trans e7h;have e2h:=((S.trans s4).trans s5).trans e5h;have ech:=(((sd.trans se).trans F4).trans sg).trans sh;have I9:=Uv (ts.zip bs) (some 1) none;have lc2:=Uv (ts.zip bs) none (some 1);have hc2:=LQ (ts.zip bs);have hc1:1<=(WP (ts.zip bs) none (some 1)).length:=EL (by exact Io lz b1) (by decide);have G1:r=0\/r=1\/r=2\/r=3\/r=4\/r=5:=by exact QE r1 r0
   have ix:=Z1 (K:=K) (N.sb _ _ nh qh);rcases G1 with rfl|rfl|rfl|rfl|rfl|rfl
   .exact ⟨_,_,ix,rfl,sl 3,fun t Y=>C T str Y (kq (h1.mono (s2.trans e2h))) (EL (by exact Io lz b1) (by split <;> omega)) (ZZ (Uv _ _ _) (by exact Pk lz b7)) fun x L=>.inl (Ui L)⟩
   .exact ⟨_,_,ix,rfl,sl 3,fun t Y=>C T str Y (kq (h2.mono e2h)) (by rw[List.length_reverse];exact Io lz b1) (by rw[List.length_reverse];exact Pk lz b7) fun x L=>.inl (List.mem_reverse.mp L)⟩
   .exact ⟨_,_,ix,rfl,sl 3,fun t Y=>C T str Y (kq (h5.mono e5h)) (by rw[ZJ];exact Pj hc1) (by rw[ZJ];exact Ao lz I9 hc2 l4) fun x L=>.inl ((ZV.mp L).elim Ui Ui)⟩
   .exact ⟨_,_,ix,rfl,sl 3,fun t Y=>C T str Y (kq (h7.mono e7h)) (by rw[ZJ];exact Pj hc1) (by rw[ZJ];exact An lz hc2 l4) fun x L=>.inl ((ZV.mp L).elim id Ui)⟩
   .exact ⟨_,_,ix,rfl,sl 3,fun t Y=>C T str Y (kq (hc.mono ech)) (by rw[ZJ];show 1<=1+_;exact RP) (by rw[ZJ];show 1+_<=7;exact Am lz I9 l4) fun x L=>(ZV.mp L).elim (fun m=>.inr (ZO.mp m)) fun m=>.inl (Ui m)⟩
   .exact ⟨_,_,ix,rfl,sl 3,fun t Y=>C T str Y (kq (hf.mono (sg.trans sh))) (by rw[ZJ];exact Al lz b1) (by rw[ZJ];show _+1<=7;exact Ak lz l4) fun x L=>(ZV.mp L).imp id fun m=>ZO.mp m⟩
  |_=>exact Zp G2 (by dsimp only[Bd.word];intro z;injection z with z2;revert z2;decide +kernel)
 rintro R O ⟨rfl,rfl⟩;refine VQ (fun R O=>R=[some (.ref p),some (.ref sA),some (.ref aA),some (.ref bt),some (.ref l4),some (.ref l5),some (.int X),none,none,none]/\Hw=O) ?_ fun N7 k7=>?_
 case refine_2=>
  refine⟨rfl,_,rfl,?_⟩;refine Vq (fun _=>?_) (fun _=>Y1 (by simp) (k7 _ _ ⟨rfl,rfl⟩));refine⟨_,_,Z0 hb,a0,rfl,_,rfl,?_⟩;refine Vq (fun cw=>?_) (fun _=>k7 _ _ ⟨rfl,rfl⟩);have G2:V.str b.word=V.str _:=Zr cw
  cases b with
  |letb x k e g=>
   obtain⟨_,u1,u2,ee,J,hu1,hu2⟩:=K9 Z9;cases ee;unfold Bd.ok at ok;obtain⟨z0,ez0⟩:=Uz (ys:=ks.map (·.1)) (r:=0) (by decide) (by rw[ZA];exact Ij S2);refine⟨_,_,Z1 F6,ez0,sl 2,fun l0 U=>?_⟩;have n0:=Z.ne U;refine up_in U _ fun H1 R1 q1=>?_;refine⟨p,2,rfl,Z.sm R1,by decide,by decide,fun r Hr r0 r1 N str=>?_⟩;have T:=R1.sb.trans N.sb;obtain⟨z,ez⟩:=Uz (ys:=[z0,"none"]) r0 r1;refine⟨_,_,Z1 (N.sb _ _ n0 q1),ez,?_⟩;have F7:=T.tk Z _ _ J;refine⟨_,_,Z0 F7,rfl,sl 2,fun l1 hl1=>?_⟩;have n1:=str.ne hl1;refine up_in hl1 _ fun H2 G3 q2=>?_;refine⟨p,2,rfl,str.sm G3,by decide,by decide,fun r' Hs R7 R6 D0 J2=>?_⟩;have ss:=(T.trans G3.sb).trans D0.sb;obtain⟨z',ez'⟩:=Uz (ys:=["q",x]) R7 R6;have hbs:=ss.tk Z _ _ J;refine⟨_,_,Z1 (D0.sb _ _ n1 q2),ez',_,_,Z0 hbs,rfl,_,_,Z0 hbs,rfl,sl 5,fun t Y=>?_⟩;exact I (.letb z' z e g) ss J2 Y (by unfold Bd.dat;exact Yy YY (Z2 Y5 (Z2 Y5 (Z2 Y5 (Z2 ((VF (ss.tk Z) _ (Bd.st _) hu1).mono (Yb Y _)) (Z3 ((VF (ss.tk Z) _ (Bd.st _) hu2).mono (Yb Y _)))))))) (by unfold Bd.ok;exact ok) (Nat.le_succ _)
  |_=>exact Zp G2 (by dsimp only[Bd.word];intro z;injection z with z2;revert z2;decide +kernel)
 rintro R O ⟨rfl,rfl⟩;have en:fs.map V.str++[V.str "no"]=(fs++[("no":Str)]).map V.str:=by rw[ZI];rfl
 rw[en]at F5;have ln:((fs++[("no":Str)]).map V.str).length=fs.length+1:=by rw[ZA,ZJ];rfl
 refine⟨l5,_,rfl,.inl (Z1 F5),p,_,rfl,Z,by exact OB ln,by omega,fun r Hr r0 r1 N str=>?_⟩;obtain⟨z,ez⟩:=Uz (ys:=fs++[("no":Str)]) r0 (by rw[ZA]at r1;exact r1);refine⟨_,_,Z1 (N.sb _ _ n5 F5),ez,?_⟩;have T:=N.sb;have F7:=T.tk Z _ _ hb;dsimp only[JG];refine VQ (fun R O=>SameB p Hw O/\VE O p/\R=[some (.ref p),some (.ref sA),some (.ref aA),some (.ref bt),some (.ref l4),some (.ref l5),some (.int X),none,none,some (.str z)]) ?_ fun N8 k8=>?_
 case refine_2=>
  refine⟨_,_,Z0 F7,a0,rfl,_,rfl,?_⟩;refine Vq (fun cw=>?_) (fun _=>Y1 (by simp) (k8 _ _ ⟨T,str,rfl⟩));refine⟨p,2,rfl,str,by decide,by decide,fun r' Hs R7 R6 D0 J2=>⟨rfl,_,rfl,?_⟩⟩;have ss:=T.trans D0.sb;refine Vq (fun _=>?_) (fun _=>k8 _ _ ⟨ss,J2,rfl⟩);have G2:V.str b.word=V.str _:=Zr cw
  cases b with
  |ask fn as=>
   obtain⟨_,ub,ee,J,Z8⟩:=WL Z9;cases ee;have R3:Has Hs ub (.tup (Bd.dats as)):=VF (ss.tk Z) _ (by unfold Dat.st;exact Bd.sts _) Z8;unfold Bd.ok at ok;exact⟨_,_,Z0 (ss.tk Z _ _ J),rfl,sl 3,fun t Y=>I (.ask z as) ss J2 Y (by unfold Bd.dat;exact Yy YY (Z2 Y5 (Z2 Y5 (Z3 (R3.mono (Yb Y _)))))) (by unfold Bd.ok;exact ok) (Nat.le_succ _)⟩
  |_=>exact Zp G2 (by dsimp only[Bd.word];intro z;injection z with z2;revert z2;decide +kernel)
 rintro R O ⟨ss,J2,rfl⟩;refine⟨sl 1,fun t1 ht1=>?_⟩;refine up_in ht1 _ fun H1 R1 q1=>?_;refine⟨sl 0,fun t2 R4=>?_⟩;refine up_in R4 _ fun H2 G3 q2=>?_;refine⟨sl 2,fun l3 hl3=>?_⟩;have I4:=(J2.sm R1).sm G3;have n3:=I4.ne hl3;refine up_in hl3 _ fun H3 S q3=>?_;refine⟨p,2,rfl,I4.sm S,by decide,by decide,fun r' Ht R7 R6 I1 I3=>?_⟩;have I5:=(R1.trans G3).trans S;have F3:=(ss.trans I5.sb).trans I1.sb;have I2:=I1.sb.tk (J2.sm I5);have G1:r'=0\/r'=1:=by exact Q5 R6 R7
 have ix:=Z1 (K:=K) (I1.sb _ _ n3 q3);rcases G1 with rfl|rfl
 .refine ⟨_,_,ix,rfl,sl 3,fun t Y=>I (.ask z [b]) F3 I3 Y ?_ (by unfold Bd.ok;exact⟨by show 1<=6;decide,by unfold Bd.oks;exact⟨ok,by unfold Bd.oks;trivial⟩⟩) (by show 1+max b.dep 0<=b.dep+1;exact Pl)⟩
  unfold Bd.dat;refine Yy YY (Z2 Y5 (Z2 Y5 (Z3 (Yy ((Yb Y _) _ _ (I2 _ _ ((G3.trans S) _ _ q1))) ?_))));unfold Bd.dats;exact Z3 ((kx F3).mono (Yb Y _))
 .refine ⟨_,_,ix,rfl,sl 3,fun t Y=>I (.ask z []) F3 I3 Y ?_ (by unfold Bd.ok;exact⟨by show 0<=6;decide,by unfold Bd.oks;trivial⟩) (by show 1+0<=b.dep+1;exact Aj)⟩
  unfold Bd.dat;refine Yy YY (Z2 Y5 (Z2 Y5 (Z3 (Yy ((Yb Y _) _ _ (I2 _ _ (S _ _ q2))) ?_))));unfold Bd.dats;exact Z4
end
section
theorem Xe:Yr ["stream","shapes","asks","body","some","place","other"] ["stream","shapes","asks","body"] (Yh TR):=Y7
def WT:Sp:=fun vs H Q _=>∃(p sA aA:Addr)(v:V)(ks:List (Str×Shp))(hd:Hds)(c d:Str->Nat)(kv:List (Key×V))(y:Str)(b:Bd),vs=[.ref p,.ref sA,.ref aA,v]/\VE H p/\SF H sA ks/\HG H aA hd/\KK 30 c d ks/\0<ks.length/\ks.length<=6/\Has H v b.dat/\b.ok/\Kd ks hd kv y b/\b.dep<=12/\b.size<=100/\
 ∀u H' b',SameB p H H'->VE H' p->Has H' u (Bd.dat b')->b'.ok->b'.dep<=12->b'.size<=40->Q u H'
theorem Bn(B:Blt mg)(F:Fun K "_law_spoilt_body" "_law_spoilt_body" TR f fd)(DT:Df P w K mg base n "_law_take" ["stream","many"] JE)(DA:Df P w K mg base n "_law_all_places" ["body"] (UG 13))(DS:Df P w K mg base n "_law_set_at" sps (XZ 14))(DN:Df P w K mg base n "_law_spoil_node" nps Gz)(DP:Df P w K mg base n "_law_part_at" ["body","place"] G0)(DF:Df P w K mg base n "_law_body_fits" ["body"] Rz):
  Yo P w K mg base CX0 (n+1) f fd nps WT:=by
 refine F.oq Xe fun R1 A Z9 s H vs Q E D h=>?_;obtain⟨p,sA,aA,v,ks,hd,c,d,kv,y,b,rfl,st,sf,hg,kk,k0,k6,hv,ok,kd,G,sz,q⟩:=h;refine⟨_,YW (Yp 4 Xe.nd (Yt DA D (pa1 (pv 3))))
  (YW (Yp 5 Xe.nd (Yd Yv (pv 4) (Yt DT D (pa2 (pv 0) (Y0 Yu rfl B.len Zs (pa1 (pv 4))))) (fun _ _=>rfl)))
  (YW (Yp 6 Xe.nd (Yt DS D (pa3 (pv 3) (pv 5) (Yt DN D (pa4 (pv 0) (pv 1) (pv 2) (Yt DP D (pa2 (pv 3) (pv 5))))))))
  (YW (Yx (V9 (Yt DF D (pa1 (pv 6)))) (YZ (Yf (pv 6))) Yl)
  (YZ (Yf (Yw (pa2 Yn Yn))))))),?_⟩
 dsimp only[JV,Cx.nox,Cx.wish];show let a:=_;let b:=_;let c:=Yj (Y9 _ b _) a;let d:=Yj _ c;let e:=Yj _ d;Yj _ e _ _ _
 intros
 have pl:=Bd.places_len 12 b G;refine⟨v,b,rfl,hv,ok,by exact Im G,by omega,by omega,fun l H1 s1 h1=>?_⟩;obtain⟨_,us,er,hl,Z⟩:=Jd h1;cases er;have lu:=Z.length;rw[ZA]at lu;have R:=st.sm s1
 have nl:l≠p:=fun e=>by
  obtain⟨_,_,_,_,z⟩:=R;rw[<-e,hl]at z;have ez:=ZP z;injection ez with N4;subst N4;obtain⟨x,r,ex,hx,_⟩:=Ym (show HasL H1 _ (UB []::(Bd.pls 0 b.parts).map UB) by rw[Bd.places_eq]at Z;exact Z);obtain⟨a,rfl,_⟩:=Gj hx;cases ex
 have N5:1<=b.size:=by rw[Bd.size_eq];exact RP
 refine⟨l,us,rfl,.inl (Z1 hl),p,_,rfl,R,by omega,by omega,fun r H2 r0 r1 b2 U=>?_⟩;obtain⟨m,xv,hm,em⟩:=Jq (xs:=us) r0 r1;obtain⟨dd,i,L2⟩:=Z.get hm;rw[ZG]at i;obtain⟨ws,N0,rfl⟩:=Zh.mp i;obtain⟨aw,rfl,N3⟩:=Gj L2;have wm:=ZH N0;have wl:=Bd.way_len 12 b G ws wm;obtain⟨dB,J⟩:=Bd.at_places 12 b G ws wm;obtain⟨J2,N6⟩:=Bd.at_ok ok J;obtain⟨G2,y',G3⟩:=kd.at_ J;have Y:=s1.sb.trans b2.sb;have O:=Y.tk st;have N:=b2.sb.tk R _ _ N3;have N1:=VF O _ (Bd.st _) hv;have fz:∀{a:Addr}{o:Obj}{u:HO}{Hx:Hp},SameB p H Hx->H a=some (.frz o u)->Hx a=some (.frz o u):=fun sx e=>sx _ _ (Vx st e) e
 have Z8:SF H2 sA ks:=by
  obtain⟨o,T,h1,h2,h3⟩:=sf;exact⟨o,T,fz Y h1,h2,fun y s hs=>let⟨v,g1,g2⟩:=h3 y s hs;⟨v,g1,VF O _ (Shp.st _) g2⟩⟩
 have N2:HG H2 aA hd:=by
  obtain⟨o,T,h1,h2,h3,h4,h5⟩:=hg;exact⟨o,T,fz Y h1,h2,h3,h4,fun f ps k e=>let⟨l,v,g1,g2⟩:=h5 f ps k e;⟨l,v,g1,VF O _ (Jw _ _) g2⟩⟩
 refine⟨_,_,Z1 (b2.sb _ _ nl hl),em,?_⟩;refine⟨v,aw,b,dB,ws,rfl,N1,ok,N,J,fun u3 H3 j h3=>?_⟩;refine⟨p,sA,aA,u3,ks,hd,c,d,G2,y',dB,rfl,U.sm j,Z8.mono j,N2.mono j,kk,k0,k6,h3,J2,G3,fun u4 H4 b' C S h4 G1 N8=>?_⟩;have M:=(Y.trans j.sb).trans C;have I:=(j.sb.trans C).tk U;refine⟨v,u4,aw,b,b',dB,ws,rfl,VF (M.tk st) _ (Bd.st _) hv,ok,I _ _ N,h4,G1,J,by omega,by omega,fun u5 H5 e s5 h5 g N7=>?_⟩;have L:=M.trans s5.sb;refine⟨u5,e,rfl,h5,g,by omega,fun k H6 X hk=>⟨_,rfl,Vq (fun ck=>?_) (fun _=>?_)⟩⟩
 .obtain ⟨z1,z2⟩:=hk ck
  exact q u5 H6 e (L.trans X.sb) ((S.sm s5).sm X) (h5.mono X) g z2 z1
 .exact ⟨sl 2,fun t ht=>q _ _ (.tag "NO") ((L.trans X.sb).trans (Yb ht _).sb) (((S.sm s5).sm X).sm (Yb ht _)) (by unfold Bd.dat;exact UC YY) (by unfold Bd.ok;trivial) (by decide) (by decide)⟩
end
end K4
namespace L2
open PySem
def U0(ks:List (Str×Shp))(ps:List (Str×Str)):List (List W):=ps.foldl (fun rows p=>rows.flatMap fun r=>(VA ks 3 p.2).map fun u=>r++[u]) [[]]
def Wd(r:List W):Dat:=.tup (r.map W.dat)
theorem Be(ks:List (Str×Shp))(ps:List (Str×Str))(p:Str×Str):U0 ks (ps++[p])=(U0 ks ps).flatMap fun r=>(VA ks 3 p.2).map fun u=>r++[u]:=by
 unfold U0;rw[List.foldl_append]
 rfl
theorem Ra{α β:Type}(f:α->List β)(k:Nat):∀l:List α,(∀a∈l,(f a).length=k)->(l.flatMap f).length=l.length*k
 |[],_=>by simp
 |a::l,h=>by
  rw[List.flatMap_cons,ZJ,h a ZY,Ra f k l (fun b Y=>h b (ZK _ Y)),Zd,Nat.succ_mul,Nat.add_comm]
theorem Uo(c:Str->Nat):∀(ps:List (Str×Str))(n:Nat),ps.foldl (fun r p=>r*c p.2) n=n*JL c ps
 |[],n=>by unfold JL;simp
 |p::ps,n=>by
  unfold JL;rw[List.foldl_cons,List.foldl_cons,Uo c ps (n*c p.2),Uo c ps (1*c p.2),Nat.one_mul,Nat.mul_assoc]
theorem TZ(h:∀p∈ps,0<c p.2)(i:Nat):JL c (ps.take i)<=JL c ps/\0<JL c ps:=by
 have Z:∀Y:List (Str×Str),(∀p∈Y,0<c p.2)->0<JL c Y:=fun Y=>by
  induction Y with
  |nil=>intro _;exact Nat.one_pos
  |cons q Y ih=>
   intro G;unfold JL;rw[List.foldl_cons,Uo,Nat.one_mul];exact Nat.mul_pos (G q ZY) (ih fun p J=>G p (ZK _ J))
 refine⟨?_,Z ps h⟩
 have e:JL c ps=JL c (ps.take i)*JL c (ps.drop i):=by
  conv=>lhs;rw[<-List.take_append_drop i ps]
  unfold JL;rw[List.foldl_append,Uo]
  rfl
 rw[e];exact Nat.le_mul_of_pos_right _ (Z _ fun p J=>h p (List.mem_of_mem_drop J))
theorem KK.c0(h:KK 30 c d ks)(Y:y∈ks.map (·.1)):(VA ks 3 y).length=c y/\0<c y:=by
 have s:=h.small Y;obtain⟨a,b,_⟩:=UY h 3 y Y (by exact oq0 s);exact⟨a,b⟩
theorem Eh(h:KK 30 c d ks)(ps:List (Str×Str))(Z:∀p∈ps,p.2∈ks.map (·.1)):(U0 ks ps).length=JL c ps:=by
 have J:∀(ps:List (Str×Str))(rows:List (List W)),(∀p∈ps,p.2∈ks.map (·.1))->(ps.foldl (fun rows p=>rows.flatMap fun r=>(VA ks 3 p.2).map fun u=>r++[u]) rows).length=ps.foldl (fun r p=>r*c p.2) rows.length:=fun ps=>by
  induction ps with
  |nil=>intro rows _;rfl
  |cons p ps ih=>
   intro rows Y;rw[List.foldl_cons,List.foldl_cons,ih _ fun q m=>Y q (ZK _ m),Ra _ (c p.2) rows fun a _=>by rw[ZA];exact(h.c0 (Y p ZY)).1]
 exact J ps [[]] Z
theorem Bf(ps:List (Str×Str)):∀r∈U0 ks ps,r.length=ps.length:=by
 have L:∀(ps:List (Str×Str))(n:Nat)(rows:List (List W)),(∀r∈rows,r.length=n)->∀r∈ps.foldl (fun rows p=>rows.flatMap fun r=>(VA ks 3 p.2).map fun u=>r++[u]) rows,r.length=n+ps.length:=fun ps=>by
  induction ps with
  |nil=>intro n rows h r Y;exact h r Y
  |cons p ps ih=>
   intro n rows h r Y
   have:=ih (n+1) _ (fun r Y=>by
    obtain⟨Z,G,J⟩:=List.mem_flatMap.mp Y;obtain⟨u,_,rfl⟩:=ZU.mp J;rw[ZJ,h Z G];rfl) r Y
   rw[this,Zd];exact oq1
 intro r Y;have:=L ps 0 [[]] (fun r Y=>by rw[ZO.mp Y];rfl) r Y;omega
theorem O9(hx:Has H x (Wd r))(Z:H b=some (.tup [wv]))(L:Has H wv u.dat)(O:r.length<=3)(q:∀v H',Same H H'->Has H' v (Wd (r++[u]))->Q v H'):
  My K x (.ref b) H Q\/Wv K x (.ref b) H Q:=by
 unfold Wd at hx q;obtain⟨a,J,rfl,M,Y⟩:=Y6 hx;have G:=Y.length;rw[ZA]at G
 cases r with
 |nil=>
  obtain rfl:=Vb Y;exact .inl ⟨a,b,[wv],rfl,rfl,Z0 M,Z0 Z,q _ _ (Z6 _) (Yy Z (Z3 L))⟩
 |cons y r=>
  refine .inr ⟨a,b,J,[wv],rfl,rfl,Z0 M,Z0 Z,(fun z=>by subst z;cases G),Zf (Ye (by simp only[List.length_singleton];omega)),(fun z=>nomatch z),fun _ p N=>?_⟩;have s:=Yb N (.tup (J++[wv]));refine q _ _ s (Yy YY ?_);rw[ZI];exact Z5 (Y.mono s) (Z3 (L.mono s))
theorem Bk{ps:List (Str×Str)}{i:Nat}(h:HasL H xs (ps.map fun p=>.tup [.str p.1,.str p.2]))(hx:xs[i]?=some x):∃p t,ps[i]?=some p/\x=.ref t/\H t=some (.tup [.str p.1,.str p.2]):=by
 obtain⟨d,Y,J⟩:=h.get hx;rw[ZG]at Y
 cases e:ps[i]? with
 |none=>rw[e]at Y;cases Y
 |some p=>
  rw[e]at Y;cases Y;obtain⟨t,rfl,Z⟩:=Jz J;exact⟨p,t,rfl,rfl,Z⟩
end L2
namespace K4
open PySem L2
section
variable{f g C CK:Addr}
def MB(CK:Addr):Sp:=fun vs H Q _=>∃(so:Addr)(ks:List (Str×Shp))(d:Str->Nat)(ps:List (Str×Str))(v:V),vs=[.ref so,v]/\KI H CK so ks d/\ks.length<=6/\Has H v (psD ps)/\ps.length<=3/\(∀p∈ps,p.2∈ks.map (·.1))/\(ps.map (·.1)).Nodup/\(∀p∈ps,WdS p.1)/\
 ∀H',Same H H'->Q (.bl true) H'
theorem GX:Yr ["kinds","parameters","seen","name","kind"] ["kinds","parameters"] (Yh Bc):=Y7
theorem Ko(B:Blt mg)(TC:KCl K CK)(F:Fun K "are_parameters" "are_parameters" Bc f fd)(hM:mg "MOST_PARAMETERS"=some u)(rM:RelV (.int 3) u)(DN:Df P w K mg base n "is_name" ["text"] (U8 97))(m2:JZ K CK "names" g)(G2:Yo P w K mg base CX0 n g gd ["self"] (Xa CK))(b2:Binds K gd ["self"] []):Yo P w K mg base CX0 (n+1) f fd ["kinds","parameters"] (MB CK):=by
 refine F.oq GX fun Z8 A S s H vs Q E X h=>?_;obtain⟨o,C,d,ps,v,rfl,ki,k6,hv,l3,pk,nd,T,q⟩:=h;have hu:=V1 X;unfold psD at hv;obtain⟨pa,xs,rfl,Y,L⟩:=Y6 hv;have lx:=L.length;rw[ZA]at lx;refine⟨_,YW (Yx (Yi XE (Y0 Yu rfl B.len Zs (pa1 (pv 1))) (Jk rfl hM rM) (Yq _)) (YZ V8) Yl)
  (YW (Yp 2 GX.nd JC)
  (YW (Vu Zt rfl (Ji (pv 1)) (Vn (n:=2) rfl (Ys (Yk 3 GX.nd) (Ys (Yk 4 GX.nd) VO)))
   (YW (Yx (PW.pt (UK (Jt (V9 (Yt DN X (pa1 (pv 3))))) (UK (Ju (XC hu (pv 3) (pv 2))) (Js (Yi Uq (pv 4) (JR (pv 0) TC.cl m2 G2 X b2 .nil VH) rfl))))) (YZ V8) Yl)
   (YZ (VW hu (pv 2) (pv 3) RO rfl))))
  (YZ (Yf RO)))),?_⟩
 dsimp only[JV,Cx.nox,Cx.wish];show let a:=_;let b:=_;let c:=_;let d:=Yj (Y9 _ c _) b;let e:=Yj (UE _ _ d) a;let f:=Yj _ e;let g:=_;Yj (Y9 _ g _) f _ _ _
 intros
 refine⟨pa,_,rfl,.inr (Z0 Y),_,rfl,Y1 (by simp;omega) ?_⟩;intro D M;refine up_in M _ fun H1 s1 g1=>?_;refine⟨⟨_,Z0 (s1 _ _ Y)⟩,?_⟩
 let I:Nat->St->Hp->Prop:=fun i U Z=>Same H Z/\∃J r m,Z D=some (.dK J)/\J.map (·.1)=(ps.take i).map (fun p=>(Sum.inr p.1:Key))/\U=[some (.ref o),some (.ref pa),some (.ref D),r,m]
 refine X2 (xs:=xs) I ⟨s1,[],_,_,g1,rfl,rfl⟩ (fun i U Z _ z=>Z0 (z.1 _ _ Y)) ?_ ?_
 .rintro BB RR i x U Z hx ⟨si,J,r,m,hk,ek,rfl⟩
  obtain⟨p,t,R,rfl,ht⟩:=Bk L hx;have N:=ZH R;have i3:=(ZE.mp R).1;obtain⟨w1,w2,w3⟩:=T p N
  have nk:Y8 J (Sum.inr p.1)=none:=XU (by
   rw[ek];intro z;obtain⟨q1,j,y⟩:=ZU.mp z;exact Xk nd (show(ps.map (·.1))[i]?=some p.1 by rw[ZG,R];rfl) (by rw[<-List.map_take];exact ZU.mpr ⟨q1,j,Sum.inr.inj y⟩))
  refine⟨_,Z0 (si _ _ ht),rfl,?_⟩;refine⟨p.1,rfl,w1,w2,w3,fun H2 O=>⟨_,rfl,Y1 (by simp) ?_⟩⟩;refine⟨_,(show VP H2 D (.str p.1) none by rw[<-nk];exact VP.k (k:=Sum.inr p.1) (O _ _ hk)),_,rfl,Y1 (by simp) ?_⟩;have G:=ki.mono (si.trans O);obtain⟨AK,SK,y,kd,kr⟩:=id G;refine⟨_,_,by rw[<-y];exact kd.ins,rfl,o,C,d,rfl,G,fun l H3 s3 hl g3=>?_⟩;have el:(C.map fun k=>V.str k.1)=(C.map (·.1)).map V.str:=by rw[List.map_map];rfl
  rw[el]at g3;refine⟨l,_,rfl,.inl (Z1 g3),rfl,Uh _,_,rfl,Y1 ?_ ?_⟩
  .rw [XI]
   simp only[if_true,Bool.not_eq_true',decide_eq_false_iff_not,Classical.not_not];exact pk p N
  have lk:J.length<=3:=by
   have:=congrArg List.length ek;rw[ZA,ZA,ZL]at this;exact oq5 this l3
  refine⟨_,Ja.k (k:=Sum.inr p.1) (s3 _ _ (O _ _ hk)) (Ye (by omega)),?_⟩;refine⟨((si.trans O).trans s3).putN M,_,_,_,YY,?_,rfl⟩;rw[Ua _ nk,ZI,ek,take_snoc R,ZI]
  rfl
 .rintro U Z ⟨si,_⟩
  exact q Z si
def Xv(CK:Addr):Sp:=fun vs H Q _=>∃(so:Addr)(ks:List (Str×Shp))(c d:Str->Nat)(ps:List (Str×Str))(v:V),vs=[.ref so,v]/\KI H CK so ks d/\KK 30 c d ks/\Has H v (psD ps)/\(∀p∈ps,p.2∈ks.map (·.1))/\JL c ps<=1000/\
 ∀H',Same H H'->Q (.int (JL c ps:Nat)) H'
theorem UI:Yr ["kinds","parameters","count","name","kind"] ["kinds","parameters"] (Yh Wc):=Y7
theorem NB(B:Blt mg)(TC:KCl K CK)(F:Fun K "row_count" "row_count" Wc f fd)(u:JZ K CK "worths_of" g)(G2:Yo P w K mg base CX0 n g gd ["self","kind"] (UF CK))(b2:Binds K gd ["self","kind"] []):Yo P w K mg base CX0 (n+1) f fd ["kinds","parameters"] (Xv CK):=by
 refine F.oq UI fun Z8 A O s H vs Q E hr h=>?_;obtain⟨R,r,c,d,ps,v,rfl,o,C,X,T,top,q⟩:=h;unfold psD at X;obtain⟨k,xs,rfl,J,Z⟩:=Y6 X;have S:=Z.length;rw[ZA]at S;refine⟨_,YW (Yp 2 UI.nd YX)
  (YW (Vu Zt rfl (Ji (pv 1)) (Vn (n:=2) rfl (Ys (Yk 3 UI.nd) (Ys (Yk 4 UI.nd) VO)))
   (YZ (IT (i:=2) UI.nd rfl (Or.inl rfl) (Y0 Yu rfl B.len Zs (pa1 (JM (pv 0) TC.cl u G2 hr b2 .nil VH (pa1 (pv 4))))) Os)))
  (YZ (Yf (pv 2)))),?_⟩
 dsimp only[JV,Cx.nox,Cx.wish];show let a:=_;let b:=_;let c:=Yj (UE _ _ b) a;Yj _ c _ _ _
 intros
 refine LT ?_;refine⟨⟨_,Z0 J⟩,?_⟩
 let I:Nat->St->Hp->Prop:=fun i U G=>Same H G/\∃N M,U=[some (.ref R),some (.ref k),some (.int (JL c (ps.take i):Nat)),N,M]
 refine X2 (xs:=xs) I ⟨Z6 _,_,_,rfl⟩ (fun i U G _ z=>Z0 (z.1 _ _ J)) ?_ ?_
 .rintro BB RR i x U G hx ⟨si,N,M,rfl⟩
  obtain⟨p,t,L,rfl,ht⟩:=Bk Z hx;have j:=T p (ZH L);refine⟨_,Z0 (si _ _ ht),rfl,?_⟩;have Y:=o.mono si;obtain⟨AK,SK,e1,kd,kr⟩:=id Y;refine⟨_,rfl,_,_,by rw[<-e1];exact kd.ins,rfl,R,r,d,p.2,rfl,Y,j,fun l y H3 m hl g3 hy=>?_⟩;have D:=hy.length;obtain⟨c1,c2⟩:=C.c0 j;rw[ZA,c1]at D;have le:=(TZ (c:=c) (ps:=ps) (fun p L=>(C.c0 (T p L)).2) i).1;refine⟨l,_,rfl,.inl (Z1 g3),.inl ⟨by exact oq7,by omega⟩,?_⟩;have e:((JL c (ps.take i):Nat):Int)*((y.length:Nat):Int)=((JL c (ps.take (i+1)):Nat):Int):=by rw[take_snoc L,Xw,D,Int.natCast_mul]
  exact⟨si.trans m,some (.str p.1),some (.str p.2),by rw[<-e];rfl⟩
 .rintro U G ⟨si,N,M,rfl⟩
  rw[Ze (by exact oq9 S)];exact q G si
def Xu(CK:Addr):Sp:=fun vs H Q _=>∃(so:Addr)(ks:List (Str×Shp))(c d:Str->Nat)(ps:List (Str×Str))(v:V),vs=[.ref so,v]/\KI H CK so ks d/\KK 30 c d ks/\Has H v (psD ps)/\(∀p∈ps,p.2∈ks.map (·.1))/\ps.length<=3/\JL c ps<=1000/\
 ∀l xs H',Same H H'->H l=none->H' l=some (.lst xs)->HasL H' xs ((U0 ks ps).map Wd)->Q (.ref l) H'
theorem UH:Yr ["kinds","parameters","rows","name","kind"] ["kinds","parameters"] (Yh Wb):=Y7
theorem QN:List.Nodup [("row":Str),"worth","kinds","kind"]:=by decide +kernel
theorem NA(B:Blt mg)(TC:KCl K CK)(F:Fun K "rows_over" "rows_over" Wb f fd)(m2:JZ K CK "worths_of" g)(G2:Yo P w K mg base CX0 n g gd ["self","kind"] (UF CK))(b2:Binds K gd ["self","kind"] []):Yo P w K mg base CX0 (n+1) f fd ["kinds","parameters"] (Xu CK):=by
 refine F.oq UH fun N5 A N0 s H vs Q E hr h=>?_;obtain⟨so,ks,c,d,ps,v,rfl,ki,kk,hv,pk,l3,top,q⟩:=h;unfold psD at hv;obtain⟨pa,xs,rfl,G1,J2⟩:=Y6 hv;have lx:=J2.length;rw[ZA]at lx;refine⟨_,YW (Yp 2 UH.nd (VD (pa1 (Yw VT))))
  (YW (Vu Zt rfl (Ji (pv 1)) (Vn (n:=2) rfl (Ys (Yk 3 UH.nd) (Ys (Yk 4 UH.nd rfl (Or.inr rfl)) VO)))
   (YZ (L3 (i0:=2) (wi2:=K3 K (Fd CK "worths_of" (UF CK) [] E (Nk 2) (JI (Nk 3) Gv))) [0,4] UH.nd rfl (Or.inl rfl) (V5 (pv 2))
    (fun cl C fp s H=>Yk 0 QN rfl (Or.inl rfl) (Or.inr rfl)) (fun cl C fp s H=>V5 (JM (pv 2) TC.cl m2 G2 hr b2 .nil VH (pa1 (pv 3)))) (fun cl C fp s H=>Yk 1 QN rfl (Or.inl rfl) (Or.inr rfl))
    (fun cl C fp s H=>Y2 (r:=fun x y H Q=>My K x y H Q\/Wv K x y H Q) Xi (pv 0) (Yw (pa1 (pv 1)))))))
  (YZ (Yf (pv 2)))),?_⟩
 dsimp only[JV,Cx.nox,Cx.wish];show let a:=_;let b:=_;let c:=Yj (UE _ _ b) a;Yj _ c _ _ _
 intros
 refine⟨sl 0,fun t0 N1=>⟨sl 1,fun l0 S=>?_⟩⟩;have s1:=Yb N1 (.tup []);have g1:upd H t0 (.tup []) t0=some (.tup []):=YY;generalize upd H t0 (.tup [])=H1 at s1 g1 S |-;refine up_in S _ fun H2 s2 g2=>?_;have Z8:=s1.trans s2;refine⟨⟨_,Z0 (Z8 _ _ G1)⟩,?_⟩;refine X2 (xs:=xs) (fun i U O=>Same H O/\∃l J z3 k,H l=none/\O l=some (.lst J)/\HasL O J ((U0 ks (ps.take i)).map Wd)/\U=[some (.ref so),some (.ref pa),some (.ref l),z3,k]) ⟨Z8,l0,_,_,_,s1.free S,g2,Z3 (Yy (s2 _ _ g1) Z4),rfl⟩ (fun i U O _ z=>Z0 (z.1 _ _ G1)) ?_ ?_
 .rintro BB RR i x U O hx ⟨si,l,J,z3,k,fl,hl,hy,rfl⟩
  obtain⟨p,t,N,rfl,ht⟩:=Bk J2 hx;have hk:=pk p (ZH N);obtain⟨c1,c2⟩:=kk.c0 hk;have i3:=(ZE.mp N).1;have lR:=Eh kk (ps.take i) fun p N=>pk p (Zi N);have rl:=Bf (ks:=ks) (ps.take i);have le:=(TZ (c:=c) (ps:=ps) (fun p N=>(kk.c0 (pk p N)).2) (i+1)).1;have eR:U0 ks (ps.take (i+1))=(U0 ks (ps.take i)).flatMap fun r=>(VA ks 3 p.2).map fun u=>r++[u]:=by rw[take_snoc N,Be]
  rw[take_snoc N,Xw,<-lR,<-c1]at le;rw[eR];have ly:=hy.length;rw[ZA]at ly;rw[ZL]at rl;generalize U0 ks (ps.take i)=R at lR rl le hy ly |-;generalize hus:VA ks 3 p.2=us at le |-;refine⟨_,Z0 (si _ _ ht),rfl,?_⟩;refine⟨⟨J,Z1 hl⟩,?_⟩;refine Tz J.length (fun Z M m=>Same O m/\M.length=Z*us.length/\Z<=R.length/\HasL m M (((R.take Z).flatMap fun r=>us.map fun u=>r++[u]).map Wd)) ⟨Z6 _,by simp,Za _,by rw[List.take_zero];exact Z4⟩
   (fun Z M m z=>Ye (by rw[z.2.1];have:Z*us.length<=R.length*us.length:=Nat.mul_le_mul_right _ z.2.2.1;omega)) ?_ ?_ ?_ ?_
  .intro Z M m hi z
   exact⟨J,J[Z],Z1 (z.1 _ _ hl),by simp[hi]⟩
  .intro M m z
   exact⟨J,Z1 (z.1 _ _ hl),ZF _⟩
  .intro Z M m x H'' RR' hi z yl hR
   obtain⟨rfl,yy⟩:=yl;obtain⟨dx,L,N3⟩:=hy.get (yy J (Z1 (z.1 _ _ hl)));rw[ZG]at L
   cases hr1:R[Z]? with
   |none=>rw[hr1]at L;cases L
   |some r=>
    rw[hr1]at L;cases L;have ri:=rl r (ZH hr1);have Z9:=ki.mono (si.trans z.1);obtain⟨AK,SK,e1,kd,kr⟩:=id Z9;refine⟨_,_,by rw[<-e1];exact kd.ins,rfl,so,ks,d,p.2,rfl,Z9,hk,fun lw T H3 e N4 gw hw=>⟨⟨T,Z1 gw⟩,?_⟩⟩;rw[hus]at hw;have I:=hw.length;rw[ZA]at I;have G3:=(N3.mono z.1).mono e;refine NJ T.length (fun j D X=>Same H3 X/\D.length=Z*us.length+j/\j<=us.length/\HasL X D (((R.take Z).flatMap fun r=>us.map fun u=>r++[u]).map Wd++ ((us.take j).map fun u=>r++[u]).map Wd)) ⟨Z6 _,by rw[z.2.1];rfl,Za _,by rw[List.take_zero,List.map_nil,List.map_nil,List.append_nil];exact z.2.2.2.mono e⟩
     (fun j D X Y=>Ye (by
      rw[Y.2.1];have:(Z+1)*us.length<=R.length*us.length:=Nat.mul_le_mul_right _ (by exact zA hi ly);rw[Nat.succ_mul]at this;have:=Y.2.2.1;omega)) ?_ ?_ ?_ ?_
    .intro j D X hj Y
     exact⟨T,T[j],Z1 (Y.1 _ _ gw),by simp[hj]⟩
    .intro D X Y
     exact⟨T,Z1 (Y.1 _ _ gw),ZF _⟩
    .intro j D X x2 H5 T2 hj Y yl2 hT
     obtain⟨rfl,L2⟩:=yl2;obtain⟨dz,G,N2⟩:=hw.get (L2 T (Z1 (Y.1 _ _ gw)));rw[ZG]at G
     cases hv1:us[j]? with
     |none=>rw[hv1]at G;cases G
     |some v=>
      rw[hv1]at G;cases G;refine⟨sl 1,fun b hb=>?_⟩;have sb:=Yb hb (.tup [x2]);have gb:upd H5 b (.tup [x2]) b=some (.tup [x2]):=YY;refine O9 ((G3.mono Y.1).mono sb) gb ((N2.mono Y.1).mono sb) (by exact oq5 ri l3) fun v' H6 s6 h6=>hT _ _ ?_;have o:=sb.trans s6;refine⟨Y.1.trans o,by rw[ZJ,Y.2.1];rfl,(ZE.mp hv1).1,?_⟩;rw[take_snoc hv1,ZI,ZI,<-List.append_assoc];exact Z5 (Y.2.2.2.mono o) (Z3 h6)
    .intro D X Y
     refine hR _ _ ⟨z.1.trans (e.trans Y.1),by rw[Y.2.1,I,Nat.succ_mul],(ZE.mp hr1).1,?_⟩;have y4:=Y.2.2.2;rw[show us.take T.length=us from Ze (by exact oq9 I)]at y4;rw[take_snoc hr1,List.flatMap_append,ZI];simp only[List.flatMap_cons,List.flatMap_nil,List.append_nil];exact y4
  .intro M m p3 z hp3
   have e:=Yb hp3 (.lst M);have k:=z.2.2.2;rw[Ze (by exact oq9 ly)]at k;exact⟨si.trans (z.1.trans e),p3,M,_,_,(si.trans z.1).free hp3,YY,k.mono e,rfl⟩
 .rintro U O ⟨si,l,J,z3,k,fl,hl,hy,rfl⟩
  rw[Ze (by exact oq9 lx)]at hy;exact q l J O si fl hl hy
end
end K4
namespace L2
open PySem
def WF(H:Hp)(x:Addr):Hp:=fun b=>if b=x then none else H b
structure BB(Hm H:Hp)(C CK:Addr)(A:BA)(ks:List (Str×Shp))(d:Str->Nat):Prop where
 ins:H A.t=some (.ins C A.dx (XR A))
 sm:Same Hm H
 so:KI Hm CK A.so ks d
 nd:Hm A.td=none
 nr:Hm A.rd=none
 ne:A.td≠A.rd
 n1:A.t≠A.td
 n2:A.t≠A.rd
theorem BB.same(b:BB Hm H C CK A ks d)(s:Same H H'):BB Hm H' C CK A ks d:=⟨s _ _ b.ins,b.sm.trans s,b.so,b.nd,b.nr,b.ne,b.n1,b.n2⟩
theorem BB.td(b:BB Hm H C CK A ks d)(o:HO):BB Hm (upd H A.td o) C CK A ks d:=⟨by rw[Ya b.n1];exact b.ins,b.sm.putN b.nd,b.so,b.nd,b.nr,b.ne,b.n1,b.n2⟩
theorem BB.rd(b:BB Hm H C CK A ks d)(o:HO):BB Hm (upd H A.rd o) C CK A ks d:=⟨by rw[Ya b.n2];exact b.ins,b.sm.putN b.nr,b.so,b.nd,b.nr,b.ne,b.n1,b.n2⟩
structure BT(H:Hp)(A:BA)(kv rv:List (Key×V))(ks:List (Str×Shp))(ds:List Dd):Prop where
 td:H A.td=some (.dK kv)
 rd:H A.rd=some (.dK rv)
 ke:kv.map (·.1)=ds.map (fun x=>(Sum.inr x.1.1:Key))
 va:HasL H (kv.map (·.2)) (ds.map U6)
 ro:∀x∈ds,∃l xs,Y8 rv (Sum.inr x.1.1)=some (.ref l)/\H l=some (.lst xs)/\HasL H xs ((U0 ks x.1.2.1).map Wd)
 ln:rv.length<=ds.length
theorem BT.same(b:BT H A kv rv ks ds)(s:Same H H'):BT H' A kv rv ks ds:=
 ⟨s _ _ b.td,s _ _ b.rd,b.ke,b.va.mono s,fun x Z=>let⟨l,Y,L,G,J⟩:=b.ro x Z;⟨l,Y,L,s _ _ G,J.mono s⟩,b.ln⟩
theorem Gm(e:TK H H'):∀(u:W){v:V},Has H v u.dat->Has H' v u.dat
 |.non,_,h=>by unfold W.dat Has at h |-;exact h
 |.tag _,_,h=>by unfold W.dat Has at h |-;exact h
 |.pair a b,_,h=>by
  obtain⟨p,L,G,rfl,Y,J,Z⟩:=K8 h;unfold W.dat Has;exact⟨p,_,rfl,e _ _ Y,Z2 (Gm e a J) (Z3 (Gm e b Z))⟩
theorem Gn{α:Type}{D:α->Dat}(e:∀u {v:V},Has H v (D u)->Has H' v (D u)):∀{us:List α}{xs:List V},HasL H xs (us.map D)->HasL H' xs (us.map D)
 |[],[],_=>Z4
 |[],_::_,h=>by rw[List.map_nil]at h;unfold HasL at h;exact h.elim
 |_::_,[],h=>by rw[ZT]at h;unfold HasL at h;exact h.elim
 |u::us,x::xs,h=>by
  rw[ZT]at h |-;unfold HasL at h;exact Z2 (e u h.1) (Gn e h.2)
theorem ED(e:TK H H'){Y:List (List W)}(h:HasL H xs (Y.map Wd)):HasL H' xs (Y.map Wd):=Gn (fun u v Z=>by
 unfold Wd Has at Z |-;obtain⟨a,J,M,L,G⟩:=Z;exact⟨a,J,M,e _ _ L,Gn (fun u {v}=>Gm e u) G⟩) h
theorem Mr(x:Dd):(U6 x).st=true:=by
 unfold U6 psD;simp[Dat.st,Dat.sts,WC,Bd.st]
theorem Gu:∀ds:List Dd,Dat.sts (ds.map U6)=true
 |[]=>by unfold List.map Dat.sts;rfl
 |x::ds=>by rw[ZT];unfold Dat.sts;rw[Gu ds,Mr];rfl
theorem Mb(h:Has H v (W6 x)):∃a u w,v=.ref a/\H a=some (.tup [.str x.1.1,u,.str x.1.2.2,w])/\Has H u (psD x.1.2.1)/\Has H w x.2.dat:=by
 unfold W6 at h;obtain⟨t,E,rfl,N,O⟩:=Y6 h;obtain⟨A,C,rfl,D,G⟩:=Ym O;obtain⟨M,U,rfl,B,J⟩:=Ym G;obtain⟨F,S,rfl,T,Z⟩:=Ym J;obtain⟨L,I,rfl,R,Y⟩:=Ym Z;obtain rfl:=Vb Y;obtain rfl:=has_str D;obtain rfl:=has_str T;exact⟨t,M,L,rfl,N,B,R⟩
theorem yY(A:BA):(XR A).lookup ("is_head":Str)=none:=rfl
theorem yW(A:BA):(XR A).lookup ("rows":Str)=some (V.ref A.rd):=rfl
theorem Dv(Y:X.calm=true)(L:PG X (.Name x1 p1) t1)(G:PG X (.Name x2 p2) t2)(J:PG X (.Name x3 p3) t3)(Z:PG X (.Name x4 p4) t4):
  PG X (.Tuple [.Name x1 p1,.Name x2 p2,.Name x3 p3,.Name x4 p4] k pos) (Ox X.K 4 (XM t1 (XM t2 (XM t3 (XM t4 Bz))))):=
 Vn (n:=4) Y (Ys L (Ys G (Ys J (Ys Z VO))))
theorem BT.put(b:BT H0 A kv rv ks ds)(E:A.td≠A.rd)(nx:x.1.1∉ds.map fun y=>y.1.1)(M:H2=upd H0 A.td (.dK (putK kv (Sum.inr x.1.1) v)))(q:Has H0 v (U6 x))(s:Same H2 Hb)(F:Hb l=some (.lst xs))(hx:HasL Hb xs ((U0 ks x.1.2.1).map Wd))(G:H4=upd Hb A.rd (.dK (putK rv (Sum.inr x.1.1) (.ref l)))):
  BT H4 A (putK kv (Sum.inr x.1.1) v) (putK rv (Sum.inr x.1.1) (.ref l)) ks (ds++[x]):=by
 have D:Y8 kv (Sum.inr x.1.1)=none:=XU (by
  rw[b.ke];intro z;obtain⟨S,B,k⟩:=ZU.mp z;exact nx (ZU.mpr ⟨S,B,Sum.inr.inj k⟩))
 have T:H2 A.td=some (.dK (putK kv (Sum.inr x.1.1) v)):=by rw[M];exact YY
 have Y:Hb A.rd=some (.dK rv):=s _ _ (by rw[M,Ya (Zq E)];exact b.rd);have O:TK H0 H2:=by rw[M];exact Ni b.td fun I z=>nomatch z
 have J:TK Hb H4:=by rw[G];exact Ni Y fun I z=>nomatch z
 have R:TK H0 H4:=fun b Z h=>J _ _ (s _ _ (O _ _ h))
 have X:∀b Z,H0 b=some (.lst Z)->H4 b=some (.lst Z):=fun c Z h=>by
  have C:c≠A.td:=Vv h b.td (by intro z;cases z);have L:Hb c=some (.lst Z):=s _ _ (by rw[M,Ya C];exact h);have U:c≠A.rd:=Vv L Y (by intro z;cases z);rw[G,Ya U];exact L
 have P:H4 l=some (.lst xs):=by
  rw[G,Ya (Vv F Y (by intro z;cases z))];exact F
 refine⟨by rw[G,Ya E];exact s _ _ T,by rw[G];exact YY,by rw[Ua _ D,ZI,b.ke,ZI];rfl,?_,fun y j=>?_,?_⟩
 .rw [Ua _ D,ZI,ZI]
  exact Z5 (VG R _ (Gu ds) b.va) (Z3 (VF R _ (Mr x) q))
 .rw [Jg]
  rcases ZV.mp j with m|m
  .have ny:¬(Sum.inr y.1.1:Key)=Sum.inr x.1.1:=fun z=>nx (ZU.mpr ⟨y,m,Sum.inr.inj z⟩)
   rw[Zo ny];obtain⟨Q,N,g,L,t⟩:=b.ro y m;exact⟨Q,N,g,X _ _ L,ED R t⟩
  .cases ZO.mp m
   rw[Zn rfl];exact⟨l,xs,rfl,P,ED J hx⟩
 .have:=WB rv (Sum.inr x.1.1) (.ref l)
  have:=b.ln;rw[ZJ,List.length_singleton];omega
end L2
namespace K4
open PySem L2
section
variable{f g C CK:Addr}
def MA(C CK:Addr):Sp:=fun vs H Q _=>∃(A:BA)(kv:List (Key×V))(ks:List (Str×Shp))(d:Str->Nat)(y k:Str)(ps:List (Str×Str))(v:V),vs=[.ref A.t,.str y,v,.str k]/\H A.t=some (.ins C A.dx (XR A))/\H A.td=some (.dK kv)/\KI H CK A.so ks d/\ks.length<=6/\Y8 kv (Sum.inr y)=none/\WdS y/\
 Has H v (psD ps)/\ps.length<=3/\(∀p∈ps,p.2∈ks.map (·.1))/\(ps.map (·.1)).Nodup/\(∀p∈ps,WdS p.1)/\k∈ks.map (·.1)/\∀H',Same H H'->Q (.bl true) H'
theorem Lx:Yr ["self","name","parameters","kind"] ["self","name","parameters","kind"] (Yh Bb):=Y7
theorem Kn(J:BCl K C)(TC:KCl K CK)(F:Fun K "is_head" "Book.is_head" Bb f fd)(DN:Df P w K mg base n "is_name" ["text"] (U8 97))(DA:Df P w K mg base n "are_parameters" ["kinds","parameters"] (MB CK))(c:JZ K CK "names" g)(G2:Yo P w K mg base CX0 n g gd ["self"] (Xa CK))(b2:Binds K gd ["self"] []):Yo P w K mg base CX0 (n+1) f fd ["self","name","parameters","kind"] (MA C CK):=by
 refine F.oq Lx fun Z8 A O s H vs Q E M h=>?_;obtain⟨T,kv,G,d,y,k,z,v,rfl,R,a,B,b,m,⟨U,S,I⟩,o,u,t,p,N,x,q⟩:=h;have i:=V1 M;refine⟨_,YW (Yx (PW.pt (UK (Jt (V9 (Yt DN M (pa1 (pv 1))))) (Js (Ju (XC i (pv 1) (VI (pv 0) rfl)))))) (YZ V8) Yl)
  (YZ (Yf (UV (Yt DA M (pa2 (VI (pv 0) rfl) (pv 2))) (Up (Vs Wf (pv 3) (JR (VI (pv 0) rfl) TC.cl c G2 M b2 .nil VH) rfl))))),?_⟩
 dsimp only[JV,Cx.nox,Cx.wish];refine⟨y,rfl,U,S,I,fun H1 Z=>⟨_,rfl,Y1 (by simp) ?_⟩⟩;refine⟨C,_,_,_,Z _ _ R,J.cl,J.td,FE _,_,(show VP H1 T.td (.str y) none by rw[<-m];exact VP.k (k:=Sum.inr y) (Z _ _ a)),_,rfl,Y1 (by simp) ?_⟩;refine⟨C,_,_,_,Z _ _ R,J.cl,J.so,LE _,T.so,G,d,z,v,rfl,B.mono Z,b,o.mono Z,u,t,p,N,fun H2 j=>⟨true,rfl,VJ rfl ?_⟩⟩;have Y:=Z.trans j;have L:=B.mono Y;obtain⟨AK,SK,e1,r,kr⟩:=id L;refine⟨C,_,_,_,Y _ _ R,J.cl,J.so,LE _,_,_,by rw[<-e1];exact r.ins,rfl,T.so,G,d,rfl,L,fun l H3 X hl D=>?_⟩;have el:(G.map fun k=>V.str k.1)=(G.map (·.1)).map V.str:=by rw[List.map_map];rfl
 rw[el]at D;refine⟨l,_,rfl,.inl (Z1 D),rfl,Uh _,?_⟩;rw[XI];have e:decide (k∈G.map (·.1))=true:=decide_eq_true x;dsimp only[rI0,rI,J9];rw[e];exact q H3 (Y.trans X)
end
end K4
namespace L2
open PySem
theorem HL.hg(h:HL H kvs hs)(e:H a=some (.frz o (.dK kvs)))(G:(hs.map (·.1)).Nodup)(R:hs.length<=8)(O:∀g∈hs,g.2.1.length<=3):HG H a (Vh hs):=by
 have M:=h.len;refine⟨o,kvs,e,by exact Ac M R,fun q B=>?_,fun f L=>?_,fun f F k L=>?_⟩
 .obtain ⟨i,Y⟩:=List.mem_iff_getElem?.mp B
  obtain⟨g,_,J,_⟩:=h.at G Y;exact⟨g.1,J⟩
 .refine XU ?_
  rw[h.1];intro z;obtain⟨g,D,J⟩:=ZU.mp z;have Z:=XJ G D;rw[Sum.inr.inj J,L]at Z;cases Z
 .have m:=Gi L
  refine⟨O _ m,?_⟩;obtain⟨i,Y⟩:=List.mem_iff_getElem?.mp m;have T:i<kvs.length:=by have:=(ZE.mp Y).1;exact W3 this M
  obtain⟨g,N,J,Z,E⟩:=h.at G (ZC T);rw[Y]at N;cases N;exact⟨_,E,Z⟩
end L2
namespace K4
open PySem L2
section
theorem JT:Yr ["stream","kinds","definitions","asks","name","parameters","kind","body","around","world"] ["stream","kinds","definitions"] (Yh BV):=Y7
abbrev dps:List Str:=["stream","kinds","definitions"]
def R0:Sp:=fun vs H Q _=>∃(p kl dl:Addr)(xs zs:List V)(ks:List (Str×Shp))(c d:Str->Nat)(ds:List Dd),vs=[.ref p,.ref kl,.ref dl]/\VE H p/\kl≠p/\dl≠p/\H kl=some (.lst xs)/\HasL H xs (ks.map Jf)/\KK 30 c d ks/\(ks.map (·.1)).Nodup/\0<ks.length/\ks.length<=6/\H dl=some (.lst zs)/\HasL H zs (ds.map W6)/\ds.length<=8/\((ds.map (·.1)).map (·.1)).Nodup/\(∀g∈ds.map (·.1),g.2.1.length<=3/\(∀q∈g.2.1,q.2∈ks.map (·.1))/\g.2.2∈ks.map (·.1))/\
 ∀r aA a v b kv o H',SameB p H H'->VE H' p->H' r=some (.tup [.ref aA,.ref a,v])->HG H' aA (Vh (ds.map (·.1)))->H' a=some (.frz o (.dK kv))->NK (ks.map (·.1)) kv->kv.length<=4->Has H' v (Bd.dat b)->b.ok->b.dep<=12->b.size<=100->Q (.ref r) H'
theorem Kj(B:Blt mg)(F:Fun K "_law_drawn" "_law_drawn" BV f fd)(DT:Df P w K mg base n "_law_take" ["stream","many"] JE)(DS:Df P w K mg base n "_law_small" ["stream","many"] XX)(DB:Df P w K mg base n "_law_body" gps (spG 9))(DP:Df P w K mg base n "_law_plain" ["stream","world","around","kind"] (Jc 3))(DF:Df P w K mg base n "_law_body_fits" ["body"] Rz)(DX:Df P w K mg base n "_law_spoilt_body" nps WT):
  Yo P w K mg base CX0 (n+1) f fd dps R0:=by
 refine F.oq JT fun cdv A outer s H vs Q E hr h=>?_;obtain⟨p,kl,dl,xs,zs,ks,c,d,ds,rfl,st,X,ndp,N4,T2,kk,nd,k0,k6,hdl,hzs,d8,R6,D3,q⟩:=h;have hu:=V1 hr;refine⟨_,YW (Yp 3 JT.nd JC)
  (YW (Vu Zt rfl (V5 (pv 2)) (Dv rfl (Yk 4 JT.nd) (Yk 5 JT.nd) (Yk 6 JT.nd) (Yk 7 JT.nd))
   (YZ (VW hu (pv 3) (pv 4) (Yw (pa2 (pv 5) (pv 6))) rfl)))
  (YW (We (Yp 8 JT.nd JC))
  (YW (Vu Zt rfl (V5 (Yt DS hr (pa2 (pv 0) (Yt DT hr (pa2 (pv 0) YX))))) (Yk 4 JT.nd)
   (YZ (VW hu (pv 8) (pv 4) (Yd Yg (Yd Yv (pv 1) (Yt DT hr (pa2 (pv 0) (Y0 Yu rfl B.len Zs (pa1 (pv 1))))) (fun _ _=>rfl)) YX) rfl)))
  (YW (We (Yp 9 JT.nd (Dy (J6 Yn (Bj (Y4 (r:=Tb K) (Ux rfl) rfl B.dict JF (pa1 (pv 1)))) (J6 Yn (pv 3) (J6 Yn (Y2 OI (Yt DS hr (pa2 (pv 0) YX)) YX) (J6 Yn YX Du)))) rfl rfl (by simp) (by decide))))
  (YW (Yp 6 JT.nd (Yd Yg (Yd Yv (pv 1) (Yt DT hr (pa2 (pv 0) (Y0 Yu rfl B.len Zs (pa1 (pv 1))))) (fun _ _=>rfl)) YX))
  (YW (Yp 7 JT.nd (Yt DB hr (pa5 (pv 0) (pv 9) (pv 8) (pv 6) YX)))
  (YW (Yx (Jt (V9 (Yt DF hr (pa1 (pv 7))))) (YZ (Yp 7 JT.nd (Yt DP hr (pa4 (pv 0) (pv 9) (pv 8) (pv 6))))) Yl)
  (YW (Yx (Yi VB (Yt DT hr (pa2 (pv 0) YX)) YX (Yq _)) (YZ (Yp 7 JT.nd (Yt DX hr (pa4 (pv 0) (Bj (Y4 (r:=Tb K) (Ux rfl) rfl B.dict JF (pa1 (pv 1)))) (pv 3) (pv 7))))) Yl)
  (YZ (Yf (Yw (pa3 (pv 3) (pv 8) (pv 7))))))))))))),?_⟩
 dsimp only[JV,Cx.nox,Cx.wish];show let a:=_;let b:=_;let c:=Yj (Y9 _ b _) a;let d:=_;let e:=Yj (Y9 _ d _) c;let f:=Yj _ e;let g:=Yj _ f;let h:=Yj _ g;let i:=_;let j:=Yj (UE _ _ i) h;let k:=Yj _ j;let l:=_;let m:=Yj (UE _ _ l) k;Yj _ m _ _ _
 intros
 have hzl:=hzs.length;rw[ZA]at hzl;have D0:=T2.length;rw[ZA]at D0;intro Z N5;have R7:Z≠p:=st.ne N5;refine up_in N5 _ fun H1 s1 g1=>?_;have ndl:dl≠Z:=Yc hdl N5;refine⟨⟨_,Z1 (s1 _ _ hdl)⟩,?_⟩
 let I:Nat->St->Hp->Prop:=fun i U Hi=>(∀b o,b≠Z->H1 b=some o->Hi b=some o)/\∃Y,Hi Z=some (.dK Y)/\HL Hi Y ((ds.map (·.1)).take i)/\∃z4 z5 z6 z7,U=[some (.ref p),some (.ref kl),some (.ref dl),some (.ref Z),z4,z5,z6,z7,none,none]
 refine WO (xs:=zs) I ⟨fun b o _ e=>e,[],g1,⟨rfl,Z4⟩,_,_,_,_,rfl⟩ (fun i U Hi _ z=>Z1 (z.1 _ _ ndl (s1 _ _ hdl))) ?_ ?_
 .rintro BB RR i x U Hi hx ⟨fi,Y,hA,hl,z4,z5,z6,z7,rfl⟩
  have tkH:TK H Hi:=fun b us h=>fi b _ (Yc h N5) (s1 _ _ h);obtain⟨dd,hd1,hd2⟩:=hzs.get hx;rw[ZG]at hd1;obtain⟨dx,hc,rfl⟩:=Zh.mp hd1;obtain⟨ta,u,wv,rfl,hta,hup,_⟩:=Mb (VF tkH _ (EI _) hd2);have hci:(ds.map (·.1))[i]?=some dx.1:=by rw[ZG,hc];rfl
  refine⟨_,Z0 hta,rfl,?_⟩;refine⟨sl 2,fun t ht=>?_⟩;refine up_in ht _ fun H2 s2 g2=>?_;have hA2:=s2 _ _ hA;have lk:=hl.len;have li:((ds.map (·.1)).take i).length<=8:=by rw[ZL,ZA];omega
  refine⟨_,Ja.k (k:=Sum.inr dx.1.1) hA2 (Ye (by exact D4 lk li)),?_⟩;have tk2:TK H2 (upd H2 Z (.dK (putK Y (Sum.inr dx.1.1) (.ref t)))):=fun b us h=>by rw[Ya (fun e=>by rw[e,hA2]at h;cases h)];exact h
  have ek:putK Y (Sum.inr dx.1.1) (.ref t)=Y++[(Sum.inr dx.1.1,.ref t)]:=Ua _ (XU (by
   rw[hl.1];intro z;obtain⟨h',hh',e'⟩:=ZU.mp z;refine Xk R6 (show((ds.map (·.1)).map (·.1))[i]?=some dx.1.1 by rw[ZG,hci];rfl) ?_;rw[<-List.map_take];exact ZU.mpr ⟨h',hh',Sum.inr.inj e'⟩))
  refine⟨fun b o n e=>by rw[Ya n];exact s2 _ _ (fi b o n e),_,YY,?_,_,_,_,_,rfl⟩;rw[take_snoc hci];refine Eq.mpr (congrArg (fun l=>HL (upd H2 Z (.dK (putK Y (Sum.inr dx.1.1) (.ref t)))) l ((ds.map (·.1)).take i++[dx.1])) ek) ((hl.tk (fun b us h=>tk2 _ _ (s2 _ _ h))).snoc ?_);unfold hdD;unfold psD at hup;exact Yy (tk2 _ _ g2) (Z2 (VF (fun b us h=>tk2 _ _ (s2 _ _ h)) _ (by unfold Dat.st;exact WC _) hup) (Z3 Y5))
 rintro U Hi ⟨fi,Y,hA,hl,z4,z5,z6,z7,rfl⟩;rw[Ze (by rw[ZA];exact oq9 hzl)]at hl;have sHi:Same H Hi:=fun b o e=>fi b o (Yc e N5) (s1 _ _ e);have sti:=st.sm sHi;intro G F9;have N:G≠p:=sti.ne F9;have f8:H G=none:=sHi.free F9;have nA8:Z≠G:=Yc hA F9;refine up_in F9 _ fun H2 s2 g2=>?_;refine⟨Z,Y,s2 _ _ hA,fun oA=>?_⟩;have C:Same H (upd H2 Z (.frz oA (.dK Y))):=(sHi.trans s2).putN N5;have gA3:upd H2 Z (.frz oA (.dK Y)) Z=some (.frz oA (.dK Y)):=YY;have F3:upd H2 Z (.frz oA (.dK Y)) G=some (.dK []):=by rw[Ya (Zq nA8)];exact g2
 have hl3:HL (upd H2 Z (.frz oA (.dK Y))) Y (ds.map (·.1)):=hl.tk fun b us h=>by rw[Ya (fun e=>by rw[e,hA]at h;cases h)];exact s2 _ _ h
 generalize upd H2 Z (.frz oA (.dK Y))=H3 at C gA3 F3 hl3 |-;have F5:=st.sm C;refine⟨p,5,rfl,F5,by decide,by decide,fun r H4 r0 r1 b4 st4=>?_⟩;obtain⟨m,rfl⟩:∃m:Nat,r=m:=⟨r.toNat,by exact U1 r0⟩;refine⟨p,m,rfl,st4,by omega,fun wl ys H5 sb5 st5 fwl nwp hwl lys _=>?_⟩;have M:=b4.sb.trans sb5;have nw8:wl≠G:=(Yc (b4.sb _ _ N F3) fwl).symm;have lml:(ys.map V.str).length=ys.length:=ZA _;refine⟨⟨_,Z1 hwl⟩,?_⟩
 let J:Nat->St->Hp->Prop:=fun i U Hj=>GB p G H5 Hj/\VE Hj p/\∃T,Hj G=some (.dK T)/\T.length<=i/\NK (ks.map (·.1)) T/\∃z4 z5 z6 z7,U=[some (.ref p),some (.ref kl),some (.ref dl),some (.ref Z),z4,z5,z6,z7,some (.ref G),none]
 have kl5:H5 kl=some (.lst xs):=M _ _ X (C _ _ N4);have nk8:kl≠G:=Yc N4 f8;refine WO (xs:=ys.map V.str) J ⟨GB.refl _ _ _,st5,[],M _ _ N F3,ZF _,(fun q hq=>nomatch hq),_,_,_,_,rfl⟩ (fun i U Hj _ z=>Z1 (z.1 _ _ nwp nw8 hwl)) ?_ ?_
 .rintro BB RR i x U Hj hx ⟨gj,S,T,Z8,F7,F6,z4,z5,z6,z7,rfl⟩
  obtain⟨nm,_,rfl⟩:=U7 hx;have il:=(ZE.mp hx).1;have klj:=gj _ _ X nk8 kl5;refine⟨kl,_,rfl,.inl (Z1 klj),p,_,rfl,S,by exact Wx D0 k0,by exact RU D0 k6,fun r2 Hk r20 r21 bk stk=>?_⟩;obtain⟨m2,v2,hv1,hv2⟩:=Jq r20 r21;have tkj:TK H5 Hj:=Ut gj st5 (M _ _ N F3) (fun _ z=>by cases z);have tkk:TK H Hk:=fun b us h=>bk.sb _ _ (VN S (tkj _ _ (M.tk F5 _ _ (C _ _ h)))) (tkj _ _ (M.tk F5 _ _ (C _ _ h)));obtain⟨ka,ku,y,rfl,hka,hy⟩:=Ge (VG tkk _ (Vt ks) T2) hv1;refine⟨_,_,Z1 (bk.sb _ _ X klj),hv2,_,_,Z0 hka,rfl,?_⟩;have h8k:=bk.sb _ _ N Z8;refine⟨_,Ja.k (k:=Sum.inr nm) h8k (Ye (by omega)),?_⟩;refine⟨fun b o n1 n2 e=>by rw[Ya n2];exact bk.sb b o n1 (gj b o n1 n2 e),stk.keep (Ya (Zq N)),_,YY,ZZ (WB _ _ _) (by exact P1 F7),fun q hq=>?_,_,_,_,_,rfl⟩;rcases Tc hq with z|rfl
  .exact F6 q z
  .exact ⟨nm,y,rfl,hy⟩
 rintro U Hj ⟨gj,S,T,Z8,F7,F6,z4,z5,z6,z7,rfl⟩;have sHj:∀b o,b≠p->H b=some o->Hj b=some o:=fun b o n e=>gj b o n (Yc e f8) (M b o n (C _ _ e));have gAj:Hj Z=some (.frz oA (.dK Y)):=gj _ _ R7 nA8 (M _ _ R7 gA3);have I3:TK H3 Hj:=fun b us h=>Ut gj st5 (M _ _ N F3) (fun _ z=>by cases z) _ _ (M.tk F5 _ _ h);have hlj:=hl3.tk I3;have tkHj:TK H Hj:=fun b us h=>I3 _ _ (C _ _ h);intro O D
 have fwA:H O=none:=by
  cases e:H O with
  |none=>rfl
  |some o=>
   by_cases ep:O=p
   .rw [ep]at D;obtain⟨_,_,_,_,z⟩:=S;rw[z]at D;cases D
   .rw [sHj _ _ ep e]at D;cases D
 have nwP:O≠p:=S.ne D;have R5:O≠G:=(Yc Z8 D).symm;have nwA:O≠Z:=(Yc gAj D).symm;refine up_in D _ fun H6 s6 g6=>?_;obtain⟨ts,R8,exs,prK,ekK,hshK⟩:=Ue (K:=K) (VG (fun b us h=>s6 _ _ (tkHj _ _ h)) _ (Vt ks) T2);refine⟨kl,ts,R8,rfl,Z1 (by rw[<-exs];exact s6 _ _ (sHj _ _ X N4)),prK,Gf ekK nd,fun L G3=>⟨L,R8,rfl,YY,fun oS=>?_⟩⟩;rw[W9];have nsP:L≠p:=(S.sm s6).ne G3;have nsw:L≠O:=(Yc g6 G3).symm;have ns8:L≠G:=(Yc (s6 _ _ Z8) G3).symm;refine up_in G3 _ fun H7 s7 g7=>?_;have s67:=s6.trans s7;refine⟨p,2,rfl,S.sm s67,by decide,fun lr zs2 H8 N0 st8 flr nlr hlr lz2 _=>?_⟩;refine⟨lr,_,rfl,rfl,hlr,by rw[ZA];omega,by rw[ZA];omega,fun lA F8=>?_⟩;have nlP:lA≠p:=st8.ne F8;refine up_in F8 _ fun H9 s9 g9=>?_;have G1:SameB p Hj H9:=(s67.sb.trans N0).trans s9.sb;have st9:=st8.sm s9;have w9:H9 O=some (.dK []):=s9 _ _ (N0 _ _ nwP (s7 _ _ g6));have nlw:lA≠O:=(Yc (N0 _ _ nwP (s7 _ _ g6)) F8).symm;have nl8:lA≠G:=(Yc (N0 _ _ N (s67 _ _ Z8)) F8).symm;refine⟨w9,[(Sum.inr "shapes",.ref L),(Sum.inr "heads",.ref Z),(Sum.inr "lets",.ref lA),(Sum.inr "left",.int 9)],rfl,by show 4<=15;decide,?_⟩;refine⟨G,T,by rw[Ya (Zq R5)];exact G1 _ _ N Z8,fun o8=>?_⟩
 let o9:HO:=wrD L Z lA 9
 have fr:∀b o,b≠O->b≠G->H9 b=some o->upd (upd H9 O (wrD L Z lA 9)) G (.frz o8 (.dK T)) b=some o:=fun b o n1 n2 e=>by rw[Ya n2,Ya n1];exact e
 have gw:upd (upd H9 O (wrD L Z lA 9)) G (.frz o8 (.dK T)) O=some (wrD L Z lA 9):=by rw[Ya R5,YY]
 have g8:upd (upd H9 O (wrD L Z lA 9)) G (.frz o8 (.dK T)) G=some (.frz o8 (.dK T)):=YY;show Yj _ _ _ _ (upd (upd H9 O (wrD L Z lA 9)) G (.frz o8 (.dK T)));generalize upd (upd H9 O (wrD L Z lA 9)) G (.frz o8 (.dK T))=H10 at fr gw g8 |-;have sbH:SameB p H H10:=fun b o n e=>fr b o (Yc e fwA) (Yc e f8) (G1 b o n (sHj b o n e));have J2:VE H10 p:=let⟨a1,a2,a3,a4,z⟩:=st9;⟨a1,a2,a3,a4,fr _ _ (Zq nwP) (Zq N) z⟩
 have tk910:TK H9 H10:=fun b us h=>fr b _ (fun e=>by rw[e,w9]at h;cases h) (fun e=>by rw[e,G1 _ _ N Z8]at h;cases h) h;have R1:TK H6 H10:=fun b us h=>tk910 _ _ (((s7.sb.trans N0).trans s9.sb).tk (S.sm s6) _ _ h);have tkj10:TK Hj H10:=fun b us h=>R1 _ _ (s6 _ _ h);have F2:H10 Z=some (.frz oA (.dK Y)):=fr _ _ (Zq nwA) nA8 (G1 _ _ R7 gAj);have L2:=hlj.tk tkj10;have hg10:HG H10 Z (Vh (ds.map (·.1))):=L2.hg F2 R6 (by rw[ZA];omega) fun g hg=>(D3 g hg).1;have sf10:SF H10 L ks:=⟨oS,R8,fr _ _ nsw ns8 (s9 _ _ (N0 _ _ nsP g7)),ekK,fun y s e=>let⟨v,e1,e2⟩:=hshK y s e;⟨v,e1,VF R1 _ (Shp.st _) e2⟩⟩;have ln:=L2.len
 have hf10:HF H10 Z (ks.map (·.1)) (Vh (ds.map (·.1))):=⟨oA,Y,F2,by rw[ln,ZA];omega,fun q hq=>by
  obtain⟨j1,hj1⟩:=List.mem_iff_getElem?.mp hq;obtain⟨g1,a1,a2,a3,_⟩:=L2.at R6 hj1;have m1:=ZH a1;exact⟨g1.1,g1.2.1,g1.2.2,a2,a3,(D3 _ m1).1,(D3 _ m1).2.1,(D3 _ m1).2.2,XJ R6 m1⟩⟩
 have I2:Wr H10 O ks (Vh (ds.map (·.1))) lA:=⟨L,Z,zs2++ zs2,9,gw,sf10,hf10,by rw[ZI];exact fr _ _ nlw nl8 g9,by rw[ZJ];exact Ah lz2⟩;have af10:AF H10 G (ks.map (·.1)) 4 T:=⟨o8,g8,by exact Pi lys lml F7 r1,F6⟩;have kl10:=sbH _ _ X N4;refine⟨kl,_,rfl,.inl (Z1 kl10),p,_,rfl,J2,by exact Wx D0 k0,by exact RU D0 k6,fun r3 H11 r30 r31 N7 R3=>?_⟩;obtain⟨m3,v3,hv1,hv2⟩:=Jq r30 r31;have G2:=sbH.trans N7.sb;obtain⟨ka,ku,y,rfl,hka,hy⟩:=Ge (VG (G2.tk st) _ (Vt ks) T2) hv1;refine⟨_,_,Z1 (G2 _ _ X N4),hv2,_,_,Z0 hka,rfl,?_⟩;have N8:=I2.sb N7.sb J2;have af11:AF H11 G (ks.map (·.1)) 4 T:=af10.gb (w:=O) N7.sb.gb J2 I2;have dk:=kk.small hy;refine⟨p,O,G,lA,y,ks,_,T,c,d,4,rfl,R3,N8,af11,by decide,kk,k6,hy,fun u1 H12 b1 l12 F1 I4 wr12 ln12 S2 I8 dp12 kd12=>?_⟩;have sb12:SameB p H H12:=fun b o n e=>F1 b o n (Yc e fwA) (G2 b o n e);dsimp only[JG]
 have hgB:∀{Hx},GB p O H11 Hx->HG Hx Z (Vh (ds.map (·.1)))/\Hx G=some (.frz o8 (.dK T)):=fun g=>by
  have tkx:TK H10 _:=fun b us h=>g.tk R3 N8 _ _ (N7.sb.tk J2 _ _ h);exact⟨(L2.tk tkx).hg (g _ _ R7 (Zq nwA) (N7.sb _ _ R7 F2)) R6 (by rw[ZA];omega) fun g hg=>(D3 g hg).1,g _ _ N (Zq R5) (N7.sb _ _ N g8)⟩
 refine VQ (fun U' H'=>∃(v:V)(b:Bd),GB p O H11 H'/\VE H' p/\Has H' v b.dat/\b.ok/\b.dep<=12/\b.size<=100/\Kd ks (Vh (ds.map (·.1))) T y b/\∃z4 z5,U'=[some (.ref p),some (.ref kl),some (.ref dl),some (.ref Z),z4,z5,some (.str y),some v,some (.ref G),some (.ref O)]) ?_ fun N1 k1=>?_
 case refine_2=>
  refine⟨u1,b1,rfl,S2,I8,by omega,fun k I1 N3 hk=>⟨_,rfl,?_⟩⟩;have F4:=F1.trans N3.gb
  cases k with
  |true=>exact Y1 (by simp) (k1 _ _ ⟨u1,b1,F4,I4.sm N3,S2.mono N3,I8,(hk rfl).2,by have:=(hk rfl).1;exact Ph this,kd12,_,_,rfl⟩)
  |false=>
   refine VJ (by simp) ?_;refine⟨p,O,G,l12,y,ks,_,T,c,d,rfl,I4.sm N3,wr12.mono N3,((af11.gb F1 R3 N8).mono N3 (by decide)),kk,hy,by exact oq0 dk,fun u2 H14 b2 l14 gb14 Z9 wr14 ln14 hu14 I7 dp14 kd14=>?_⟩;have sz2:=Bd.size_le 2 b2 (by omega) I7;exact k1 _ _ ⟨u2,b2,F4.trans gb14,Z9,hu14,I7,by omega,by exact Ag sz2,kd14,_,_,rfl⟩
 rintro U' I1 ⟨v,b,F4,R,hv13,okb,dpb,szb,kdb,z4',z5',rfl⟩;have I6:SameB p H I1:=fun b o n e=>F4 b o n (Yc e fwA) (G2 b o n e);obtain⟨hg13,g813⟩:=hgB F4
 have ret:∀{Hx:Hp}{v:V}{b:Bd},SameB p I1 Hx->VE Hx p->Has Hx v b.dat->b.ok->b.dep<=12->b.size<=100->∀t,Hx t=none->Q (.ref t) (upd Hx t (.tup [.ref Z,.ref G,v])):=fun{Hx v b} sx stx hvx ok1 dp1 sz1 t ht=>by
  have su:=Yb ht (.tup [.ref Z,.ref G,v])
  have hgx:HG Hx Z (Vh (ds.map (·.1))):=by
   obtain⟨o,Y,h1,h2,h3,h4,h5⟩:=hg13;exact⟨o,Y,sx _ _ (Vx R h1) h1,h2,h3,h4,fun f ps k e=>let⟨l,v,g1,g2⟩:=h5 f ps k e;⟨l,v,g1,VF (sx.tk R) _ (Jw _ _) g2⟩⟩
  exact q t Z G v b T o8 _ ((I6.trans sx).trans su.sb) (stx.sm su) YY (hgx.mono su) (su _ _ (sx _ _ N g813)) F6 (by exact Pi lys lml F7 r1) (hvx.mono su) ok1 dp1 sz1
 refine VQ (fun U' H'=>∃(v:V)(b:Bd),SameB p I1 H'/\VE H' p/\Has H' v b.dat/\b.ok/\b.dep<=12/\b.size<=100/\∃z4 z5 z6 z9,U'=[some (.ref p),some (.ref kl),some (.ref dl),some (.ref Z),z4,z5,z6,some v,some (.ref G),z9]) ?_ fun N2 k2=>?_
 case refine_2=>
  refine⟨p,2,rfl,R,by decide,by decide,fun r4 H14 r40 r41 N6 Z9=>⟨rfl,_,rfl,?_⟩⟩;have I9:=VF (N6.sb.tk R) _ (Bd.st _) hv13;refine Vq (fun _=>?_) (fun _=>k2 _ _ ⟨v,b,N6.sb,Z9,I9,okb,dpb,szb,_,_,_,_,rfl⟩);have I5:=I6.trans N6.sb;obtain⟨ts2,T0,exs2,pr2,ek2,hsh2⟩:=Ue (K:=K) (VG (I5.tk st) _ (Vt ks) T2);refine⟨kl,ts2,T0,rfl,Z1 (by rw[<-exs2];exact I5 _ _ X N4),pr2,Gf ek2 nd,fun s2A hs2=>⟨s2A,T0,rfl,YY,fun o2=>?_⟩⟩;rw[W9];refine up_in hs2 _ fun H15 R4 g15=>?_
  have hg14:HG H14 Z (Vh (ds.map (·.1))):=by
   obtain⟨o,Y,h1,h2,h3,h4,h5⟩:=hg13;exact⟨o,Y,N6.sb _ _ (Vx R h1) h1,h2,h3,h4,fun f ps k e=>let⟨l,v,g1,g2⟩:=h5 f ps k e;⟨l,v,g1,VF (N6.sb.tk R) _ (Jw _ _) g2⟩⟩
  refine⟨p,s2A,Z,v,ks,_,c,d,T,y,b,rfl,Z9.sm R4,⟨o2,T0,g15,ek2,fun y s e=>let⟨v,e1,e2⟩:=hsh2 y s e;⟨v,e1,e2.mono R4⟩⟩,hg14.mono R4,kk,k0,k6,I9.mono R4,okb,kdb,dpb,szb,fun u5 H16 b5 sb16 st16 h16 ok16 dp16 sz16=>?_⟩;exact k2 _ _ ⟨u5,b5,(N6.sb.trans R4.sb).trans sb16,st16,h16,ok16,dp16,by exact Ph sz16,_,_,_,_,rfl⟩
 rintro U'' H17 ⟨v',b',s17,st17,h17,ok17,dp17,sz17,y4,y5,y6,y9,rfl⟩;exact⟨sl 3,fun t ht=>ret s17 st17 h17 ok17 dp17 sz17 t ht⟩
end
section
variable{f g C CK:Addr}
def Fk(C CK:Addr):Sp:=fun vs H Q _=>∃(Hm:Hp)(A:BA)(dl:Addr)(zs:List V)(ks:List (Str×Shp))(c d:Str->Nat)(ds:List Dd),vs=[.ref A.t,.ref dl]/\BB Hm H C CK A ks d/\BT H A [] [] ks []/\KK 30 c d ks/\ks.length<=6/\Hm dl=some (.lst zs)/\HasL Hm zs (ds.map W6)/\0<ds.length/\ds.length<=8/\
 Wds 97 (ds.map fun x=>x.1.1)/\(∀x∈ds,Nd (ks.map (·.1)) c 40 x.1)/\∀H' kv rv,BB Hm H' C CK A ks d->BT H' A kv rv ks ds->Q .non H'
theorem X9:Yr ["self","definitions","in_all","number","name","parameters","kind","body","count"] ["self","definitions"] (Yh BX):=Y7
theorem Kk(B:Blt mg)(me:mg "enumerate"=none)(O:BCl K C)(F:Fun K "take_heads" "Book.take_heads" BX f fd)(h1:mg "MOST_DEFINITIONS"=some u1)(r1:RelV (.int 8) u1)(h2:mg "MOST_ROWS"=some u2)(r2:RelV (.int 200) u2)(h3:mg "MOST_ROWS_IN_ALL"=some u3)(r3:RelV (.int 400) u3)(mH:JZ K C "is_head" g)(GH:Yo P w K mg base CX0 n g gd ["self","name","parameters","kind"] (MA C CK))(bH:Binds K gd ["self","name","parameters","kind"] [])(DC:Df P w K mg base n "row_count" ["kinds","parameters"] (Xv CK))(DO:Df P w K mg base n "rows_over" ["kinds","parameters"] (Xu CK)):Yo P w K mg base CX0 (n+1) f fd ["self","definitions"] (Fk C CK):=by
 refine F.oq X9 fun R6 A N2 s H vs Q E hr h=>?_;obtain⟨Hm,R,dl,zs,v,c,d,ds,rfl,bb,bt,kk,k6,D,o,d0,d8,wd,ho,q⟩:=h;have hu:=V1 hr;have lz:=o.length;rw[ZA]at lz;refine⟨_,YW (Yx (Yi VB (Y0 Yu rfl B.len Zs (pa1 (pv 1))) YX (Yq _)) (YZ V8) Yl)
  (YW (Yp 2 X9.nd YX)
  (YZ (Vu Zt rfl (WD rfl me (pa1 (pv 1))) (Vn (n:=2) rfl (Ys (Yk 3 X9.nd) (Ys (Dv rfl (Yk 4 X9.nd) (Yk 5 X9.nd) (Yk 6 X9.nd) (Yk 7 X9.nd)) VO)))
   (YW (Yx (PW.pt (UK (Yi QL (pv 3) (Jk rfl h1 r1) (Yq _)) (Js (Jt (V9 (JM (pv 0) O.cl mH GH hr bH .nil VH (pa3 (pv 4) (pv 5) (pv 6)))))))) (YZ V8) Yl)
   (YW (Yp 8 X9.nd (Yt DC hr (pa2 (VI (pv 0) rfl) (pv 5))))
   (YW (IT (i:=2) X9.nd rfl (Or.inl rfl) (pv 8) Ot)
   (YW (Yx (PW.pt (UK (Yi XE (pv 8) (Jk rfl h2 r2) (Yq _)) (Js (Yi XE (pv 2) (Jk rfl h3 r3) (Yq _))))) (YZ V8) Yl)
   (YW (VW hu (VI (pv 0) rfl) (pv 4) (Yw (pa3 (pv 5) (pv 6) (pv 7))) rfl)
   (YZ (VW hu (VI (pv 0) rfl) (pv 4) (Yt DO hr (pa2 (VI (pv 0) rfl) (pv 5))) rfl)))))))))),?_⟩
 dsimp only[JV,Cx.nox,Cx.wish];show let a:=_;let b:=Yj _ a;let c:=_;let d:=Yj (Y9 _ c _) b;let e:=Yj _ d;let f:=Yj _ e;let g:=_;let h:=Yj (Y9 _ g _) f;let i:=UE _ _ h;let j:=Yj _ i;let k:=_;Yj (Y9 _ k _) j _ _ _
 intros
 refine⟨dl,_,rfl,.inl (Z1 (bb.sm _ _ D)),rfl,_,rfl,Y1 (fun z=>by have z1:=Zr z;injection z1 with z2;omega) ?_⟩;refine LT ?_;refine⟨dl,false,zs,rfl,Z1 (bb.sm _ _ D),?_⟩
 let I:Nat->St->Hp->Prop:=fun i U S=>BB Hm S C CK R v d/\∃(L m:List (Key×V))(n:Nat)(z3 z4 z5 z6 z7 z8:Option V),BT S R L m v (ds.take i)/\n<=40*i/\U=[some (.ref R.t),some (.ref dl),some (.int (n:Nat)),z3,z4,z5,z6,z7,z8]
 refine Gp (tp:=false) (xs:=zs) I
  ⟨bb,[],[],0,_,_,_,_,_,_,bt,ZF _,rfl⟩ (fun i U S _ z=>Z1 (z.1.sm _ _ D)) ?_ ?_
 .rintro BB' RR i x U S r hx ⟨bbi,L,m,n',z3,z4,z5,z6,z7,z8,bti,n40,rfl⟩ hr'
  obtain⟨dd,J,R1⟩:=o.get hx;rw[ZG]at J
  cases hc:ds[i]? with
  |none=>rw[hc]at J;cases J
  |some Y=>
   rw[hc]at J;cases J;have i8:=(ZE.mp hc).1;have hm:=ZH hc;obtain⟨p3,pk,hk,N1,N0,p⟩:=ho Y hm;refine up_in hr' _ fun HR sR gR=>?_;have Z:=bbi.same sR;have J2:=bti.same sR;obtain⟨ta,u,wv,rfl,N7,Z8,N4⟩:=Mb (R1.mono Z.sm)
   have nx:Y.1.1∉(ds.take i).map fun y=>y.1.1:=by
    rw[List.map_take];exact Xk wd.nd (show(ds.map fun y:Dd=>y.1.1)[i]?=some Y.1.1 by rw[ZG,hc];rfl)
   have nk:Y8 L (Sum.inr Y.1.1)=none:=XU (by
    rw[bti.ke];intro z;obtain⟨q1,N8,e1⟩:=ZU.mp z;exact nx (ZU.mpr ⟨q1,N8,Sum.inr.inj e1⟩))
   have lk:L.length<=8:=by
    have:=congrArg List.length bti.ke;rw[ZA,ZA,ZL]at this;exact yP this d8
   have lr:=bti.ln;rw[ZL]at lr;refine⟨_,Z0 gR,rfl,⟨_,Z0 N7,rfl,?_⟩⟩;refine⟨_,rfl,Y1 (by simp;omega) ?_⟩;refine⟨_,_,Z.ins,yY _,R,L,v,d,Y.1.1,Y.1.2.2,Y.1.2.1,u,rfl,Z.ins,J2.td,Z.so.mono Z.sm,k6,nk,wd.wdS (ZU.mpr ⟨Y,hm,rfl⟩),Z8,p3,pk,N1,N0,hk,fun H1 s1=>⟨_,rfl,Y1 (by simp) ?_⟩⟩;have N:=Z.same s1;have R4:=J2.same s1;have T:=Z8.mono s1;refine⟨C,_,_,_,N.ins,O.cl,O.so,LE _,R.so,v,c,d,Y.1.2.1,u,rfl,N.so.mono N.sm,kk,T,pk,by exact Cs p,fun H2 t=>?_⟩;have R5:=N.same t;have R3:=R4.same t;refine⟨_,rfl,?_⟩;refine⟨_,rfl,Y1 (by simp;omega) ?_⟩;refine⟨_,rfl,Y1 (by simp;omega) ?_⟩;refine⟨sl 3,fun tt N6=>?_⟩;refine up_in N6 _ fun H3 X g3=>?_;have G2:=R5.same X;have M:=R3.same X;have N5:Has H3 (.ref tt) (U6 Y):=Yy g3 (Z2 ((T.mono t).mono X) (Z2 Y5 (Z3 (((N4.mono s1).mono t).mono X))));refine⟨C,_,_,_,G2.ins,O.cl,O.td,FE _,_,Ja.k (k:=Sum.inr Y.1.1) M.td (Ye (by exact OE lk)),?_⟩;have G:=G2.td (.dK (putK L (Sum.inr Y.1.1) (.ref tt)));obtain⟨H4,e4⟩:∃H4,H4=upd H3 R.td (.dK (putK L (Sum.inr Y.1.1) (.ref tt))):=⟨_,rfl⟩;have G3:TK H3 H4:=by rw[e4];exact Ni M.td fun ys z=>nomatch z
   have L2:H4 R.rd=some (.dK m):=by rw[e4,Ya (Zq bb.ne)];exact M.rd
   rw[<-e4]at G;dsimp only[rI0,rI,J9];rw[<-e4];refine⟨C,_,_,_,G.ins,O.cl,O.so,LE _,R.so,v,c,d,Y.1.2.1,u,rfl,G.so.mono G.sm,kk,VF G3 _ (by unfold psD;unfold Dat.st;exact WC _) ((T.mono t).mono X),pk,p3,by exact Cs p,fun l xs H5 s5 fl hl N3=>?_⟩;have G1:=G.same s5;refine⟨C,_,_,_,G1.ins,O.cl,O.rd,yW _,_,Ja.k (k:=Sum.inr Y.1.1) (s5 _ _ L2) (Ye (by exact yO d8 lr)),?_⟩;have Z9:=M.put bb.ne nx e4 N5 s5 hl N3 rfl;rw[<-take_snoc hc]at Z9;exact⟨G1.rd _,_,_,n'+JL c Y.1.2.1,_,_,_,_,_,_,Z9,by omega,rfl⟩
 .rintro U S ⟨bbi,L,m,n',z3,z4,z5,z6,z7,z8,bti,n40,rfl⟩
  rw[Ze (by exact oq9 lz)]at bti;exact q S L m bbi bti
end
end K4
namespace L2
open PySem
def BJ(H:Hp)(C CK t:Addr)(ks:List (Str×Shp))(d:Str->Nat)(ds:List Dd):Prop:=∃A kv rv,A.t=t/\BD H C CK A kv ks d ds/\BT H A kv rv ks ds
theorem BJ.bi(b:BJ H C CK t ks d ds):BI H C CK t ks d ds:=let⟨A,Y,_,h,k,_⟩:=b;⟨A,Y,h,k⟩
theorem BD.mono(k:BD H C CK A kv ks d ds)(e:Same H H'):BD H' C CK A kv ks d ds:=⟨e _ _ k.ins,k.so.mono e,e _ _ k.td,k.ke,k.va.mono e,k.nd⟩
theorem Bm(n:b≠x)(h:H b=some o):WF H x b=some o:=by unfold WF;rw[Zo n];exact h
theorem KI.out(k:KI H CK t ks d)(hx:H x=some (.ins C dx [])):KI (WF H x) CK t ks d:=by
 obtain⟨A,S,rfl,Z,L⟩:=k;have Y:∀{b:Addr}{o:HO},H b=some o->o≠.ins C dx []->WF H x b=some o:=fun{b o} h n=>Bm (Vv h hx n) h;have G:TL H (WF H x):=⟨fun b J h=>Y h (by intro z;cases z),fun b J h=>Y h (by intro z;cases z)⟩;refine⟨A,S,rfl,⟨Y Z.ins (fun z=>?_),Y Z.sh (fun z=>by cases z),Y Z.wo (fun z=>by cases z),Y Z.he (fun z=>by cases z),Y Z.pd (fun z=>by cases z),Y Z.tk (fun z=>by cases z),Y Z.pk (fun z=>by cases z),Z.nd⟩,L.tl G⟩;injection z with _ _ z;unfold W5 at z;cases z
end L2
namespace K4
open PySem L2
section
variable{f g C CK:Addr}
def G6(C CK:Addr):Sp:=fun vs H Q _=>∃(A:BA)(kv:List (Key×V))(ks:List (Str×Shp))(c d:Str->Nat)(ds:List Dd),vs=[.ref A.t]/\BD H C CK A kv ks d ds/\KG ks/\KK 30 c d ks/\ks.length<=6/\(∀x∈ds,Nd (ks.map (·.1)) c 40 x.1)/\(∀x∈ds,LX ks (ds.map (·.1)) x)/\∀H',Same H H'->Q .non H'
theorem J5:Yr ["self","number","name","parameters","kind","body","found","place"] ["self"] (Yh MT):=Y7
theorem yX(A:BA):(XR A).lookup ("names":Str)=none:=rfl
theorem E2(B:Blt mg)(me:mg "enumerate"=none)(TB:BCl K C)(F:Fun K "check_bodies" "Book.check_bodies" MT f fd)(mH:JZ K C "names" g)(GH:Yo P w K mg base CX0 n g gd ["self"] (X8 C CK))(bH:Binds K gd ["self"] [])(DK:Df P w K mg base n "kind_or_place" ["book","around","body"] (G4 C CK 13)):Yo P w K mg base CX0 (n+1) f fd ["self"] (G6 C CK):=by
 refine F.oq J5 fun N0 A t s H vs Q E hr h=>?_;obtain⟨D,kv,ks,c,d,X,rfl,bd,kg,kk,k6,ho,G2,q⟩:=h;have hu:=V1 hr;refine⟨_,YZ (Vu Zt rfl (WD rfl me (pa1 (JR (pv 0) TB.cl mH GH hr bH .nil VH))) (Vn (n:=2) rfl (Ys (Yk 1 J5.nd) (Ys (Yk 2 J5.nd) VO)))
   (YW (Je (Yz hu (VI (pv 0) rfl) (pv 2) (fun _ _=>rfl)) (Vn (n:=3) rfl (Ys (Yk 3 J5.nd) (Ys (Yk 4 J5.nd) (Ys (Yk 5 J5.nd) VO)))))
   (YW (Je (Yt DK hr (pa3 (pv 0) (Y4 (Uj rfl) rfl B.dict JF (pa1 (pv 3))) (pv 5))) (Vn (n:=2) rfl (Ys (Yk 6 J5.nd) (Ys (Yk 7 J5.nd) VO))))
   (YW (Yx (Yi Xx (pv 6) VZ (Yq _)) (YZ V8) Yl)
   (YZ (Yx (Yi Xq (pv 6) (pv 4) (Yq _)) (YZ V8) Yl)))))),?_⟩
 dsimp only[JV,Cx.nox,Cx.wish];show let a:=_;let b:=Y9 _ a _;let c:=_;let d:=Yj (Y9 _ c _) b;let e:=Yj _ d;let f:=Yj _ e;UE _ _ f _ _ _
 intros
 refine⟨_,_,bd.ins,yX _,D.t,ks,d,X,rfl,⟨D,kv,rfl,bd⟩,fun nl H1 s1 L2 O=>?_⟩;refine⟨nl,false,_,rfl,Z1 O,?_⟩
 let I:Nat->St->Hp->Prop:=fun i U T=>Same H1 T/\∃(z1 z2 z3 z4 z5 z6 z7:Option V),U=[some (.ref D.t),z1,z2,z3,z4,z5,z6,z7]
 refine Gp (tp:=false) (xs:=X.map fun x=>V.str x.1.1) I ⟨Z6 _,_,_,_,_,_,_,_,rfl⟩ (fun i U T _ z=>Z1 (z.1 _ _ O)) ?_ ?_
 .rintro BB' RR i x U T r hx ⟨si,z1,z2,z3,z4,z5,z6,z7,rfl⟩ hr'
  rw[ZG]at hx
  cases hc:X[i]? with
  |none=>rw[hc]at hx;cases hx
  |some Y=>
   rw[hc]at hx;cases hx;have hm:=ZH hc;have p:=ho Y hm;have m:=G2 Y hm;refine up_in hr' _ fun HR sR gR=>?_;have L:=bd.mono ((s1.trans si).trans sR);obtain⟨v,e1,e2⟩:=L.at hm;obtain⟨ta,u,wv,rfl,Z9,N,Z8⟩:=Tq e2;refine⟨_,Z0 gR,rfl,?_⟩;refine⟨C,_,_,_,L.ins,TB.cl,TB.td,FE _,_,e1,?_⟩;refine⟨_,Z0 Z9,rfl,?_⟩;unfold psD at N;obtain⟨l,xp,rfl,hl,M⟩:=Y6 N;obtain⟨tp,rfl,J⟩:=Bg (K:=K) M;replace J:T7 K HR tp (kvP Y.1.2.1):=J;have G3:(kvP Y.1.2.1).length=Y.1.2.1.length:=ZA _;have Z:=p.nd
   have o:((kvP Y.1.2.1).map (·.1)).Nodup:=by
    unfold kvP;rw[List.map_map];unfold List.Nodup at Z |-;rw[List.pairwise_map]at Z |-;exact Z.imp fun J2 q=>J2 (Sum.inr.inj q)
   refine⟨l,tp,_,rfl,hl,J,o,fun aA G1=>?_⟩;refine up_in G1 _ fun H3 y g3=>?_;have l3:=p.len;have R:=m.dep;refine⟨D.t,aA,wv,ks,c,d,X,kvP Y.1.2.1,Y.2,rfl,⟨D,kv,rfl,L.mono y⟩,kk,fun f ps k e=>?_,fun q' hq=>?_,fun j G=>(ho j G).len,.inl g3,by omega,Z8.mono y,m.ok,by exact CS R,by decide,fun r4 p4 H4 s4 S _=>?_⟩
   .obtain ⟨j,G,e'⟩:=ZU.mp (Gi e)
    have:=(ho j G).own;rw[e']at this;exact this
   .obtain ⟨pr,hpr,rfl⟩:=ZU.mp hq
    exact⟨pr.1,pr.2,rfl,p.kin pr hpr⟩
   rw[m.kd.kdn kg (fun z ts e=>(kk.at e).1) 13 _ _ _ (by exact CS R)]at S;replace S:H4 r4=some (.tup [.str Y.1.2.2,p4]):=S;refine⟨_,Z0 S,rfl,?_⟩;refine⟨rfl,_,rfl,Y1 (by simp) ?_⟩;refine⟨rfl,_,rfl,Y1 (by simp) ?_⟩;exact⟨((si.trans sR).trans y).trans s4,_,_,_,_,_,_,_,rfl⟩
 .rintro U T ⟨si,_⟩
  exact q T (s1.trans si)
def R9(C CK:Addr):Sp:=fun vs H Q _=>∃(x dx kl dl:Addr)(xs zs:List V)(ks:List (Str×Shp))(c d:Str->Nat)(ds:List Dd),vs=[.ref x,.ref kl,.ref dl]/\H x=some (.ins C dx [])/\H kl=some (.lst xs)/\HasL H xs (ks.map Jf)/\KK 30 c d ks/\(ks.map (·.1)).Nodup/\KG ks/\0<ks.length/\ks.length<=6/\
 H dl=some (.lst zs)/\HasL H zs (ds.map W6)/\0<ds.length/\ds.length<=8/\Wds 97 (ds.map fun x=>x.1.1)/\(∀x∈ds,Nd (ks.map (·.1)) c 40 x.1)/\(∀x∈ds,LX ks (ds.map (·.1)) x)/\∀H',(∀b o,b≠x->H b=some o->H' b=some o)->BJ H' C CK x ks d ds->Q .non H'
theorem Lw:Yr ["self","kinds","definitions"] ["self","kinds","definitions"] (Yh Ba):=Y7
theorem yV(A:BA):(XR A).lookup ("take_heads":Str)=none:=rfl
theorem yZ(A:BA):(XR A).lookup ("check_bodies":Str)=none:=rfl
theorem Km(hm:m+1<=n)(G:BCl K C)(F:Fun K "__init__" "Book.__init__" Ba f fd)(N7:Mk K CK gi)(mC:mg "Kinds"=some (.ref CK))(GI:Yo P w K mg base CX0 m gi idd ["self","told"] (Nt CK))(bI:Binds K idd ["self","told"] [])(m1:JZ K C "take_heads" g1)(G1:Yo P w K mg base CX0 n g1 d1 ["self","definitions"] (Fk C CK))(b1:Binds K d1 ["self","definitions"] [])(m2:JZ K C "check_bodies" g2)(G2:Yo P w K mg base CX0 n g2 d2 ["self"] (G6 C CK))(b2:Binds K d2 ["self"] []):
  Yo P w K mg base CX0 (n+1) f fd ["self","kinds","definitions"] (R9 C CK):=by
 refine F.oq Lw fun R3 A Z8 s H vs Q E hr h=>?_;obtain⟨x,Z,kl,dl,l,zs,I,c,d,ds,rfl,hx,N0,G3,kk,nd,kg,k0,k6,N2,J2,d0,d8,wd,ho,N3,q⟩:=h;have L2:V7 (m+1) _:=hr.mono hm;refine⟨_,YW (UU (pv 0) (Dx N7 GI L2 rfl mC bI .nil VH (pa1 (pv 1))) rfl)
  (YW (UU (pv 0) JC rfl) (YW (UU (pv 0) JC rfl) (YW (UU (pv 0) JC rfl)
  (YW (JB (JM (pv 0) G.cl m1 G1 hr b1 .nil VH (pa1 (pv 2))))
  (YZ (JB (JR (pv 0) G.cl m2 G2 hr b2 .nil VH))))))),?_⟩
 dsimp only[JV,Cx.nox,Cx.wish];refine fun t O ht N1 R1=>?_;have tx:upd (upd H O (.own t)) t (.ins CK O []) t=some (.ins CK O []):=YY;have u:Same H (upd (upd H O (.own t)) t (.ins CK O [])):=fun b o e=>by rw[Ya (Yc e ht),Ya (Yc e N1)];exact e
 generalize upd (upd H O (.own t)) t (.ins CK O [])=H7 at tx u |-;have N8:x≠t:=Yc hx ht;refine⟨t,O,kl,l,I,c,d,rfl,tx,u _ _ N0,G3.mono u,kk,nd,kg,k0,k6,fun Y f8 Z9=>⟨rfl,?_⟩⟩;have a:Same H Y:=fun b o e=>f8 b o (Yc e ht) (u b o e);have x8:=a _ _ hx;refine⟨x,C,Z,_,rfl,x8,G.cl,G.so,by decide,?_⟩;have j:upd Y x (.ins C Z (Vj "sorts" (.ref t) [])) x=some (.ins C Z (Vj "sorts" (.ref t) [])):=YY;have v:∀b o,b≠x->Y b=some o->upd Y x (.ins C Z (Vj "sorts" (.ref t) [])) b=some o:=fun b o n e=>by rw[Ya n];exact e
 generalize upd Y x (.ins C Z (Vj "sorts" (.ref t) []))=H9 at j v |-;intro D T;refine⟨x,C,Z,_,rfl,by rw[Ya (Yc j T)];exact j,G.cl,G.td,(by show 1<1000;decide),?_⟩;obtain⟨k,a1,n1,r1⟩:=Jo (f:="told") (o:=.dK []) j T;generalize upd (upd H9 D (.dK [])) x (.ins C Z (Vj "told" (.ref D) (Vj "sorts" (.ref t) [])))=H1 at k a1 r1 |-;intro S M;refine⟨x,C,Z,_,rfl,by rw[Ya (Yc k M)];exact k,G.cl,G.rd,(by show 2<1000;decide),?_⟩;obtain⟨g,a2,n2,r2⟩:=Jo (f:="rows") (o:=.dK []) k M;generalize upd (upd H1 S (.dK [])) x (.ins C Z (Vj "rows" (.ref S) (Vj "told" (.ref D) (Vj "sorts" (.ref t) []))))=H2 at g a2 r2 |-;intro p3 U;refine⟨x,C,Z,_,rfl,by rw[Ya (Yc g U)];exact g,G.cl,G.tn,(by show 3<1000;decide),?_⟩;obtain⟨i,a3,n3,r⟩:=Jo (f:="turns") (o:=.dK []) g U;generalize upd (upd H2 p3 (.dK [])) x (.ins C Z (Vj "turns" (.ref p3) (Vj "rows" (.ref S) (Vj "told" (.ref D) (Vj "sorts" (.ref t) [])))))=H3 at i a3 r |-
 let R:BA:=⟨x,Z,t,D,S,p3⟩
 have L:∀{b:Addr}{o:HO},WF Y x b=some o->b≠x/\Y b=some o:=fun{b o} h=>by
  unfold WF at h
  by_cases e:b=x
  .rw [Zn e]at h;cases h
  .rw [Zo e]at h;exact⟨e,h⟩
 have fr:∀b o,b≠x->Y b=some o->H3 b=some o:=fun b o n e=>r b o n (r2 b o n (r1 b o n (v b o n e)));have sm:Same (WF Y x) H3:=fun b o h=>fr b o (L h).1 (L h).2
 have free:∀p:Addr,(∀o,p≠x->Y p=some o->False)->WF Y x p=none:=fun p h=>by
  cases e:WF Y x p with
  |none=>rfl
  |some o=>exact(h o (L e).1 (L e).2).elim
 have N6:=r2 _ _ n1 a1;have N5:=r _ _ n1 N6;have N4:=r _ _ n2 a2;have bb:BB (WF Y x) H3 C CK R I d:=⟨i,sm,Z9.out x8,free D fun o n e=>(by have:=v _ _ n e;rw[T]at this;cases this),free S fun o n e=>(by have:=r1 _ _ n (v _ _ n e);rw[M]at this;cases this),Yc a1 M,Zq n1,Zq n2⟩;have bt:BT H3 R [] [] I []:=⟨N5,N4,rfl,Z4,(fun y hy=>nomatch hy),ZF _⟩;have B:∀{b:Addr}{o:HO},H b=some o->o≠.ins C Z []->WF Y x b=some o:=fun{b o} h n=>Bm (Vv h hx n) (a _ _ h);have tl:TL H (WF Y x):=⟨fun b l h=>B h (by intro z;cases z),fun b l h=>B h (by intro z;cases z)⟩;refine⟨_,_,i,yV R,WF Y x,R,dl,zs,I,c,d,ds,rfl,bb,bt,kk,k6,B N2 (by intro z;cases z),HasL.tl tl _ J2,d0,d8,wd,ho,fun H4 kv rv J N=>?_⟩;have X:BD H4 C CK R kv I d ds:=⟨J.ins,J.so.mono J.sm,N.td,N.ke,N.va,wd.nd⟩;refine⟨_,_,J.ins,yZ R,R,kv,I,c,d,ds,rfl,X,kg,kk,k6,ho,N3,fun H5 s5=>?_⟩;exact q H5 (fun b o n e=>s5 _ _ (J.sm _ _ (Bm n (a _ _ e)))) ⟨R,kv,rv,rfl,X.mono s5,N.same s5⟩
end
end K4
namespace L2
open PySem
theorem Mn(Y:y∈ks.map (·.1)):∃us,VA ks 3 y=.non::us:=by
 obtain⟨s,Z⟩:=Vw Y;rw[XT Z];cases s <;> exact⟨_,rfl⟩
section
variable{C CK t l kl dl:Addr}
theorem KI.but(k:KI H CK t ks d)(M:H l=some (.lst xs))(L:∀r,xs≠.non::r)(f:∀b o,b≠l->H b=some o->H' b=some o):KI H' CK t ks d:=by
 obtain⟨A,S,e,J,Z⟩:=k;have G:∀{b:Addr}{o:HO},H b=some o->(∀Y,o≠.lst Y)->H' b=some o:=fun{b o} h n=>f b o (Vv h M (n xs)) h;have N:TK H H':=fun b B h=>G h fun Y z=>nomatch z
 refine⟨A,S,e,⟨G J.ins (fun Y z=>nomatch z),G J.sh (fun Y z=>nomatch z),G J.wo (fun Y z=>nomatch z),G J.he (fun Y z=>nomatch z),G J.pd (fun Y z=>nomatch z),G J.tk (fun Y z=>nomatch z),G J.pk (fun Y z=>nomatch z),J.nd⟩,Z.ke,fun y s e=>?_,fun y O=>?_,Z.he,Z.pd,Z.tk,Z.pk,Z.ln⟩
 .obtain ⟨v,h1,h2⟩:=Z.sh y s e
  exact⟨v,h1,VF N _ (Shp.st s) h2⟩
 .obtain ⟨l',Y,h1,h2,h3⟩:=Z.wo y O
  refine⟨l',Y,h1,f _ _ (fun z=>?_) h2,Gn (fun u {v}=>Gm N u) h3⟩;subst z;rw[h2]at M;have e:Y=xs:=by injection M with e;injection e
  obtain⟨B,D⟩:=Mn O;rw[D,ZT]at h3;obtain⟨x,r,E,R,_⟩:=Ym h3;have T:x=.non:=by unfold W.dat Has at R;exact R
  exact L r (by rw[<-e,E,T])
theorem BI.but(b:BI H C CK t ks d ds)(G:H l=some (.lst xs))(Z:∀r,xs≠.non::r)(f:∀b o,b≠l->H b=some o->H' b=some o):BI H' C CK t ks d ds:=by
 obtain⟨A,M,e,b⟩:=b;have J:∀{b:Addr}{o:HO},H b=some o->(∀Y,o≠.lst Y)->H' b=some o:=fun{b o} h n=>f b o (Vv h G (n xs)) h;have L:TK H H':=fun b N h=>J h fun Y z=>nomatch z
 exact⟨A,M,e,⟨J b.ins (fun Y z=>nomatch z),b.so.but G Z f,J b.td (fun Y z=>nomatch z),b.ke,VG L _ (Gu ds) b.va,b.nd⟩⟩
end
def TB9(H:Hp)(C CK tl:Addr)(v:V):Prop:=∃p t kl dl ks c d ds xs zs,v=.ref p/\H p=some (.tup [.ref t,.ref kl,.ref dl])/\BI H C CK t ks d ds/\kl≠tl/\dl≠tl/\H kl=some (.lst xs)/\HasL H xs (ks.map Jf)/\H dl=some (.lst zs)/\HasL H zs (ds.map W6)/\KK 30 c d ks/\(ks.map (·.1)).Nodup/\0<ks.length/\ks.length<=6/\0<ds.length/\ds.length<=8/\((ds.map (·.1)).map (·.1)).Nodup/\∀x∈ds,Nd (ks.map (·.1)) c 40 x.1
theorem TB9.mono(h:TB9 H C CK tl v)(e:Same H H'):TB9 H' C CK tl v:=by
 obtain⟨p,t,M,I,L,c,d,A,Z,Y,F,E,D,G,J,B,T,R,O,N⟩:=h;exact⟨p,t,M,I,L,c,d,A,Z,Y,F,e _ _ E,D.mono e,G,J,e _ _ B,T.mono e,e _ _ R,O.mono e,N⟩
theorem TB9.but(h:TB9 H C CK tl v)(N:H tl=some (.lst xs))(J:∀r,xs≠.non::r)(f:∀b o,b≠tl->H b=some o->H' b=some o):TB9 H' C CK tl v:=by
 obtain⟨p,t,T,X,M,c,d,O,Y,R,U,S,I,L,G,A,F,E,D,B⟩:=h;have Z:TK H H':=fun b P h=>f b _ (Vv h N (fun z=>nomatch z)) h;exact⟨p,t,T,X,M,c,d,O,Y,R,U,Z _ _ S,I.but N J f,L,G,f _ _ L A,VG Z _ (Vt M) F,f _ _ G E,VG Z _ (Md O) D,B⟩
theorem PL{α:Type}{D:α->Dat}{us:List α}(h:∀v∈ws,TB9 H C CK tl v)(J:H tl=some (.lst ws))(N:0<us.length)(Y:HasL H ys (us.map D))(G:∀u v,Has H v (D u)->∃a s r,v=.ref a/\H a=some (.tup (.str s::r)))(e:H l=some (.lst ys)):l≠tl:=fun z=>by
 subst z;rw[J]at e;obtain rfl:ws=ys:=by injection e with e;injection e
 cases us with
 |nil=>cases N
 |cons u us=>
  rw[ZT]at Y;obtain⟨y,r,rfl,M,_⟩:=Ym Y;obtain⟨a,s,R,rfl,Z⟩:=G u y M;obtain⟨p,t,T,B,_,_,_,_,_,_,O,L,_⟩:=h _ ZY;cases O;rw[L]at Z;cases Z
theorem QY(h:∀v∈ws,TB9 H C CK tl v)(r:List V):ws≠.non::r:=fun e=>by
 subst e;obtain⟨_,_,_,_,_,_,_,_,_,_,Y,_⟩:=h _ ZY;cases Y
theorem Ky(u:Str×Shp)(v:V)(h:Has H v (Jf u)):∃a s ys,v=.ref a/\H a=some (.tup (.str s::ys)):=by
 unfold Jf at h;obtain⟨t,ys,rfl,Z,J⟩:=Y6 h;obtain⟨L,Y,rfl,G,_⟩:=Ym J;obtain rfl:=has_str G;exact⟨t,_,Y,rfl,Z⟩
def M7(o:Option Str):Dat:=(o.map Dat.str).getD .non
theorem M6{o:Option Str}:Has H (JJ o) (M7 o):=by
 cases o with
 |none=>unfold JJ M7 Has;rfl
 |some y=>exact Y5
theorem OG{o:Option Str}:(M7 o).dep<=1/\(M7 o).wid<=1000:=by
 cases o with
 |none=>exact⟨by simp[M7,Dat.dep],by simp[M7,Dat.wid]⟩
 |some y=>exact⟨by simp[M7,Dat.dep],by simp[M7,Dat.wid]⟩
theorem Ou{ns:List Int}{c:Int}{lo hi:Option Int}(h:ns.length<=63):∃Y:List Int,[V.int c]++ Jp (ns.map V.int) lo hi=Y.map V.int/\Y.length<=64:=by
 refine⟨c::(ns.drop (HT.sIx (ns.map V.int).length 0 lo)).take (HT.sIx (ns.map V.int).length (ns.map V.int).length hi-HT.sIx (ns.map V.int).length 0 lo),?_,?_⟩
 .unfold Jp
  rw[ZT,List.map_take,List.map_drop]
  rfl
 .rw [Zd,ZL,List.length_drop]
  omega
end L2
namespace K4
open PySem L2
section
abbrev wps:List Str:=["book","around","body"]
theorem TF:Yr ["book","around","body","kind","place"] wps (Yh MH):=Y7
def Gx(C CK:Addr):Sp:=fun vs H Q _=>∃(t a:Addr)(v:V)(ks:List (Str×Shp))(c d:Str->Nat)(ds:List Dd)(kv:List (Key×V))(b:Bd),
 vs=[.ref t,.ref a,v]/\BI H C CK t ks d ds/\KK 30 c d ks/\HK (ks.map (·.1)) (Vh (ds.map (·.1)))/\NK (ks.map (·.1)) kv/\(∀x∈ds,x.1.2.1.length<=3)/\Rd H a (.dK kv)/\kv.length+b.dep<=500/\Has H v b.dat/\b.ok/\b.dep<13/\∀H',Same H H'->Q (JJ (kdn ks (Vh (ds.map (·.1))) 13 kv b)) H'
theorem Eo(F:Fun K "kind_within" "kind_within" MH f fd)(z:Df P w K mg base n "kind_or_place" wps (G4 C CK 13)):Yo P w K mg base CX0 (n+1) f fd wps (Gx C CK):=by
 refine F.oq TF fun j A Y s H m Q E B h=>?_;obtain⟨t,a,v,N,c,d,U,M,b,rfl,y,R,D,L,J,I,O,T,G,X,q⟩:=h;refine⟨_,YW (Je (Yt z B (pa3 (pv 0) (pv 1) (pv 2))) (Vn (n:=2) rfl (Ys (Yk 3 TF.nd) (Ys (Yk 4 TF.nd) VO))))
  (YZ (Yf (pv 3))),?_⟩
 dsimp only[JV,Cx.nox,Cx.wish];refine⟨t,a,v,N,c,d,U,M,b,rfl,y,R,D,L,J,I,O,T,G,X,by decide,fun r p g Z S _=>?_⟩;refine⟨_,Z0 S,rfl,?_⟩;exact q _ Z
def De(K:W.Frag):Sp:=fun vs H Q _=>∃(a:Addr)(ns:List Int),vs=[.ref a]/\SqL K H a (ns.map V.int)/\ns.length<=63/\∀H',Q (.bl true) H'
theorem UQ:Yr ["script","told","k","kinds","definitions","cell","stream","book","asks","around","body","handed"] ["script"] (Yh BM):=Y7
theorem Q9(hm:m+1<=n)(B:Blt mg)(F:Fun K "law" "law" BM f fd)(Mk':Mk K C gi)(mC:mg "Book"=some (.ref C))(GI:Yo P w K mg base CX0 m gi idd ["self","kinds","definitions"] (R9 C CK))(bI:Binds K idd ["self","kinds","definitions"] [])(DC:Df P w K mg base n "_law_cell" ["script","k"] (Fj K))(DB:Df P w K mg base n "_law_book" ["cell","most","many","top","left"] Nu)(DS:Df P w K mg base n "_law_stream" ["cell"] Gy)(DT:Df P w K mg base n "_law_take" ["stream","many"] JE)(DD:Df P w K mg base n "_law_drawn" dps R0)(DW:Df P w K mg base n "kind_within" wps (Gx C CK))(DK:Df P w K mg base n "_law_kinded" kps (Xb 13))(DE:Df P w K mg base n "_law_same" ["found","due"] (Xt 45)):
  Yo P w K mg base CX0 (n+1) f fd ["script"] (De K):=by
 refine F.oq UQ fun cdv A F6 s H vs Q E T h=>?_;obtain⟨a,ns,rfl,hS,h63,q⟩:=h;have hu:=V1 T;have I9:V7 (m+1) _:=T.mono hm;refine⟨_,YW (Yp 1 UQ.nd (VD VT))
  (YW (Vu Zt rfl (Ub rfl B.range (pa1 YX)) (Yk 2 UQ.nd)
   (YW (Je (Yt DB T (pa5 (Yt DC T (pa2 (pv 0) (pv 2))) YX YX YX YX)) (Vn (n:=2) rfl (Ys (Yk 3 UQ.nd) (Ys (Yk 4 UQ.nd) VO))))
   (YZ (JB (UR Zx Zy Zz JK (pv 1) (pa1 (Yw (pa3 (Dx Mk' GI I9 rfl mC bI .nil VH (pa2 (Y4 JN rfl B.list Vc (pa1 (pv 3))) (Y4 JN rfl B.list Vc (pa1 (pv 4))))) (pv 3) (pv 4)))))))))
  (YW (Vu Zt rfl (V5 (Y2 Ur (VD (pa1 (Yt DC T (pa2 (pv 0) YX)))) (VM Xd (pv 0) (VY YX) (VY YX)))) (Yk 5 UQ.nd)
   (YW (Yp 6 UQ.nd (Yt DS T (pa1 (pv 5))))
   (YW (Je (Yd Yv (pv 1) (Yt DT T (pa2 (pv 6) YX)) (fun _ _=>rfl)) (Vn (n:=3) rfl (Ys (Yk 7 UQ.nd) (Ys (Yk 3 UQ.nd) (Ys (Yk 4 UQ.nd) VO)))))
   (YW (Je (Yt DD T (pa3 (pv 6) (pv 3) (pv 4))) (Vn (n:=3) rfl (Ys (Yk 8 UQ.nd) (Ys (Yk 9 UQ.nd) (Ys (Yk 10 UQ.nd) VO)))))
   (YW (Yp 11 UQ.nd (Y4 Uw rfl B.dict JF (pa1 (pv 9))))
   (YW (Yx (Jt (V9 (Yt DE T (pa2 (Yt DW T (pa3 (pv 7) (pv 11) (pv 10))) (Yd Yg (Yt DK T (pa4 (Bj (Y4 (r:=Tb K) (Ux rfl) rfl B.dict JF (pa1 (pv 3)))) (pv 8) (pv 9) (pv 10))) YX))))) (YZ V8) Yl)
   (YZ (Yx (Yi (OH (by have:=hu;show(A.deeper _).units<cLine;omega)) (pv 11) (pv 9) (Yq _)) (YZ V8) Yl))))))))
  (YZ (Yf RO)))),?_⟩
 dsimp only[JV,Cx.nox,Cx.wish];show let a:=_;let b:=_;let c:=Y9 _ b _;let d:=_;let e:=Yj (Y9 _ d _) c;let f:=Yj _ e;let g:=Yj _ f;let h:=Yj _ g;let i:=Yj _ h;let j:=Yj (UE _ _ i) a;let k:=_;let l:=Yj _ k;let m:=Yj (UE _ _ l) j;Yj _ m _ _ _
 intros
 refine⟨sl 0,fun D T2=>?_⟩;refine up_in T2 _ fun H1 s1 g1=>?_;refine⟨2,rfl,by decide,by decide,?_⟩
 let I:Nat->St->Hp->Prop:=fun j U Hj=>Same H Hj/\∃(N:List V)(z2 z3 z4:Option V),Hj D=some (.lst N)/\N.length=j/\(∀v∈N,TB9 Hj C CK D v)/\U=[some (.ref a),some (.ref D),z2,z3,z4,none,none,none,none,none,none,none]
 refine WN (n:=(2:Int).toNat) I ⟨s1,[],_,_,_,g1,rfl,(fun v hv=>nomatch hv),rfl⟩ ?_ ?_
 .rintro BB RR j U Hj hj ⟨sj,N,z2,z3,z4,htlj,lw,tb,rfl⟩
  have j2:j<2:=hj;refine⟨a,ns,_,rfl,sj.seq hS,by exact Af,fun cc=>?_⟩;refine⟨cc,5,5,40,6,rfl,by decide,by decide,by decide,by decide,by decide,by decide,fun r kl dl O c d hs X xs zs H2 s2 hr2 Z L kk nd k0 k6 kg M R edd h0 h8 G1 hok dok=>?_⟩;subst edd;rw[ZA]at h0 h8;have wd:Wds 97 (X.map fun x=>x.1.1):=by rw[List.map_map]at G1;exact G1
  have ho:∀x∈X,Nd (O.map (·.1)) c 40 x.1:=fun x S=>hok _ (ZU.mpr ⟨x,S,rfl⟩);have Z8:=s2 _ _ htlj;have G2:∀v∈N,TB9 H2 C CK D v:=fun v hv=>(tb v hv).mono s2;have F8:kl≠D:=PL G2 Z8 k0 L Ky Z;have I1:dl≠D:=PL G2 Z8 h0 R (fun u v h=>let⟨a,_,_,e,q,_⟩:=Mb h;⟨a,_,_,e,q⟩) M;refine⟨_,Z0 hr2,rfl,?_⟩;refine⟨.inl ⟨rfl,_,Z1 Z8⟩,?_⟩;refine⟨kl,xs,rfl,.inl (Z1 Z),fun hk D0=>⟨dl,zs,rfl,.inl (Z1 (Yb D0 (.lst xs) _ _ M)),fun hd D3=>fun t dx fx N2 ndx=>?_⟩⟩;have s3:=Yb D0 (.lst xs);have g3:upd H2 hk (.lst xs) hk=some (.lst xs):=YY;generalize upd H2 hk (.lst xs)=H3 at s3 g3 D3 fx N2 |-;have s4:=Yb D3 (.lst zs);have g4:upd H3 hd (.lst zs) hd=some (.lst zs):=YY;generalize upd H3 hd (.lst zs)=H5 at s4 g4 fx N2 |-;have R5:=s3.trans s4;have tx:upd (upd H5 dx (.own t)) t (.ins C dx []) t=some (.ins C dx []):=YY;have s6:Same H5 (upd (upd H5 dx (.own t)) t (.ins C dx [])):=fun b o e=>by rw[Ya (Yc e fx),Ya (Yc e N2)];exact e
  generalize upd (upd H5 dx (.own t)) t (.ins C dx [])=H6 at tx s6 |-;have R4:=R5.trans s6;refine⟨t,dx,hk,hd,xs,zs,O,c,d,X,rfl,tx,s6 _ _ (s4 _ _ g3),L.mono R4,kk,nd,kg,k0,k6,s6 _ _ g4,R.mono R4,h0,h8,wd,ho,dok,fun H8 f8 bj8=>⟨rfl,?_⟩⟩;have s8:Same H5 H8:=fun b o e=>f8 b o (Yc e fx) (s6 b o e);have F5:=R5.trans s8;refine⟨sl 3,fun tp ftp=>?_⟩;refine up_in ftp _ fun H9 s9 g9=>?_;have Y:=F5.trans s9;have N5:=Y _ _ Z8;refine⟨D,N,_,rfl,rfl,N5,Ye (by omega),?_⟩;have N6:∀v∈N,TB9 H9 C CK D v:=fun v hv=>(G2 v hv).mono Y;have od:=QY N6;refine⟨((sj.trans s2).trans Y).putN T2,N++[.ref tp],_,_,_,YY,by rw[ZJ,lw];rfl,fun v hv=>?_,rfl⟩;refine TB9.but ?_ N5 od fun b o n e=>by rw[Ya n];exact e
  rcases ZV.mp hv with z|z
  .exact N6 v z
  .cases ZO.mp z
   exact⟨tp,t,kl,dl,O,c,d,X,xs,zs,rfl,g9,(bj8.bi).mono s9,F8,I1,Y _ _ Z,L.mono Y,Y _ _ M,R.mono Y,kk,nd,k0,k6,h0,h8,G1.nd,ho⟩
 .rintro U H2 ⟨s2,N,z2,z3,z4,htl2,lw,tb,rfl⟩
  have I3:N.length=2:=lw;refine⟨a,ns,2,rfl,s2.seq hS,by decide,fun c0=>⟨sl 1,fun l1 h1=>?_⟩⟩;refine up_in h1 _ fun H3 s3 g3=>?_;refine⟨_,rfl,_,rfl,a,_,rfl,s3.seq (s2.seq hS),fun l2 h2=>?_⟩;refine up_in h2 _ fun H4 s4 g4=>?_;obtain⟨ms,em,lm⟩:=Ou (c:=c0) (lo:=some 3) (hi:=some 18) h63;have lc:=congrArg List.length em;rw[ZJ,ZA]at lc;refine⟨l1,l2,_,_,rfl,rfl,s4 _ _ g3,g4,Zf (Ye (by exact Ae lc lm)),fun l h3=>?_⟩;rw[em];refine up_in h3 _ fun H5 s5 g5=>?_;have F2:∀v∈N,TB9 H5 C CK D v:=fun v hv=>(tb v hv).mono ((s3.trans s4).trans s5);have F1:=s5 _ _ (s4 _ _ (s3 _ _ htl2));refine⟨⟨_,Z1 g5⟩,?_⟩
  let I:Nat->St->Hp->Prop:=fun i U Hi=>Same H5 Hi/\∃(z2 z3 z4 z5 z6 z7 z8 z9 N4 N3:Option V),U=[some (.ref a),some (.ref D),z2,z3,z4,z5,z6,z7,z8,z9,N4,N3]
  refine WO (xs:=ms.map V.int) I ⟨Z6 _,_,_,_,_,_,_,_,_,_,_,rfl⟩ (fun i U Hi _ z=>Z1 (z.1 _ _ g5)) ?_ ?_
  .rintro BB RR i x U Hi S ⟨si,z2,z3,z4,z5,z6,z7,z8,z9,N4,N3,rfl⟩
   rw[ZG]at S;obtain⟨ce,_,rfl⟩:=Zh.mp S;refine⟨ce,rfl,fun p H6 f6 b6 F4=>?_⟩;refine⟨p,2,rfl,F4,by decide,by decide,fun r H7 r0 r1 b7 F3=>?_⟩;have N7:SameB p Hi H7:=b6.sb.trans b7.sb;have s7:Same Hi H7:=N7.same f6;obtain⟨m1,v1,I5,I4⟩:=Jq (xs:=N) r0 (by rw[I3];exact r1);obtain⟨tp,t,kl,dl,O,c,d,X,xs,zs,rfl,I6,bi,_,_,Z,L,M,R,kk,nd,k0,k6,d0,d8,I2,ho⟩:=F2 v1 (ZH I5);have G:=si.trans s7;refine⟨_,_,Z1 (G _ _ F1),I4,?_⟩;refine⟨_,Z0 (G _ _ I6),rfl,?_⟩;have F7:kl≠p:=Yc (si _ _ Z) f6;have F9:dl≠p:=Yc (si _ _ M) f6
   have hg:∀g∈X.map (·.1),g.2.1.length<=3/\(∀q∈g.2.1,q.2∈O.map (·.1))/\g.2.2∈O.map (·.1):=fun g hg=>by
    obtain⟨x,S,rfl⟩:=ZU.mp hg;exact⟨(ho x S).len,(ho x S).kin,(ho x S).own⟩
   have hk:HK (O.map (·.1)) (Vh (X.map (·.1))):=fun f ps k e=>(hg _ (Gi e)).2.2;refine⟨p,kl,dl,xs,zs,O,c,d,X,rfl,F3,F7,F9,G _ _ Z,L.mono G,kk,nd,k0,k6,G _ _ M,R.mono G,d8,I2,hg,fun rr aA a8 v b kv o H8 b8 st8 S2 hg8 N1 nk R8 T0 ok dp sz=>?_⟩;have s8:Same Hi H8:=(N7.trans b8).same f6;have R3:=si.trans s8;refine⟨_,Z0 S2,rfl,?_⟩;refine⟨a8,kv,rfl,.inr ⟨_,N1⟩,fun hl fhl=>?_⟩;refine up_in fhl _ fun H9 s9 g9=>?_;have R1:=R3.trans s9;refine⟨t,hl,v,O,c,d,X,kv,b,rfl,bi.mono R1,kk,hk,nk,fun x S=>(ho x S).len,.inl g9,by exact Pg dp R8,T0.mono s9,ok,by exact Im dp,fun H10 L2=>?_⟩;have J2:=R1.trans L2;obtain⟨ts,N0,exs,pr,ek,I7⟩:=Ue (K:=K) (L.mono J2);refine⟨kl,ts,N0,rfl,Z1 (by rw[<-exs];exact J2 _ _ Z),pr,Gf ek nd,fun sA I8=>⟨sA,N0,rfl,YY,fun oS=>?_⟩⟩;rw[W9];refine up_in I8 _ fun H11 G3 g11=>?_;have J:=(s9.trans L2).trans G3;refine⟨sA,aA,a8,v,O,_,c,d,kv,b,rfl,⟨oS,N0,g11,ek,fun y s e=>let⟨v,e1,e2⟩:=I7 y s e;⟨v,e1,e2.mono G3⟩⟩,hg8.mono J,nd,kk,hk,nk,.inr ⟨_,J _ _ N1⟩,by exact Pg dp R8,T0.mono J,ok,by exact Im dp,by exact Ad dp,sz,fun r12 wl ws' H12 R7 _ h12 _ _ _ _=>?_⟩;refine⟨_,_,Z0 h12,rfl,?_⟩;have dw:=OG (o:=kdn O (Vh (X.map (·.1))) 13 kv b);refine⟨_,_,_,_,rfl,M6,M6,by have:=dw.1;omega,by have:=dw.2;omega,fun H13 R6=>?_⟩;rw[Dat.beq_self];refine⟨_,rfl,Y1 (by simp) ?_⟩;have Z9:=(J.trans R7).trans R6;have N8:=((L2.trans G3).trans R7).trans R6;refine⟨hl,a8,kv,rfl,rfl,.inl (N8 _ _ g9),.inr ⟨_,Z9 _ _ N1⟩,fun q hq=>let⟨_,k,e,_⟩:=nk q hq;⟨k,by rw[e]⟩,_,rfl,Y1 (by simp) ?_⟩;exact⟨R3.trans Z9,_,_,_,_,_,_,_,_,_,_,rfl⟩
  .rintro U Hi ⟨_,_⟩
   exact q Hi
end
end K4
namespace L2
open PySem
theorem Oo{K:W.Frag}(X:K.In h)(J:K.lookup a=some ⟨.type "dict",none,.dict es n,#[]⟩)(G:W.KeysLit w.params es.toList):h.MapOf (VC P w) a fun k=>findBy JY es k:=by
 have keys:KeysOf (VC P w) es:=fun d L=>by
  have⟨x,t,Y,Z⟩:=W.KeysLit.all G d (by simpa using L);refine⟨Sum.inr x,?_,Z⟩;show JY (Sum.inr x) d.key=true;rw[Y,RX]
 exact⟨_,es,n,X a _ J,⟨rfl,rfl,rfl⟩,rfl,keys,fun k=>rfl⟩
theorem XF(Y:K.lookup a=some ⟨.type "dict",none,.dict es n,#[]⟩)(e:W.nsIn K a x=some (some v)):findBy JY es (Sum.inr x)=some v:=by
 have q:=W.find_K Y e;exact q
end L2
namespace K4
open PySem L2
section
variable{f g C CK:Addr}
def RA(P:Program)(w:World)(K:W.Frag)(mg:Str->Option Value)(base:Heap)(C CK:Addr)(mR:Key->Option Value)(x:Str)(p:Bd->Prop):Prop:=∃g gd,mR (Sum.inr x)=some (.ref g)/\Yo P w K mg base CX0 3 g gd rps (X7 C CK p)/\W.keepIn K (.ref g)=true/\Binds K gd rps []
theorem RA.at(r:RA P w K mg base C CK mR x p)(L:Nat)(e:b.word=x)(h:p b):∃(g:Addr)(Y:FuncData)(p:Bd->Prop),mR (Sum.inr b.word)=some (.ref g)/\Yo P w K mg base CX0 (L+3) g Y rps (X7 C CK p)/\p b/\W.keepIn K (.ref g)=true/\Binds K Y rps []:=by
 obtain⟨g,Y,M,G,J,Z⟩:=r;exact⟨g,Y,p,by rw[e];exact M,G.mono (by exact Ih),h,J,Z⟩
theorem IQ(L:Nat)(T:RA P w K mg base C CK mR "tag" fun b=>∃t,b=.tag t)(R:RA P w K mg base C CK mR "name" fun b=>∃x,b=.name x)(O:RA P w K mg base C CK mR "pair" fun b=>∃e g,b=.pair e g)(N:RA P w K mg base C CK mR "one" fun b=>∃e,b=.one e)(M:RA P w K mg base C CK mR "other" fun b=>∃e,b=.other e)(G:RA P w K mg base C CK mR "choose" fun b=>∃e ts bs,b=.choose e ts bs/\1<=bs.length)(J:RA P w K mg base C CK mR "ask" fun b=>∃fn as,b=.ask fn as)(Z:RA P w K mg base C CK mR "let" fun b=>∃x k e g,b=.letb x k e g):
  ∀b:Bd,(∀e ts bs,b=.choose e ts bs->1<=bs.length)->∃(g:Addr)(Y:FuncData)(p:Bd->Prop),mR (Sum.inr b.word)=some (.ref g)/\Yo P w K mg base CX0 (L+3) g Y rps (X7 C CK p)/\p b/\W.keepIn K (.ref g)=true/\Binds K Y rps []
 |.tag t,_=>T.at L rfl ⟨t,rfl⟩
 |.name x,_=>R.at L rfl ⟨x,rfl⟩
 |.pair e g,_=>O.at L rfl ⟨e,g,rfl⟩
 |.one e,_=>N.at L rfl ⟨e,rfl⟩
 |.other e,_=>M.at L rfl ⟨e,rfl⟩
 |.choose e ts bs,h=>G.at L rfl ⟨e,ts,bs,rfl,h e ts bs rfl⟩
 |.ask fn as,_=>J.at L rfl ⟨fn,as,rfl⟩
 |.letb x k e g,_=>Z.at L rfl ⟨x,k,e,g,rfl⟩
theorem QR(B:Blt mg)(Y:mg "enumerate"=none)(S:BCl K C)(I:KCl K CK)(F:Fun K "kind_or_place" "kind_or_place" sKP f fd)(T:Binds K fd wps [])(J:mg "kind_or_place"=some (.ref f))(M:JZ K C "kinds" g1)(X:Yo P w K mg base CX0 3 g1 d1 ["self"] (J4 C CK))(A:Binds K d1 ["self"] [])(G:JZ K CK "names" g2)(U:Yo P w K mg base CX0 3 g2 d2 ["self"] (Xa CK))(D:Binds K d2 ["self"] [])(j:Df P w K mg base 3 "parts" ["body"] GG)(Z:mg "RULES"=some (.ref aR))(O:base.MapOf (VC P w) aR mR)(N:∀(L:Nat)(b:Bd),(∀e ts bs,b=.choose e ts bs->1<=bs.length)->∃(g:Addr)(R:FuncData)(p:Bd->Prop),mR (Sum.inr b.word)=some (.ref g)/\Yo P w K mg base CX0 (L+3) g R rps (X7 C CK p)/\p b/\W.keepIn K (.ref g)=true/\Binds K R rps []):
  ∀n,Yo P w K mg base CX0 (n+3) f fd wps (G4 C CK n)
 |0=>.none fun z H Q E h=>by
  obtain⟨_,_,_,_,_,_,_,_,_,_,_,_,_,_,_,_,_,_,_,y,_⟩:=h;exact Zu _ y
 |n+1=>(zH (L:=n) B Y S I F (QR B Y S I F T J M X A G U D j Z O N n) T J M (X.mono (by exact Ih)) A G (U.mono (by exact Ih)) D (j.up (by exact Ih)) Z O (N n)).mono (by omega)
theorem RW(B:Blt mg)(Y:mg "enumerate"=none)(F:Fun K "_law_kinded" "_law_kinded" GY f fd)(J:Binds K fd kps [])(Z:mg "_law_kinded"=some (.ref f))(G:Df P w K mg base 6 "_law_parts" ["body"] Vy)(M:Df P w K mg base 6 "_law_own_kind" ops Ru):∀n,Yo P w K mg base CX0 (n+6) f fd kps (Xb n)
 |0=>.none fun O H Q E h=>by
  obtain⟨_,_,_,_,_,_,_,_,_,_,_,_,_,_,_,_,_,_,_,_,_,N,_⟩:=h;exact Zu _ N
 |n+1=>(Eu (L:=n) B Y F (RW B Y F J Z G M n) J Z (G.up (by exact KE)) (M.up (by exact KE))).mono (by omega)
end
section
variable{P:Program}{w:World}{K:W.Frag}{mg:Str->Option Value}{base:Heap}{f g:Addr}{fd gd:FuncData}
theorem Ea{m:Nat}:Yo P w K mg base CX0 m f fd ["body"] (U9 0):=
 ⟨fun J H Q E h=>let⟨_,_,_,_,_,Z,_⟩:=h;Zp Z (Zu _),fun A Y s H args G J Q E _ _ _ _ h=>let⟨_,_,_,_,_,Z,_⟩:=h;Zp Z (Zu _)⟩
theorem MD(B:Blt mg)(Y:mg "sum"=none)(F:Fun K "_law_size" "_law_size" Dn f fd)(M:Binds K fd ["body"] [])(J:mg "_law_size"=some (.ref f))(N:Yo P w K mg base CX0 1 g gd ["body"] Vy)(L:Binds K gd ["body"] [])(G:W.keepIn K (.ref g)=true)(Z:mg "_law_parts"=some (.ref g)):∀n,Yo P w K mg base CX0 (1+n) f fd ["body"] (U9 n)
 |0=>Ea
 |n+1=>OP (m:=1+n) B Y F (MD B Y F M J N L G Z n) M J (N.mono (by omega)) L G Z
end
def At(K:W.Frag)(f:Addr)(x q:Str)(st:Stmt):Prop:=∃(oc:Value)(od:Option Addr)(kV dc pm:Value)(an:Option Addr)(cd ct:Value)(sl:Array (Option Value)),K.lookup f=some ⟨oc,od,.func (W.fnOf x q (UT st) (J0 st) (Yh st) .none kV dc pm an cd ct),sl⟩/\W.codeIn K cd q=true/\W.keepIn K (.ref f)=true
theorem At.of{K:W.Frag}{f:Addr}{x q:Str}{st:Stmt}{G:Value}{J:Option Addr}{kV L Z:Value}{M:Option Addr}{Y ct:Value}{sl:Array (Option Value)}(l:K.lookup f=some ⟨G,J,.func (W.fnOf x q (UT st) (J0 st) (Yh st) .none kV L Z M Y ct),sl⟩)(d:W.codeIn K Y q=true)(k:W.keepIn K (.ref f)=true):At K f x q st:=⟨G,J,kV,L,Z,M,Y,ct,sl,l,d,k⟩
section
variable{K:W.Frag}{x q:Str}{st:Stmt}{f:Addr}{fd:FuncData}{ps:List Str}
def BA1(x q:Str)(st:Stmt)(ps:List Str)(us:List Value):Prop:=∀(kV doc pm:Value)(an:Option Addr)(cdv ct:Value),bindArgs (W.fnOf x q (UT st) (J0 st) (Yh st) .none kV doc pm an cdv ct) ⟨us,[]⟩=pure (ps.zip us)
def LY:Nat->(List Value->Prop)->Prop
 |0,R=>R []
 |n+1,R=>∀a,LY n fun us=>R (a::us)
theorem LY.at:∀{n:Nat}{R:List Value->Prop}{us:List Value},LY n R->us.length=n->R us
 |0,_,[],h,_=>h
 |_+1,R,a::_,h,e=>LY.at (R:=fun us=>R (a::us)) (h a) (Nat.succ.inj e)
theorem _root_.L2.Fun.bn(F:Fun K x q st f fd)(ps:List Str)(h:LY ps.length (BA1 x q st ps)):Binds K fd ps []:=F.binds fun _ _ _ _ _ _ _ e=>h.at e _ _ _ _ _ _
theorem _root_.L2.Fun.b1(F:Fun K x q st f fd)(p:Str)(h:∀a,BA1 x q st [p] [a]:=by exact fun _ _ _ _ _ _ _=>rfl):Binds K fd [p] []:=F.bn [p] h
theorem _root_.L2.Fun.b2(F:Fun K x q st f fd)(p Y:Str)(h:∀a b,BA1 x q st [p,Y] [a,b]:=by exact fun _ _ _ _ _ _ _ _=>rfl):Binds K fd [p,Y] []:=F.bn [p,Y] h
theorem _root_.L2.Fun.b3(F:Fun K x q st f fd)(p Z Y:Str)(h:∀a b c,BA1 x q st [p,Z,Y] [a,b,c]:=by exact fun _ _ _ _ _ _ _ _ _=>rfl):Binds K fd [p,Z,Y] []:=F.bn [p,Z,Y] h
theorem _root_.L2.Fun.b4(F:Fun K x q st f fd)(p J Z Y:Str)(h:∀a b c d,BA1 x q st [p,J,Z,Y] [a,b,c,d]:=by exact fun _ _ _ _ _ _ _ _ _ _=>rfl):Binds K fd [p,J,Z,Y] []:=F.bn [p,J,Z,Y] h
theorem _root_.L2.Fun.b5(F:Fun K x q st f fd)(p G J Z Y:Str)(h:∀a b c d i,BA1 x q st [p,G,J,Z,Y] [a,b,c,d,i]:=by exact fun _ _ _ _ _ _ _ _ _ _ _=>rfl):Binds K fd [p,G,J,Z,Y] []:=F.bn [p,G,J,Z,Y] h
theorem _root_.L2.Fun.b6(F:Fun K x q st f fd)(p L G J Z Y:Str)(h:∀a b c d i j,BA1 x q st [p,L,G,J,Z,Y] [a,b,c,d,i,j]:=by exact fun _ _ _ _ _ _ _ _ _ _ _ _=>rfl):Binds K fd [p,L,G,J,Z,Y] []:=F.bn [p,L,G,J,Z,Y] h
end
theorem At.fn{K:W.Frag}{f:Addr}{x q:Str}{st:Stmt}(h:At K f x q st):∃Y,Fun K x q st f Y:=by
 obtain⟨_,_,_,_,_,_,_,_,_,l,d,k⟩:=h;exact⟨_,LF (st:=st) l d k⟩
def GA(K:W.Frag)(x:Str)(f:Addr)(st:Stmt):Prop:=W.nsIn K mainGlobals x=some (some (.ref f))/\At K f x x st
def GR(K:W.Frag)(a:Addr)(y x:Str)(f:Addr)(st:Stmt):Prop:=W.nsIn K a y=some (some (.ref f))/\At K f x x st
def GM(K:W.Frag)(C:Addr)(x q:Str)(f:Addr)(st:Stmt):Prop:=(W.findIn K (.ref C) x=some (some (.ref f))/\W.isFn K (.ref f)=true)/\At K f x q st
def GN(K:W.Frag)(x:Str):Prop:=W.nsIn K mainGlobals x=some none
def GC(K:W.Frag)(x:Str)(f:Addr):Prop:=W.nsIn K mainGlobals x=some (some (.ref f))
def GV(K:W.Frag)(x:Str)(v:V)(u:Value):Prop:=W.nsIn K mainGlobals x=some (some u)/\RelV v u
def GF(K:W.Frag)(C:Addr)(x:Str):Prop:=W.findIn K (.ref C) x=some none
theorem GA.go{K:W.Frag}{h:Heap}{Z:Str->Option Value}{x:Str}{f:Addr}{st:Stmt}(X:K.In h)(G:h.Ns mainGlobals Z)(a:GA K x f st):∃Y,Fun K x x st f Y/\W.keepIn K (.ref f)=true/\Z x=some (.ref f):=
 let⟨Y,F⟩:=a.2.fn
 ⟨Y,F,F.kp,W.mg_of X G a.1⟩
theorem GR.go{K:W.Frag}{c:Addr}{y x:Str}{f:Addr}{st:Stmt}(a:GR K c y x f st):∃Y,Fun K x x st f Y/\W.keepIn K (.ref f)=true/\W.nsIn K c y=some (some (.ref f)):=
 let⟨Y,F⟩:=a.2.fn
 ⟨Y,F,F.kp,a.1⟩
theorem GM.go{K:W.Frag}{c:Addr}{x q:Str}{f:Addr}{st:Stmt}(a:GM K c x q f st):∃Y,Fun K x q st f Y/\JZ K c x f:=
 let⟨Y,F⟩:=a.2.fn
 ⟨Y,F,a.1.1,a.1.2,F.kp⟩
theorem GV.go{K:W.Frag}{h:Heap}{Y:Str->Option Value}{x:Str}{v:V}{u:Value}(X:K.In h)(G:h.Ns mainGlobals Y)(a:GV K x v u):Y x=some u/\RelV v u:=⟨W.mg_of X G a.1,a.2⟩
structure CA(K:W.Frag)(C:Addr):Prop where
 pg:W.plainGet K C Str.empty=true
 hd:W.hasDictIn K C=true
 po:W.plainOver K C=true
 sa:W.findIn K (.ref C) "__setattr__"=some (some (.builtin "object.__setattr__"))
 ma:W.makesIn K C=true
 kc:W.keepIn K (.ref C)=true
theorem all_at{l:W.OpenLaw}{w:World}{K:W.Frag}{h:Heap}{mg:Str->Option Value}{fa CK C aR f1 f2 f3 f4 f5 f6 f7 f8 f9 f10 f11 f12 f13 f14 f15 f16 f17 f18 f19 f20 f21 f22 f23 f24 f25 f26 f27 f28 f29 f30 f31 f32 f33 f34 f35 f36 f37 f38 f39 f40 f41 f42 f43 f44 f45 f46 f47 f48 f49 f50 f51 f52 f53 f54 f55 f56 f57 f58 f59 f60 f61 f62 f63 f64 f65 f66 f67 f68 f69 f70:Addr}{es:Array DictEntry}{nR:Nat}{u1v u2v u3v u4v u5v u6v u7v u8v u9v u10v u11v:Value}(X:K.In h)(G:h.Ns mainGlobals mg)(hfa:mg "law"=some (.ref fa))(aC:GC K "Kinds" CK)(aB:GC K "Book" C)(aU:GC K "RULES" aR)(lR:K.lookup aR=some ⟨.type "dict",none,.dict es nR,#[]⟩)(kR:W.KeysLit w.params es.toList)(a1:GA K "parts" f1 BF)(a2:GA K "kind_or_place" f2 sKP)(a3:GA K "kind_of_part" f3 BP)(a4:GA K "is_name" f4 MQ)(a5:GA K "is_tag" f5 BS)(a6:GA K "is_spelt" f6 BC)(a7:GA K "are_parameters" f7 Bc)(a8:GA K "row_count" f8 Wc)(a9:GA K "rows_over" f9 Wb)(a10:GA K "_law_cell" f10 IN)(a11:GA K "_law_mixed" f11 BL)(a12:GA K "_law_stream" f12 MI)(a13:GA K "_law_take" f13 Fx)(a14:GA K "_law_words" f14 N9)(a15:GA K "_law_small" f15 BE)(a16:GA K "_law_pair" f16 F0)(a17:GA K "_law_kinds" f17 BN)(a18:GA K "_law_heads" f18 BU)(a19:GA K "_law_plain" f19 TV)(a20:GA K "_law_some" f20 Dm)(a21:GA K "_law_choose" f21 GZ)(a22:GA K "_law_ask" f22 Lz)(a23:GA K "_law_part" f23 MM)(a24:GA K "_law_let" f24 Ly)(a25:GA K "_law_body" f25 Mx)(a26:GA K "_law_parts" f26 ML)(a27:GA K "_law_size" f27 Dn)(a28:GA K "_law_book" f28 IO)(a29:GA K "_law_same" f29 Do)(a30:GA K "kind_within" f30 MH)(a31:GA K "_law_tag_kind" f31 Fz)(a32:GA K "_law_pair_kind" f32 BH)(a33:GA K "_law_own_kind" f33 IA)(a34:GA K "_law_kinded" f34 GY)(a35:GA K "_law_spoil_node" f35 MJ)(a36:GA K "_law_set_at" f36 MK)(a37:GA K "_law_all_places" f37 Dr)(a38:GA K "_law_part_at" f38 MN)(a39:GA K "_law_deep" f39 Dq)(a40:GA K "_law_lets" f40 Dp)(a41:GA K "_law_body_fits" f41 IM)(a42:GA K "_law_spoilt_body" f42 TR)(a43:GA K "_law_drawn" f43 BV)(a44:GA K "law" f44 BM)(a45:GR K aR "tag" "kind_of_tag_body" f45 IH)(a46:GR K aR "name" "kind_of_name_body" f46 BR)(a47:GR K aR "pair" "kind_of_pair_body" f47 BQ)(a48:GR K aR "one" "kind_of_one_body" f48 II)(a49:GR K aR "other" "kind_of_other_body" f49 MO)(a50:GR K aR "choose" "kind_of_choose_body" f50 TY)(a51:GR K aR "ask" "kind_of_ask_body" f51 IK)(a52:GR K aR "let" "kind_of_let_body" f52 IJ)(a53:GM K CK "__init__" "Kinds.__init__" f53 IL)(a54:GM K CK "take" "Kinds.take" f54 BO)(a55:GM K CK "take_tags" "Kinds.take_tags" f55 Fy)(a56:GM K CK "take_pair" "Kinds.take_pair" f56 BG)(a57:GM K CK "names" "Kinds.names" f57 BK)(a58:GM K CK "worths_of" "Kinds.worths_of" f58 Wa)(a59:GM K CK "shape_of" "Kinds.shape_of" f59 TU)(a60:GM K CK "kind_of_tag" "Kinds.kind_of_tag" f60 MP)(a61:GM K CK "kind_of_pair" "Kinds.kind_of_pair" f61 TX)(a62:GM K C "__init__" "Book.__init__" f62 Ba)(a63:GM K C "take_heads" "Book.take_heads" f63 BX)(a64:GM K C "is_head" "Book.is_head" f64 Bb)(a65:GM K C "check_bodies" "Book.check_bodies" f65 MT)(a66:GM K C "kinds" "Book.kinds" f66 MS)(a67:GM K C "names" "Book.names" f67 MR)(a68:GM K C "parameters" "Book.parameters" f68 BY)(a69:GM K C "kind_of" "Book.kind_of" f69 BZ)(a70:GM K C "told_of" "Book.told_of" f70 BW)(z1:GN K "len")(z2:GN K "isinstance")(z3:GN K "bool")(z4:GN K "str")(z5:GN K "int")(z6:GN K "tuple")(z7:GN K "list")(z8:GN K "dict")(z9:GN K "all")(z10:GN K "zip")(z11:GN K "max")(z12:GN K "range")(z13:GN K "sorted")(z14:GN K "min")(z15:GN K "sum")(z16:GN K "enumerate")(z17:GN K "any")(g1:GV K "SMALL" (.str (Str.ofString "abcdefghijklmnopqrstuvwxyz")) u1v)(g2:GV K "GREAT" (.str (Str.ofString "ABCDEFGHIJKLMNOPQRSTUVWXYZ")) u2v)(g3:GV K "LONGEST" (.int 8) u3v)(g4:GV K "MOST_KINDS" (.int 6) u4v)(g5:GV K "MOST_TAGS" (.int 4) u5v)(g6:GV K "MOST_WORTHS" (.int 30) u6v)(g7:GV K "MOST_PAIRS_DEEP" (.int 2) u7v)(g8:GV K "MOST_DEFINITIONS" (.int 8) u8v)(g9:GV K "MOST_PARAMETERS" (.int 3) u9v)(g10:GV K "MOST_ROWS" (.int 200) u10v)(g11:GV K "MOST_ROWS_IN_ALL" (.int 400) u11v)(caCK:CA K CK)(caC:CA K C)(n1:GF K CK "shapes")(n2:GF K CK "worths")(n3:GF K CK "heights")(n4:GF K CK "pairs_deep")(n5:GF K CK "tag_kinds")(n6:GF K CK "pair_kinds")(nb1:GF K C "sorts")(nb2:GF K C "told")(nb3:GF K C "rows")(nb4:GF K C "turns"):∃fd:FuncData,(∀(s:Shared)(v:Value),BindsTo s fd ⟨[v],[]⟩ [("script",v)])/\∀base:Heap,K.In base->base.Ns mainGlobals mg->Yo l.prog w K mg base CX0 53 fa fd ["script"] (De K):=by
 have e:=hfa.symm.trans (W.mg_of X G a44.1);cases e;obtain⟨d1,F1,k1,m1⟩:=a1.go X G;have b1:=F1.b1 "body";obtain⟨d2,F2,k2,m2⟩:=a2.go X G;have b2:=F2.b3 "book" "around" "body";obtain⟨d3,F3,k3,m3⟩:=a3.go X G;have b3:=F3.b3 "book" "kind" "at";obtain⟨d4,F4,k4,m4⟩:=a4.go X G;have b4:=F4.b1 "text";obtain⟨d5,F5,k5,m5⟩:=a5.go X G;have b5:=F5.b1 "text";obtain⟨d6,F6,k6,m6⟩:=a6.go X G;have b6:=F6.b2 "text" "letters";obtain⟨d7,F7,k7,m7⟩:=a7.go X G;have b7:=F7.b2 "kinds" "parameters";obtain⟨d8,F8,k8,m8⟩:=a8.go X G;have b8:=F8.b2 "kinds" "parameters";obtain⟨d9,F9,k9,m9⟩:=a9.go X G;have b9:=F9.b2 "kinds" "parameters";obtain⟨d10,F10,k10,m10⟩:=a10.go X G;have b10:=F10.b2 "script" "k";obtain⟨d11,F11,k11,m11⟩:=a11.go X G;have b11:=F11.b2 "cell" "k";obtain⟨d12,F12,k12,m12⟩:=a12.go X G;have b12:=F12.b1 "cell";obtain⟨d13,F13,k13,m13⟩:=a13.go X G;have b13:=F13.b2 "stream" "many";obtain⟨d14,F14,k14,m14⟩:=a14.go X G;have b14:=F14.b4 "stream" "many" "letters" "ways";obtain⟨d15,F15,k15,m15⟩:=a15.go X G;have b15:=F15.b2 "stream" "many";obtain⟨d16,F16,k16,m16⟩:=a16.go X G;have b16:=F16.b6 "stream" "names" "counts" "depths" "taken" "top";obtain⟨d17,F17,k17,m17⟩:=a17.go X G;have b17:=F17.b3 "stream" "most" "top";obtain⟨d18,F18,k18,m18⟩:=a18.go X G;have b18:=F18.b5 "stream" "kinds" "counts" "most" "top";obtain⟨d19,F19,k19,m19⟩:=a19.go X G;have b19:=F19.b4 "stream" "world" "around" "kind";obtain⟨d20,F20,k20,m20⟩:=a20.go X G;have b20:=F20.b5 "stream" "world" "around" "kind" "deep";obtain⟨d21,F21,k21,m21⟩:=a21.go X G;have b21:=F21.b5 "stream" "world" "around" "kind" "deep";obtain⟨d22,F22,k22,m22⟩:=a22.go X G;have b22:=F22.b5 "stream" "world" "around" "kind" "deep";obtain⟨d23,F23,k23,m23⟩:=a23.go X G;have b23:=F23.b5 "stream" "world" "around" "kind" "deep";obtain⟨d24,F24,k24,m24⟩:=a24.go X G;have b24:=F24.b5 "stream" "world" "around" "kind" "deep";obtain⟨d25,F25,k25,m25⟩:=a25.go X G;have b25:=F25.b5 "stream" "world" "around" "kind" "deep";obtain⟨d26,F26,k26,m26⟩:=a26.go X G;have b26:=F26.b1 "body";obtain⟨d27,F27,k27,m27⟩:=a27.go X G;have b27:=F27.b1 "body";obtain⟨d28,F28,k28,m28⟩:=a28.go X G;have b28:=F28.b5 "cell" "most" "many" "top" "left";obtain⟨d29,F29,k29,m29⟩:=a29.go X G;have b29:=F29.b2 "found" "due";obtain⟨d30,F30,k30,m30⟩:=a30.go X G;have b30:=F30.b3 "book" "around" "body";obtain⟨d31,F31,k31,m31⟩:=a31.go X G;have b31:=F31.b2 "shapes" "tag";obtain⟨d32,F32,k32,m32⟩:=a32.go X G;have b32:=F32.b3 "shapes" "one" "other";obtain⟨d33,F33,k33,m33⟩:=a33.go X G;have b33:=F33.b5 "shapes" "asks" "around" "body" "found";obtain⟨d34,F34,k34,m34⟩:=a34.go X G;have b34:=F34.b4 "shapes" "asks" "around" "body";obtain⟨d35,F35,k35,m35⟩:=a35.go X G;have b35:=F35.b4 "stream" "shapes" "asks" "body";obtain⟨d36,F36,k36,m36⟩:=a36.go X G;have b36:=F36.b3 "body" "place" "other";obtain⟨d37,F37,k37,m37⟩:=a37.go X G;have b37:=F37.b1 "body";obtain⟨d38,F38,k38,m38⟩:=a38.go X G;have b38:=F38.b2 "body" "place";obtain⟨d39,F39,k39,m39⟩:=a39.go X G;have b39:=F39.b1 "body";obtain⟨d40,F40,k40,m40⟩:=a40.go X G;have b40:=F40.b1 "body";obtain⟨d41,F41,k41,m41⟩:=a41.go X G;have b41:=F41.b1 "body";obtain⟨d42,F42,k42,m42⟩:=a42.go X G;have b42:=F42.b4 "stream" "shapes" "asks" "body";obtain⟨d43,F43,k43,m43⟩:=a43.go X G;have b43:=F43.b3 "stream" "kinds" "definitions";obtain⟨_,_,kV,dc,pm,an,cd,ct,_,l',d',k44⟩:=a44.2;have F44:=LF (st:=BM) l' d' k44;obtain⟨d45,F45,k45,a45⟩:=a45.go;have b45:=F45.b4 "book" "around" "body" "found";obtain⟨d46,F46,k46,a46⟩:=a46.go;have b46:=F46.b4 "book" "around" "body" "found";obtain⟨d47,F47,k47,a47⟩:=a47.go;have b47:=F47.b4 "book" "around" "body" "found";obtain⟨d48,F48,k48,a48⟩:=a48.go;have b48:=F48.b4 "book" "around" "body" "found";obtain⟨d49,F49,k49,a49⟩:=a49.go;have b49:=F49.b4 "book" "around" "body" "found";obtain⟨d50,F50,k50,a50⟩:=a50.go;have b50:=F50.b4 "book" "around" "body" "found";obtain⟨d51,F51,k51,a51⟩:=a51.go;have b51:=F51.b4 "book" "around" "body" "found";obtain⟨d52,F52,k52,a52⟩:=a52.go;have b52:=F52.b4 "book" "around" "body" "found";obtain⟨d53,F53,w53⟩:=a53.go;have b53:=F53.b2 "self" "told";obtain⟨d54,F54,w54⟩:=a54.go;have b54:=F54.b3 "self" "name" "shape";obtain⟨d55,F55,w55⟩:=a55.go;have b55:=F55.b3 "self" "name" "tags";obtain⟨d56,F56,w56⟩:=a56.go;have b56:=F56.b4 "self" "name" "one" "other";obtain⟨d57,F57,w57⟩:=a57.go;have b57:=F57.b1 "self";obtain⟨d58,F58,w58⟩:=a58.go;have b58:=F58.b2 "self" "kind";obtain⟨d59,F59,w59⟩:=a59.go;have b59:=F59.b2 "self" "kind";obtain⟨d60,F60,w60⟩:=a60.go;have b60:=F60.b2 "self" "tag";obtain⟨d61,F61,w61⟩:=a61.go;have b61:=F61.b3 "self" "one" "other";obtain⟨d62,F62,w62⟩:=a62.go;have b62:=F62.b3 "self" "kinds" "definitions";obtain⟨d63,F63,w63⟩:=a63.go;have b63:=F63.b2 "self" "definitions";obtain⟨d64,F64,w64⟩:=a64.go;have b64:=F64.b4 "self" "name" "parameters" "kind";obtain⟨d65,F65,w65⟩:=a65.go;have b65:=F65.b1 "self";obtain⟨d66,F66,w66⟩:=a66.go;have b66:=F66.b1 "self";obtain⟨d67,F67,w67⟩:=a67.go;have b67:=F67.b1 "self";obtain⟨d68,F68,w68⟩:=a68.go;have b68:=F68.b2 "self" "F";obtain⟨d69,F69,w69⟩:=a69.go;have b69:=F69.b2 "self" "F";obtain⟨d70,F70,w70⟩:=a70.go;have b70:=F70.b2 "self" "F";have mC:=W.mg_of X G aC;have mB:=W.mg_of X G aB;have mU:=W.mg_of X G aU;have B:Blt mg:=⟨W.mg_none_of X G z1,W.mg_none_of X G z2,W.mg_none_of X G z3,W.mg_none_of X G z4,W.mg_none_of X G z5,W.mg_none_of X G z6,W.mg_none_of X G z7,W.mg_none_of X G z8,W.mg_none_of X G z9,W.mg_none_of X G z10,W.mg_none_of X G z11,W.mg_none_of X G z12,W.mg_none_of X G z13⟩;have nmin:=W.mg_none_of X G z14;have nsum:=W.mg_none_of X G z15;have nenumerate:=W.mg_none_of X G z16;have nany:=W.mg_none_of X G z17;obtain⟨q1,r1⟩:=g1.go X G;obtain⟨q2,r2⟩:=g2.go X G;obtain⟨q3,r3⟩:=g3.go X G;obtain⟨q4,r4⟩:=g4.go X G;obtain⟨q5,r5⟩:=g5.go X G;obtain⟨q6,r6⟩:=g6.go X G;obtain⟨q7,r7⟩:=g7.go X G;obtain⟨q8,r8⟩:=g8.go X G;obtain⟨q9,r9⟩:=g9.go X G;obtain⟨q10,r10⟩:=g10.go X G;obtain⟨q11,r11⟩:=g11.go X G;have T:KCl K CK:=⟨⟨caCK.pg,caCK.hd,caCK.po,caCK.sa⟩,n1,n2,n3,n4,n5,n6⟩;have TB:BCl K C:=⟨⟨caC.pg,caC.hd,caC.po,caC.sa⟩,nb1,nb2,nb3,nb4⟩;refine⟨W.fnOf "law" "law" (UT BM) (J0 BM) (Yh BM) .none kV dc pm an cd ct,fun s v=>.of_eq rfl,fun base hIn _=>?_⟩;have tk:∀n,Yo l.prog w K mg base CX0 (n+2) f13 _ ["stream","many"] JE:=fun n=>OM F13 (KZ (n:=n) F11) b11 k11 m11;have wo:∀n,Yo l.prog w K mg base CX0 (n+3) f14 _ ["stream","many","letters","ways"] GD:=fun n=>KM B F14 (tk n) b13 k13 m13;have sm:∀n,Yo l.prog w K mg base CX0 (n+4) f15 _ ["stream","many"] XX:=fun n=>KO F15 (wo n) b14 k14 m14;have pr:Yo l.prog w K mg base CX0 9 f16 _ ["stream","names","counts","depths","taken","top"] (Nr K):=OT (n:=2) B F16 (tk 6) b13 k13 m13;have kn:Yo l.prog w K mg base CX0 10 f17 _ ["stream","most","top"] Rv:=Kf (n:=9) B F17 (tk 7) b13 k13 m13 (sm 5) b15 k15 m15 (wo 6) b14 k14 m14 pr b16 k16 m16;have hd':Yo l.prog w K mg base CX0 10 f18 _ ["stream","kinds","counts","most","top"] Ry:=Ki (n:=9) B F18 ⟨f13,_,m13,k13,b13,tk 7⟩ ⟨f15,_,m15,k15,b15,sm 5⟩;have DT:∀n,Df l.prog w K mg base (n+2) "_law_take" ["stream","many"] JE:=fun n=>⟨f13,_,m13,k13,b13,tk n⟩;have pn:Yo l.prog w K mg base CX0 6 f19 _ ["stream","world","around","kind"] (Jc 3):=Tf B DT F19 b19 m19 3;have dw:=(O3 B DT F19 b19 m19 F20 b20 m20 F21 b21 m21 F22 b22 m22 F23 b23 m23 F24 b24 m24 F25 b25 m25 9).2;have pL:Yo l.prog w K mg base CX0 1 f26 _ ["body"] Vy:=Er (n:=0) B F26;have pA:Yo l.prog w K mg base CX0 1 f1 _ ["body"] GG:=ok_parts (n:=0) B F1;have sz:Yo l.prog w K mg base CX0 13 f27 _ ["body"] (U9 12):=MD B nsum F27 b27 m27 pL b26 k26 m26 12;have sa:Yo l.prog w K mg base CX0 45 f29 _ ["found","due"] (Xt 45):=Dl B F29 b29 m29 45;have bk:Yo l.prog w K mg base CX0 49 f28 _ ["cell","most","many","top","left"] Nu:=Oe (n:=48) B nmin F28 ⟨f12,_,m12,k12,b12,RV (n:=47) F12⟩ ⟨f13,_,m13,k13,b13,tk 46⟩ ⟨f15,_,m15,k15,b15,sm 44⟩ ⟨f17,_,m17,k17,b17,kn.mono (by decide)⟩ ⟨f18,_,m18,k18,b18,hd'.mono (by decide)⟩ (dw.up (by decide)) ⟨f19,_,m19,k19,b19,pn.mono (by decide)⟩ ⟨f27,_,m27,k27,b27,sz.mono (by decide)⟩;have sp:Yo l.prog w K mg base CX0 1 f6 _ ["text","letters"] GE:=KN (n:=0) B F6 q3 r3;have na:Yo l.prog w K mg base CX0 2 f4 _ ["text"] (U8 97):=Ex (n:=1) F4 sp b6 k6 m6 q1 r1;have ta:Yo l.prog w K mg base CX0 2 f5 _ ["text"] (U8 65):=Kh (n:=1) F5 sp b6 k6 m6 q2 r2;have tt:Yo l.prog w K mg base CX0 3 f55 _ ["self","name","tags"] (Nn CK):=ON (n:=2) B T F55 q5 r5 ta b5 k5 m5;have tp:Yo l.prog w K mg base CX0 3 f56 _ ["self","name","one","other"] (Rr CK):=KU (n:=2) B T F56 q7 r7 q6 r6;have kt:Yo l.prog w K mg base CX0 4 f54 _ ["self","name","shape"] (Rx CK):=Ka (n:=3) B T F54 (na.mono (by decide)) b4 k4 m4 tt b55 w55 tp b56 w56;have ini:Yo l.prog w K mg base CX0 5 f53 _ ["self","told"] (Nt CK):=Oa (n:=4) B T F53 q4 r4 kt b54 w54;have knm:Yo l.prog w K mg base CX0 1 f57 _ ["self"] (Xa CK):=KY (n:=0) B T F57;have kwo:Yo l.prog w K mg base CX0 1 f58 _ ["self","kind"] (UF CK):=M9 (n:=0) B T F58;have ksh:Yo l.prog w K mg base CX0 1 f59 _ ["self","kind"] (XY CK):=Bo (n:=0) T F59;have kto:Yo l.prog w K mg base CX0 1 f60 _ ["self","tag"] (G5 CK):=Ew (n:=0) T F60;have kpo:Yo l.prog w K mg base CX0 1 f61 _ ["self","one","other"] (WV CK):=Bq (n:=0) T F61;have bki:Yo l.prog w K mg base CX0 1 f66 _ ["self"] (J4 C CK):=E1 (n:=0) TB F66;have bnm:Yo l.prog w K mg base CX0 1 f67 _ ["self"] (X8 C CK):=Ez (n:=0) B TB F67;have to:Yo l.prog w K mg base CX0 1 f70 _ ["self","F"] (Rq C CK):=OL (n:=0) B TB F70;have cP:Yo l.prog w K mg base CX0 2 f68 _ ["self","F"] (Nq C CK):=OS (n:=1) TB F68 w70 to b70;have cK:Yo l.prog w K mg base CX0 2 f69 _ ["self","F"] (Rw C CK):=Kg (n:=1) TB F69 w70 to b70;have kpt:Yo l.prog w K mg base CX0 2 f3 _ ["book","kind","at"] (GJ C CK):=Kb (n:=1) TB T F3 w66 bki b66 w59 ksh b59;have R1:RA l.prog w K mg base C CK (fun k=>findBy JY es k) "tag" _:=⟨f45,_,XF lR a45,OW (n:=2) TB T F45 w66 (bki.mono (by decide)) b66 w60 (kto.mono (by decide)) b60,k45,b45⟩;have R2:RA l.prog w K mg base C CK (fun k=>findBy JY es k) "name" _:=⟨f46,_,XF lR a46,Ke (n:=2) F46,k46,b46⟩;have R3:RA l.prog w K mg base C CK (fun k=>findBy JY es k) "pair" _:=⟨f47,_,XF lR a47,Kc (n:=2) TB T F47 w66 (bki.mono (by decide)) b66 w61 (kpo.mono (by decide)) b61,k47,b47⟩;have R4:RA l.prog w K mg base C CK (fun k=>findBy JY es k) "one" _:=⟨f48,_,XF lR a48,OX (n:=2) F48 ⟨f3,_,m3,k3,b3,kpt⟩,k48,b48⟩;have R5:RA l.prog w K mg base C CK (fun k=>findBy JY es k) "other" _:=⟨f49,_,XF lR a49,Et (n:=2) F49 ⟨f3,_,m3,k3,b3,kpt⟩,k49,b49⟩;have R6:RA l.prog w K mg base C CK (fun k=>findBy JY es k) "choose" _:=⟨f50,_,XF lR a50,Bp (n:=0) B nany TB T F50 w66 (bki.mono (by decide)) b66 w59 (ksh.mono (by decide)) b59,k50,b50⟩;have R7:RA l.prog w K mg base C CK (fun k=>findBy JY es k) "ask" _:=⟨f51,_,XF lR a51,OZ (n:=0) TB F51 w67 (bnm.mono (by decide)) b67 w68 cP b68 w69 cK b69,k51,b51⟩;have R8:RA l.prog w K mg base C CK (fun k=>findBy JY es k) "let" _:=⟨f52,_,XF lR a52,OY (n:=2) F52,k52,b52⟩;have kp:Yo l.prog w K mg base CX0 16 f2 _ ["book","around","body"] (G4 C CK 13):=QR B nenumerate TB T F2 b2 m2 w66 (bki.mono (by decide)) b66 w57 (knm.mono (by decide)) b57 ⟨f1,_,m1,k1,b1,pA.mono (by decide)⟩ mU (Oo hIn lR kR) (fun L=>IQ L R1 R2 R3 R4 R5 R6 R7 R8) 13;have ap:Yo l.prog w K mg base CX0 3 f7 _ ["kinds","parameters"] (MB CK):=Ko (n:=2) B T F7 q9 r9 ⟨f4,_,m4,k4,b4,na⟩ w57 (knm.mono (by decide)) b57;have rc:Yo l.prog w K mg base CX0 2 f8 _ ["kinds","parameters"] (Xv CK):=NB (n:=1) B T F8 w58 kwo b58;have ro:Yo l.prog w K mg base CX0 2 f9 _ ["kinds","parameters"] (Xu CK):=NA (n:=1) B T F9 w58 kwo b58;have ih:Yo l.prog w K mg base CX0 4 f64 _ ["self","name","parameters","kind"] (MA C CK):=Kn (n:=3) TB T F64 ⟨f4,_,m4,k4,b4,na.mono (by decide)⟩ ⟨f7,_,m7,k7,b7,ap⟩ w57 (knm.mono (by decide)) b57;have th:Yo l.prog w K mg base CX0 5 f63 _ ["self","definitions"] (Fk C CK):=Kk (n:=4) B nenumerate TB F63 q8 r8 q10 r10 q11 r11 w64 ih b64 ⟨f8,_,m8,k8,b8,rc.mono (by decide)⟩ ⟨f9,_,m9,k9,b9,ro.mono (by decide)⟩;have cb:Yo l.prog w K mg base CX0 17 f65 _ ["self"] (G6 C CK):=E2 (n:=16) B nenumerate TB F65 w67 (bnm.mono (by decide)) b67 ⟨f2,_,m2,k2,b2,kp⟩;have bi:Yo l.prog w K mg base CX0 18 f62 _ ["self","kinds","definitions"] (R9 C CK):=Km (n:=17) (m:=5) (by decide) TB F62 ⟨caCK.ma,w53.1,w53.2,caCK.kc⟩ mC ini b53 w63 (th.mono (by decide)) b63 w65 cb b65;have kw:Yo l.prog w K mg base CX0 17 f30 _ ["book","around","body"] (Gx C CK):=Eo (n:=16) F30 ⟨f2,_,m2,k2,b2,kp⟩;have tK:Yo l.prog w K mg base CX0 5 f31 _ ["shapes","tag"] Np:=OO (n:=4) F31;have pK:Yo l.prog w K mg base CX0 5 f32 _ ["shapes","one","other"] Rt:=KW (n:=4) (by decide) F32;have oK:Yo l.prog w K mg base CX0 6 f33 _ ["shapes","asks","around","body","found"] Ru:=OU (n:=5) (by decide) B F33 ⟨f31,_,m31,k31,b31,tK⟩ ⟨f32,_,m32,k32,b32,pK⟩;have kd:Yo l.prog w K mg base CX0 19 f34 _ ["shapes","asks","around","body"] (Xb 13):=RW B nenumerate F34 b34 m34 ⟨f26,_,m26,k26,b26,pL.mono (by decide)⟩ ⟨f33,_,m33,k33,b33,oK⟩ 13;have sz7:Yo l.prog w K mg base CX0 18 f27 _ ["body"] (U9 17):=MD B nsum F27 b27 m27 pL b26 k26 m26 17;have de:Yo l.prog w K mg base CX0 18 f39 _ ["body"] (WW 17):=EJ B F39 b39 m39 ⟨f26,_,m26,k26,b26,pL⟩ 17;have le:Yo l.prog w K mg base CX0 18 f40 _ ["body"] (WU 17):=EA B nsum F40 b40 m40 ⟨f26,_,m26,k26,b26,pL⟩ 17;have fi:Yo l.prog w K mg base CX0 19 f41 _ ["body"] Rz:=Ob (n:=18) F41 ⟨f27,_,m27,k27,b27,sz7⟩ ⟨f39,_,m39,k39,b39,de⟩ ⟨f40,_,m40,k40,b40,le⟩;have al:Yo l.prog w K mg base CX0 14 f37 _ ["body"] (UG 13):=EU nenumerate F37 b37 m37 ⟨f26,_,m26,k26,b26,pL⟩ 13;have se:Yo l.prog w K mg base CX0 16 f36 _ ["body","place","other"] (XZ 14):=Mw B F36 b36 m36 ⟨f26,_,m26,k26,b26,pL.mono (by decide)⟩ 14;have sn:Yo l.prog w K mg base CX0 19 f35 _ ["stream","shapes","asks","body"] Gz:=Ep (n:=18) B F35 ⟨f13,_,m13,k13,b13,tk 16⟩;have pa:Yo l.prog w K mg base CX0 19 f38 _ ["body","place"] G0:=Es (n:=18) F38 ⟨f26,_,m26,k26,b26,pL.mono (by decide)⟩;have sb:Yo l.prog w K mg base CX0 20 f42 _ ["stream","shapes","asks","body"] WT:=Bn (n:=19) B F42 ⟨f13,_,m13,k13,b13,tk 17⟩ ⟨f37,_,m37,k37,b37,al.mono (by decide)⟩ ⟨f36,_,m36,k36,b36,se.mono (by decide)⟩ ⟨f35,_,m35,k35,b35,sn⟩ ⟨f38,_,m38,k38,b38,pa⟩ ⟨f41,_,m41,k41,b41,fi⟩;have dr:Yo l.prog w K mg base CX0 49 f43 _ ["stream","kinds","definitions"] R0:=Kj (n:=48) B F43 ⟨f13,_,m13,k13,b13,tk 46⟩ ⟨f15,_,m15,k15,b15,sm 44⟩ (dw.up (by decide)) ⟨f19,_,m19,k19,b19,pn.mono (by decide)⟩ ⟨f41,_,m41,k41,b41,fi.mono (by decide)⟩ ⟨f42,_,m42,k42,b42,sb.mono (by decide)⟩;exact Q9 (n:=52) (m:=18) (by decide) B F44 ⟨caC.ma,w62.1,w62.2,caC.kc⟩ mB bi b62 ⟨f10,_,m10,k10,b10,Od (n:=51) B F10⟩ ⟨f28,_,m28,k28,b28,bk.mono (by decide)⟩ ⟨f12,_,m12,k12,b12,RV (n:=51) F12⟩ ⟨f13,_,m13,k13,b13,tk 50⟩ ⟨f43,_,m43,k43,b43,dr.mono (by decide)⟩ ⟨f30,_,m30,k30,b30,kw.mono (by decide)⟩ ⟨f34,_,m34,k34,b34,kd.mono (by decide)⟩ ⟨f29,_,m29,k29,b29,sa.mono (by decide)⟩
theorem goes{l:W.OpenLaw}{q:Program}{loose:List Str}{XP:(Str->Option Value)->Heap->Prop}{YP:World->Heap->Prop}{d:DefRec}{K:Params->W.Frag}(hn:l.most=some 63)(hdf:d.params.defaults=[])(hY:∀(w:World)(h:Heap),YP w h->(K w.params).In h)(F:∀(w:World)(mg:Str->Option Value)(fa:Addr)(h:Heap),(K w.params).In h->h.Ns mainGlobals mg->mg d.name=some (.ref fa)->
   ∃fd:FuncData,(∀(s:Shared)(u:Value),BindsTo s fd ⟨[u],[]⟩ [("script",u)])/\∀base:Heap,(K w.params).In base->base.Ns mainGlobals mg->Yo l.prog w (K w.params) mg base CX0 53 fa fd ["script"] (De (K w.params))):
  W.WalkO q loose XP YP l.row.toRowW d [] (fun f vs=>PySem.call f vs):=
 L2.walk_of (n:=63) (k:=53) (x:="script") (CX:=fun _=>CX0) (sp:=fun w=>De (K w.params)) hn (by decide) hdf ⟨rfl,by decide,by decide⟩ hY F (fun _ _ a ns hl _ hS=>⟨a,ns,rfl,hS,hl,fun _=>rfl⟩) fun _ _ _ _ _ z=>z
end K4
namespace PySem.W.Fast
def tw17262933529341526690:=()
def tw6041889400631702985:=()
def tw763514747089286160:=()
def tw7622378681295003122:=()
def tw14265799042900126180:=()
def tw7332901446244063400:=()
def tw10562806769251879941:=()
def tw913409142270835585:=()
def tw16088624682641600823:=()
def tw1759273694161775168:=()
def tw9562460474512220617:=()
def tw4707569096772666758:=()
def tw17318011850987180508:=()
def tw5383288767751746169:=()
def tw10150180314085191412:=()
def tw6241852896303893390:=()
def tw14615711614431554334:=()
def tw12483441246569946410:=()
def tw12585091280341941581:=()
def tw1725165719195274976:=()
def tw2311394698781696566:=()
def tw1226975740852609001:=()
def tw9821963373704077280:=()
def tw6453158560291802776:=()
def tw13427421360597815227:=()
def tw1813770825008285374:=()
def tw1306195853962251554:=()
def tw9400882301649987475:=()
def tw9552491628813737557:=()
def tw17629679029428591651:=()
def tw14995948907274614225:=()
def tw13952310987601013503:=()
def tw10969423472138797207:=()
def tw10751007461973709669:=()
def tw9745111986824350832:=()
def tw11878730038218281448:=()
def tw13262412199103110790:=()
def tw5063478010831471948:=()
def tw1127634678032112339:=()
def tw5218814815477504340:=()
def tw2134326034951823638:=()
def tw5632375163910148388:=()
def tw14931476706185009248:=()
def tw12281962883126570712:=()
def tw1895712235894927746:=()
def tw15946155135474263548:=()
def tw8109394158448085809:=()
def tw16138008176028738809:=()
def tw8819738115719060798:=()
def tw3178947450373452442:=()
def tw3123698830118944251:=()
def tw1962268337149922897:=()
def tw2216253327758670070:=()
def tw559490971298665964:=()
def tw15502506436404793321:=()
def tw4827067277360889057:=()
def tw2619775744422491478:=()
def tw18313245030203026564:=()
def tw14594798512113876414:=()
def tw12302056873815741066:=()
def tw5176698332159790731:=()
def tw8070331367692916697:=()
def tw12393515748668261369:=()
def tw7665509644230761610:=()
def tw17594879761182409839:=()
def tw13385983850845051311:=()
def tw875509606321747031:=()
def tw9186472586685474806:=()
def tw6434569677444923442:=()
def tw8667157753522557897:=()
def tw12283463606982338325:=()
def tw2121411496566502095:=()
def tw2775859651565325712:=()
def tw15526427047177405667:=()
def tw2284603613769252084:=()
def tw2852739647260653963:=()
def tw8667537681603282582:=()
def tw5213025522536126198:=()
def tw17544403372315051370:=()
def tw9851666788841472288:=()
def tw2074416689233865035:=()
def tw6758570554952718753:=()
def tw10087868723208196133:=()
def tw15139167886061942350:=()
def tw10152017570139861167:=()
def tw13030543450073882591:=()
def tw13934604221837183972:=()
def tw10066905984410939753:=()
def tw13871029103710926574:=()
def tw9853257598478357652:=()
def tw1060955934232917254:=()
def tw17287273551170217029:=()
def tw2472259328921402811:=()
def tw2991402709548642196:=()
def tw17751020055957875402:=()
def tw4695573496372728624:=()
def tw10913852356505780648:=()
def tw2419195622916452156:=()
def tw2585580338927515985:=()
def tw5591979088727670722:=()
def tw17677266865885320114:=()
def tw13806061035955951768:=()
def tw5140823895468897167:=()
def tw11556158263983939587:=()
def tw12891951860528580101:=()
def tw4409403968425949256:=()
def tw5789696301908113897:=()
def tw8654608426282997833:=()
def tw12510837454524198933:=()
def tw2421622254926728299:=()
def tw17108338603761809719:=()
def tw14312453043582236527:=()
def tw9173754637303604640:=()
def tw4886223055943078618:=()
def tw2492048893249783328:=()
def tw11672800199703825610:=()
def tw11685087710923084719:=()
def tw3893685174738249232:=()
def tw7699547429884811541:=()
def tw13880681760275108510:=()
def tw14498843160456558262:=()
def tw9585685620104516665:=()
def tw16791554152310595162:=()
def tw16274201264073737783:=()
def tw10718268525403981951:=()
def tw16969532815408016295:=()
def tw14814283733044980625:=()
def tw13144537380320256347:=()
def tw9536887914533028938:=()
def tw11308709521316627636:=()
def tw8265010277981596183:=()
def tw11387271866254557503:=()
def tw18327455475677035606:=()
def tw2775354864340832447:=()
def tw15727914728790224859:=()
def tw8337294022575016093:=()
def tw11014254509725437839:=()
def tw10783519578063017625:=()
def tw10550427987719923248:=()
def tw7471198387790438560:=()
def tw5179378704362902347:=()
def tw14277963425517089516:=()
def tw18068816247729370877:=()
def tw8732660330663927483:=()
def tw11917381742572179385:=()
def tw17234741296205939188:=()
def tw18002008111358798469:=()
def tw12820343513164745103:=()
def tw17509299131786735325:=()
def tw2056385603311089704:=()
def tw11492787359643550545:=()
def tw15276317978799535948:=()
def tw766021973041697998:=()
def tw7347404610153620914:=()
def tw839980273358193347:=()
def tw16151448418860068239:=()
def tw6950419020191400562:=()
def tw16502962685889879820:=()
def tw1423107290394564148:=()
def tw1616134409068850146:=()
def tw12917492408981566461:=()
def tw7889670346785957573:=()
def tw5764507014958285402:=()
def tw9724411326628385176:=()
def tw7302446724590740726:=()
def tw12810736728248887265:=()
def tw15546365933623453628:=()
def tw11529462981310116122:=()
def tw12841399711590745269:=()
def tw2886786806649948704:=()
def tw8171112630062929745:=()
def tw18238959505541269255:=()
def tw11605770401104096361:=()
def tw2048658667396592920:=()
def tw2461825151954457853:=()
def tw18304208156653710356:=()
def tw6443136878273602274:=()
def tw7071972825262381827:=()
def tw12849646672409117827:=()
def tw16493038868328830344:=()
def tw8458324881098379425:=()
def tw13153573983236228930:=()
def tw17447893176721022548:=()
def tw16574458948420383167:=()
def tw4002282566523803292:=()
def tw17683790831323163224:=()
def tw8201317695124611977:=()
def tw7198974290731071071:=()
def tw18181793993333323558:=()
def tw12433565250178304939:=()
def tw3563325524500784707:=()
def tw2000710771497126521:=()
def tw12348726410369498795:=()
def tw4494833824782755266:=()
def tw9503091042807598569:=()
def tw12319781253823249821:=()
def tw6133217845352101671:=()
def tw16974544432414493554:=()
def tw13560136195627075964:=()
def tw6454017895486744668:=()
def tw5732622040579102485:=()
def tw4861356558553056654:=()
def tw10226250543255967745:=()
def tw12516762429212837600:=()
def tw10752766879248653045:=()
def tw11137221082228365627:=()
def tw3019619480367657535:=()
def tw1987355518508658365:=()
def tw1238549705163339295:=()
def tw10080396813855168658:=()
def tw2953774123086635134:=()
def tw3540894882851992828:=()
def tw8776344144845701947:=()
def tw1247356991530414850:=()
def tw13996561751365546351:=()
def tw712503183007804480:=()
def tw18046497686467158472:=()
def tw1908741826504754926:=()
def tw2175501498442334830:=()
def tw17628572480726392268:=()
def tw15805856415554242049:=()
def tw8088523449914214525:=()
def tw17858250152887992238:=()
def tw9834749202022596714:=()
def tw5015769758642335152:=()
def tw485062673021513580:=()
def tw1531271013426247132:=()
def tw2208014014077023966:=()
def tw676495066754796918:=()
def tw8186840410468789109:=()
def tw17914611122073352598:=()
def tw9000779434537398969:=()
def tw2618507734834079129:=()
def tw5414837229946236161:=()
def tw1126710787346831821:=()
def tw18435019384073904661:=()
def tw9257648444253020980:=()
def tw8047197124932599318:=()
def tw16873138931520478042:=()
def tw9625161464273503540:=()
def tw10453529273330852416:=()
def tw2075043642346800026:=()
def tw14548107039432509617:=()
def tw9786710294441443244:=()
def tw16487553396030822879:=()
def tw966518004609435332:=()
def tw16814902009006967980:=()
def tw13148122526396206695:=()
def tw15342604873511231967:=()
def tw9819072763499786690:=()
def tw2712585424568013772:=()
def tw12486641202266186591:=()
def tw5498906786116947615:=()
def tw11347544574422766925:=()
def tw5478148271854396674:=()
def tw17956196444469555961:=()
def tw9591351264984328554:=()
def tw3265956513385953498:=()
def tw6909074350721462536:=()
def tw4542157011391704220:=()
def tw6254772145031093786:=()
def tw7243531118387705586:=()
def tw10715793335736750561:=()
def tw14618731473779114122:=()
def tw16027883552572869981:=()
def tw8704625581847763575:=()
def tw7121066216203025863:=()
def tw18020530150022269046:=()
def tw5972734903385044781:=()
def tw4658451700641437300:=()
def tw13824027016633440124:=()
def tw7279227800427117160:=()
def tw11589758759851239459:=()
def tw18301728441129868721:=()
def tw4746071049540916945:=()
def tw2609920589436282459:=()
def tw8572566886034343149:=()
def tw7317915329204144728:=()
def tw15138790671271479962:=()
def tw617874618238850954:=()
def tw2967016415151181492:=()
def tw3537200965281469263:=()
def tw16279646353568840594:=()
def tw6859270543086418319:=()
def tw15913548345915781120:=()
def tw6771801071797470487:=()
def tw16373330083835674369:=()
def tw4572411092093494479:=()
def tw1155030211901467218:=()
def tw1549352320757306699:=()
def tw4528684928242131974:=()
def tw15008233005893800293:=()
def tw5055693356420015901:=()
def tw13433643822443871061:=()
def tw7915961228267096425:=()
def tw2848290023702437673:=()
def tw5611046623231367222:=()
def tw11245410558281229746:=()
def tw51725504350086459:=()
def tw5954406748656945276:=()
def tw11588992214408312531:=()
def tw10290368991134805476:=()
def tw890131535163633538:=()
def tw7452790997632669747:=()
def tw13496868948040344097:=()
def tw6555305372106649559:=()
def tw12926238705595024971:=()
def tw11438277805322853686:=()
def tw5277953624113473693:=()
def tw5339363438930591679:=()
def tw16440043402978808653:=()
def tw9058887493937679369:=()
def tw811268398174069087:=()
def tw2896481914818572598:=()
def tw8340220264545073695:=()
def tw5951969725883561365:=()
def tw4400877302592888704:=()
def tw8351412235902901941:=()
def tw10455076669797134502:=()
def tw17422663679420080428:=()
def tw5137064151395789594:=()
def tw14394774174014310912:=()
def tw6199939230923166509:=()
def tw8461747986393538765:=()
def tw5768751056199041262:=()
def tw422625026292760395:=()
def tw17039652474661504898:=()
def tw656956526920555244:=()
def tw16279103979388762673:=()
def tw96145075905066218:=()
def tw16376102366196795296:=()
def tw7039273574362155327:=()
def tw10126553958277103070:=()
def tw12696066815689978382:=()
def tw14395633619180724376:=()
def tw1295131027950270017:=()
def tw13758347305821730469:=()
def tw16270706877615061684:=()
def tw8139373419634808260:=()
def tw14189037161066260285:=()
def tw4755204863563112512:=()
def tw8326994230742753409:=()
def tw9085831157266481780:=()
def tw6245237838213329492:=()
def tw4871625769093961257:=()
def tw1984702084734388318:=()
def tw15407057136125879091:=()
def tw15714612157208133754:=()
def tw13012810182846865155:=()
def tw6318570253930609790:=()
def tw17754291283442854347:=()
def tw751861447870027177:=()
def tw15511020234709370764:=()
def tw16105046610156312458:=()
def tw2144245683253932428:=()
def tw14028197817618968854:=()
def tw15655334016444874712:=()
def tw9661542395559243121:=()
def tw2050216961852696003:=()
def tw5177659287942946807:=()
def tw5908970394195851650:=()
def tw15859540931362820866:=()
def tw18074476381310773756:=()
def tw15776677217329739960:=()
def tw13335019211017084600:=()
def tw8714185881639977493:=()
def tw7721792974701545771:=()
def tw5382488314916765641:=()
def tw16513131437591263123:=()
def tw3763823162076769856:=()
def tw17655454450841244938:=()
def tw5788203249287591337:=()
def tw9141946347606949463:=()
def tw3755638256367187500:=()
def tw17481781654380014395:=()
def tw10697356665247474514:=()
def tw14129510081484040437:=()
def tw14205740942230769829:=()
def tw3602433343126269412:=()
def tw14901578866972450375:=()
def tw12279356085251094279:=()
def tw10360249151929726019:=()
def tw1703291094950842404:=()
def tw15459208252337932199:=()
def tw3490261621327516686:=()
def tw6476169261660439298:=()
def tw1051855634133781085:=()
def tw6537325398240546032:=()
def tw18135023820430318454:=()
def tw12596058958874385161:=()
def tw16075980992413569561:=()
def tw1289041023833901475:=()
def tw13889842909628742539:=()
def tw2380132965448681044:=()
end PySem.W.Fast
set_option tactic.hygienic true
open PySem PySem.W PyProof.Rows
set_option maxRecDepth 100000 in
set_option maxHeartbeats 0 in
theorem PySem.Challenge.cw_wantway_k09_kinds_within_holds : PySem.Challenge.rw_wantway_k09_kinds_within.Holds := by
  w_on; o_law; k_head; (case hw => w_witness2)
  k_fill
  refine K4.goes (l := PySem.Challenge.rw_wantway_k09_kinds_within) rfl rfl (fun w h Y => PySem.W.kIn_of Y) ?F
  case F =>
    intro w mg fa h KX G hmg
    refine' K4.all_at KX G hmg ?_ ?_ ?_ ?_ ?_ ?_ ?_ ?_ ?_ ?_ ?_ ?_ ?_ ?_ ?_ ?_ ?_ ?_ ?_ ?_ ?_ ?_ ?_ ?_ ?_ ?_ ?_ ?_ ?_ ?_ ?_ ?_ ?_ ?_ ?_ ?_ ?_ ?_ ?_ ?_ ?_ ?_ ?_ ?_ ?_ ?_ ?_ ?_ ?_ ?_ ?_ ?_ ?_ ?_ ?_ ?_ ?_ ?_ ?_ ?_ ?_ ?_ ?_ ?_ ?_ ?_ ?_ ?_ ?_ ?_ ?_ ?_ ?_ ?_ ?_ ?_ ?_ ?_ ?_ ?_ ?_ ?_ ?_ ?_ ?_ ?_ ?_ ?_ ?_ ?_ ?_ ?_ ?_ ?_ ?_ ?_ ?_ ?_ ?_ ?_ ?_ ?_ ?_ ?_ ?_ ?_ ?_ ?_ ?_ ?_ ?_ ?_ ?_ ?_ ?_
    any_goals first | k_is | (refine' And.intro ?zz0 (K4.At.of ?zz1 ?zz2 ?zz3); (case zz0 => first | k_is | (constructor <;> k_is)); (case zz1 => k_is); (case zz2 => k_is); (case zz3 => k_is)) | (unfold K4.GN; k_is) | (unfold K4.GC; k_is) | (unfold K4.GF; k_is) | (refine' And.intro ?zz0 ?zz1; (case zz0 => k_is); (case zz1 => exact ⟨_, rfl⟩)) | kit_is | k_exc | (refine K4.CA.mk ?_ ?_ ?_ ?_ ?_ ?_ <;> k_is) | (refine And.intro ⟨_, _, rfl, rfl⟩ ?_; k_keys)
