import Derived.Test.YthcmenajdcbnnaaGreatDoorAtTokLeaf
import Derived.Lib.BufferMore
set_option linter.unusedSimpArgs false
set_option linter.unusedVariables false
set_option maxRecDepth 100000
set_option maxHeartbeats 99000000
/- The contracts of the small functions that the layer tree and the document's answer to it call: names, signs and levels of operators. Sign and Level under the condition that wrap.rows reads as the program's text lays it (Tab). -/
namespace Go.Proofs.YthcmenajdcbnnaaGreatDoor
open Lib (hid)
open Go.RowKit
theorem Oa{p:Prop}(h:p:=by
 go_wp2_with (fail);go_roundw
 case rel=>exact⟨j+1,I7,by go_num,b.out.succ k.out a,trivial⟩
 case measure=>simp[intOf];omega):p:=h
theorem Ob{p:Prop}(h:p:=by
 by_cases c:i=j
 .subst c
  rw[d]at a;injection a with a;exact a ▸ e
 .exact b i g I7 a):p:=h
theorem Oc{p:Prop}(h:p:=by
 .go_wp2_with (fail)
  go_ret;exact⟨jY (by rw[b.out.all I7];rfl),Zb.alloc Zr _⟩):p:=h
def Tab(w:World):Prop:=∀k:Nat,k<=28->w.cell? ⟨0,k*2,none⟩=some (.string (sgn k))/\w.cell? ⟨0,k*2+1,none⟩=some (.int .i64 (lvl k))
theorem Tab.size{w:World}(a:Tab w):0<w.heap.size:=block_lt_of_cell (a 0 I7).1
theorem rowOf_in(k:Nat)(g:1<=k)(b:k<=28)(w:World)(a:Tab w):
 Calls Tryz.prog 167 #[.int .i64 (k:Int)] w fun e w'=>e=.returned (.agg #[.string (sgn k),.int .i64 (lvl k)])/\Below w.heap.size w w':=by
 have h:=a.size;obtain⟨c,d⟩:=a k b;clear a;go_enter Tryz.func167,Tryz.ntmps167;go_wp2;exact bodyPost_ret (v:=.agg #[.string (sgn k),.int .i64 (lvl k)]) (by simp[results,Tryz.results167,go_sem]) rfl ⟨rfl,Zb.alloc Zr _⟩
theorem rowOf_out(op:Int)(a:op<1\/28<op)(w:World):
 Calls Tryz.prog 167 #[.int .i64 op] w fun e w'=>e=.returned (.agg #[.string ⟨#[]⟩,.int .i64 0])/\Below w.heap.size w w':=by
 rcases a with a|a
 all_goals
  go_enter Tryz.func167,Tryz.ntmps167;go_wp2
  all_goals exact bodyPost_ret (v:=.agg #[.string ⟨#[]⟩,.int .i64 0]) (by simp[results,Tryz.results167,go_sem]) rfl ⟨rfl,Zb.alloc Zr _⟩
theorem rowOf_any(op:Int)(w:World)(d:Tab w):
 Calls Tryz.prog 167 #[.int .i64 op] w fun e w'=>e=.returned (.agg #[.string (jh op),.int .i64 (jZ op)])/\Below w.heap.size w w':=by
 by_cases a:1<=op/\op<=28
 .obtain⟨k,rfl⟩:=Int.eq_ofNat_of_zero_le (show 0<=op by omega)
  have b:jh (k:Int)=sgn k:=by unfold jh;rw[if_pos a];rfl
  have c:jZ (k:Int)=lvl k:=by unfold jZ;rw[if_pos a];rfl
  rw[b,c];exact rowOf_in k I7 I7 w d
 .have b:jh op=⟨#[]⟩:=by unfold jh;rw[if_neg a]
  have c:jZ op=0:=by unfold jZ;rw[if_neg a]
  rw[b,c];exact rowOf_out op I7 w
theorem level_any(op:Int)(w:World)(b:Tab w):
 Calls Tryz.prog 161 #[.int .i64 op] w fun e w'=>e=.returned (.int .i64 (jZ op))/\Below w.heap.size w w':=by
 have c:∀(s:ByteArray) (l:Int) (w:World),(Instr.field 230 (.agg #[.string s,.int .i64 l]) 1).run Tryz.prog w=.ok (.int .i64 l) w:=fun _ _ _=>by kernel_rfl
 go_enter Tryz.func161,Tryz.ntmps161;go_wp2_with (go_at_call 167;refine(rowOf_any _ _ b).mono ?_;rintro e w' ⟨rfl,a⟩);go_ret;exact⟨rfl,a⟩
theorem signs_any(w:World):Calls Tryz.prog 41 #[] w fun e w'=>∃C:Array Value,(∀j:Nat,j<28->C[j]? =some (.string (sgn (j+1))))/\e=.returned (.slice (some ⟨w.heap.size,0,none⟩) 28 28)/\w'=w.alloc (.cells C 9):=by
 go_enter Tryz.func41,Tryz.ntmps41;go_wp2;go_ret;refine⟨_,?_,rfl,rfl⟩;intro j a;obtain rfl|rfl|rfl|rfl|rfl|rfl|rfl|rfl|rfl|rfl|rfl|rfl|rfl|rfl|rfl|rfl|rfl|rfl|rfl|rfl|rfl|rfl|rfl|rfl|rfl|rfl|rfl|rfl:j=0\/j=1\/j=2\/j=3\/j=4\/j=5\/j=6\/j=7\/j=8\/j=9\/j=10\/j=11\/j=12\/j=13\/j=14\/j=15\/j=16\/j=17\/j=18\/j=19\/j=20\/j=21\/j=22\/j=23\/j=24\/j=25\/j=26\/j=27:=I7
 all_goals rfl
theorem rsign_in(k:Nat)(b:k<28)(w:World):Calls Tryz.prog 21 #[.int .i64 ((k:Int)+1)] w fun e w'=>e=.returned (.string (sgn (k+1)))/\Below w.heap.size w w':=by
 go_enter Tryz.func21,Tryz.ntmps21;go_wp2_with (go_at_call 41;refine(signs_any _).mono ?_;rintro e w' ⟨C,a,rfl,rfl⟩;have c:=a k b;clear a);go_ret;exact⟨rfl,Zb.alloc Zr _⟩
theorem rsign_out(op:Int)(a:op<1\/28<op)(w:World):Calls Tryz.prog 21 #[.int .i64 op] w fun e w'=>e=.returned (.string ⟨#[]⟩)/\Below w.heap.size w w':=by
 rcases a with a|a
 all_goals
  go_enter Tryz.func21,Tryz.ntmps21;go_wp2
  all_goals go_ret
  all_goals exact⟨rfl,Below.refl _ _⟩
theorem rsign_any(op:Int)(w:World):Calls Tryz.prog 21 #[.int .i64 op] w fun e w'=>e=.returned (.string (jh op))/\Below w.heap.size w w':=by
 by_cases b:1<=op/\op<=28
 .obtain⟨k,c⟩:=Int.eq_ofNat_of_zero_le (show 0<=op-1 by omega)
  obtain rfl:op=(k:Int)+1:=I7
  have a:jh ((k:Int)+1)=sgn (k+1):=by unfold jh;rw[if_pos b];rfl
  rw[a];exact rsign_in k I7 w
 .have a:jh op=⟨#[]⟩:=by unfold jh;rw[if_neg b]
  rw[a];exact rsign_out op I7 w
theorem rlevel_in(op:Int)(a:1<=op/\op<=19)(w:World):Calls Tryz.prog 105 #[.int .i64 op] w fun e w'=>e=.returned (.int .i64 (jZ op))/\w=w':=by
 obtain rfl|rfl|rfl|rfl|rfl|rfl|rfl|rfl|rfl|rfl|rfl|rfl|rfl|rfl|rfl|rfl|rfl|rfl|rfl:op=1\/op=2\/op=3\/op=4\/op=5\/op=6\/op=7\/op=8\/op=9\/op=10\/op=11\/op=12\/op=13\/op=14\/op=15\/op=16\/op=17\/op=18\/op=19:=I7
 all_goals clear a
 all_goals
  go_enter Tryz.func105,Tryz.ntmps105;go_wp2;go_ret;exact⟨rfl,rfl⟩
theorem lvlOf_out(op:Int)(a:op<1\/19<op):jZ op=0:=by
 unfold jZ;split
 .rename_i b
  obtain rfl|rfl|rfl|rfl|rfl|rfl|rfl|rfl|rfl:op=20\/op=21\/op=22\/op=23\/op=24\/op=25\/op=26\/op=27\/op=28:=I7
  all_goals rfl
 .rfl
theorem rlevel_out(op:Int)(a:op<1\/19<op)(w:World):Calls Tryz.prog 105 #[.int .i64 op] w fun e w'=>e=.returned (.int .i64 0)/\w=w':=by
 have n1:(op == 1)=false:=I9
 have n2:(op == 2)=false:=I9
 have o:(op == 3)=false:=I9
 have p:(op == 4)=false:=I9
 have q:(op == 5)=false:=I9
 have r:(op == 6)=false:=I9
 have t:(op == 7)=false:=I9
 have u:(op == 8)=false:=I9
 have v:(op == 9)=false:=I9
 have b:(op == 10)=false:=I9
 have c:(op == 11)=false:=I9
 have d:(op == 12)=false:=I9
 have g:(op == 13)=false:=I9
 have h:(op == 14)=false:=I9
 have i:(op == 15)=false:=I9
 have j:(op == 16)=false:=I9
 have k:(op == 17)=false:=I9
 have l:(op == 18)=false:=I9
 have m:(op == 19)=false:=I9
 clear a;go_enter Tryz.func105,Tryz.ntmps105;go_wp2;go_ret;exact⟨rfl,rfl⟩
theorem rlevel_any(op:Int)(w:World):Calls Tryz.prog 105 #[.int .i64 op] w fun e w'=>e=.returned (.int .i64 (jZ op))/\w=w':=by
 by_cases a:1<=op/\op<=19
 .exact rlevel_in op a w
 .rw[lvlOf_out op I7]
  exact rlevel_out op I7 w
structure TreeTab (B:Nat) (w:World):Prop where
 lt:0<B
 rows:Tab w
theorem TreeTab.below{B:Nat}{w w':World}(a:TreeTab B w)(b:Below B w w'):TreeTab B w' where
 lt:=a.lt
 rows:=fun k c=>⟨(b.cell (p:=⟨0,k*2,none⟩) a.lt).trans (a.rows k c).1,(b.cell (p:=⟨0,k*2+1,none⟩) a.lt).trans (a.rows k c).2⟩
theorem TreeTab.mono{B a:Nat}{w:World}(b:TreeTab B w)(c:B<=a):TreeTab a w where
 lt:=Nat.lt_of_lt_of_le b.lt c
 rows:=b.rows
theorem nm_is(s:ByteArray)(b:Bool)(a:vd s=b)(w:World):Calls Tryz.prog 106 #[.string s] w fun e w'=>e=.returned (.bool b)/\Below w.heap.size w w':=name_is s b a w
theorem qJ(s:ByteArray)(b:Bool)(a:vd s=b)(w:World):Calls Tryz.prog 50 #[.string s] w fun e w'=>e=.returned (.bool b)/\w=w':=rname_is s b a w
theorem qK{W c:World}(d:Below W.heap.size W c):(∀b o,b<W.heap.size->c.cell? ⟨b,o,none⟩=W.cell? ⟨b,o,none⟩)/\(∀b o,b<W.heap.size->c.frozen? ⟨b,o,none⟩=W.frozen? ⟨b,o,none⟩):=
 ⟨fun b o a=>d.cell (p:=⟨b,o,none⟩) a,fun b o a=>d.frozen (p:=⟨b,o,none⟩) a⟩
def CellB(B:Nat)(w:World)(g o:Nat)(u:Value):Prop:=g<B/\w.cell? ⟨g,o,none⟩=some u
def v9(v:Value)(n:Nat)(F:Nat->Nat->Prop):Prop:=
 ∃(a:Option Addr) (b:Nat),v=.slice a n b/\n<=281474976710656/\(0<n->∃g o,a=some ⟨g,o,none⟩/\F g o)
def i64R(n:Int):Prop:=-9223372036854775808<=n/\n<=9223372036854775807
mutual
def RdE(B:Nat)(w:World):Ex->Nat->Nat->Prop
 | .mk k op n name args,g,o=>CellB B w g o (.int .i64 k)/\CellB B w g (o+1) (.int .i64 op)/\CellB B w g (o+2) (.int .i64 n)/\CellB B w g (o+3) (.string name)/\
     i64R n/\∃v,CellB B w g (o+4) v/\v9 v args.length (jd B w args)
def jd(B:Nat)(w:World):List Ex->Nat->Nat->Prop
 | [],_,_=>True
 | e::r,g,o=>RdE B w e g o/\jd B w r g (o+5)
end
mutual
def RdS(B:Nat)(w:World):St->Nat->Nat->Prop
 | .mk k ty name args thn els,g,o=>CellB B w g o (.int .i64 k)/\CellB B w g (o+1) (.int .i64 ty)/\CellB B w g (o+2) (.string name)/\
     (∃v,CellB B w g (o+3) v/\v9 v args.length (jd B w args))/\(∃v,CellB B w g (o+4) v/\v9 v thn.length (kK B w thn))/\(∃v,CellB B w g (o+5) v/\v9 v els.length (kK B w els))
def kK(B:Nat)(w:World):List St->Nat->Nat->Prop
 | [],_,_=>True
 | s::r,g,o=>RdS B w s g o/\kK B w r g (o+6)
end
theorem CellB.below{B b:Nat}{w w':World}(d:Below B w w')(c:B<=b){g o:Nat}{u:Value}(a:CellB B w g o u):CellB b w' g o u:=⟨Nat.lt_of_lt_of_le a.1 c,(d.cell (p:=⟨g,o,none⟩) a.1).trans a.2⟩
theorem v9.imp{v:Value}{n:Nat}{F G:Nat->Nat->Prop}(c:v9 v n F)(k:∀g o,F g o->G g o):v9 v n G:=by
 obtain⟨a,b,j,e,hF⟩:=c;exact⟨a,b,j,e,fun h=>by obtain⟨g,o,d,i⟩:=hF h;exact⟨g,o,d,k g o i⟩⟩
mutual
theorem RdE.below{B c:Nat}{w w':World}(b:Below B w w')(a:B<=c):∀(e:Ex) (g o:Nat),RdE B w e g o->RdE c w' e g o
 | .mk k op n name args,g,o,h=>by
   rw[RdE]at h ⊢;obtain⟨i,j,l,m,q,v,p,r⟩:=h;exact⟨i.below b a,j.below b a,l.below b a,m.below b a,q,v,p.below b a,r.imp fun d t=>jd.below b a args d t⟩
theorem jd.below{B a:Nat}{w w':World}(c:Below B w w')(b:B<=a):∀(l:List Ex) (g o:Nat),jd B w l g o->jd a w' l g o
 | [],_,_,_=>by rw[jd];trivial
 | e::r,g,o,h=>by
   rw[jd]at h ⊢;exact⟨RdE.below c b e g o h.1,jd.below c b r g (o+5) h.2⟩
end
mutual
theorem RdS.below{B i:Nat}{w w':World}(b:Below B w w')(a:B<=i):∀(e:St) (g o:Nat),RdS B w e g o->RdS i w' e g o
 | .mk k ty name args thn els,g,o,h=>by
   rw[RdS]at h ⊢;obtain⟨j,l,m,⟨v,p,t⟩,⟨y,q,u⟩,⟨z,r,x⟩⟩:=h;exact⟨j.below b a,l.below b a,m.below b a,⟨v,p.below b a,t.imp fun c d=>jd.below b a args c d⟩,⟨y,q.below b a,u.imp fun c d=>kK.below b a thn c d⟩,⟨z,r.below b a,x.imp fun c d=>kK.below b a els c d⟩⟩
theorem kK.below{B a:Nat}{w w':World}(c:Below B w w')(b:B<=a):∀(l:List St) (g o:Nat),kK B w l g o->kK a w' l g o
 | [],_,_,_=>by rw[kK];trivial
 | e::r,g,o,h=>by
   rw[kK]at h ⊢;exact⟨RdS.below c b e g o h.1,kK.below c b r g (o+6) h.2⟩
end
theorem jd.at{B:Nat}{w:World}:∀(l:List Ex) (g o i:Nat) (e:Ex),jd B w l g o->l[i]? =some e->RdE B w e g (o+i*5)
 | [],_,_,_,_,_,h=>IQ
 | a::r,g,o,0,e,h,hi=>by
   rw[jd]at h;simp at hi;subst hi;simpa using h.1
 | a::r,g,o,i+1,e,h,hi=>by
   rw[jd]at h;have:=jd.at r g (o+5) i e h.2 QX;rw[show o+(i+1)*5=o+5+i*5 by omega];exact this
theorem kK.at{B:Nat}{w:World}:∀(l:List St) (g o i:Nat) (e:St),kK B w l g o->l[i]? =some e->RdS B w e g (o+i*6)
 | [],_,_,_,_,_,h=>IQ
 | a::r,g,o,0,e,h,hi=>by
   rw[kK]at h;simp at hi;subst hi;simpa using h.1
 | a::r,g,o,i+1,e,h,hi=>by
   rw[kK]at h;have:=kK.at r g (o+6) i e h.2 QX;rw[show o+(i+1)*6=o+6+i*6 by omega];exact this
def xL(B:Nat)(w:World)(v:Value)(l:List Ex):Prop:=v9 v l.length (jd B w l)
def SlS(B:Nat)(w:World)(v:Value)(l:List St):Prop:=v9 v l.length (kK B w l)
theorem xL.below{B a:Nat}{w w':World}{v:Value}{l:List Ex}(b:xL B w v l)(d:Below B w w')(c:B<=a):xL a w' v l:=v9.imp b fun g o=>jd.below d c l g o
theorem SlS.below{B a:Nat}{w w':World}{v:Value}{l:List St}(b:SlS B w v l)(d:Below B w w')(c:B<=a):SlS a w' v l:=v9.imp b fun g o=>kK.below d c l g o
theorem xL.cells{B:Nat}{w:World}{a:Option Addr}{n e:Nat}{l:List Ex}(j:xL B w (.slice a n e) l){i:Nat}{k op m:Int}{name:ByteArray}{args:List Ex}(c:l[i]? =some (.mk k op m name args)):
 ∃(g o:Nat) (v:Value),a=some ⟨g,o,none⟩/\g<B/\w.cell? ⟨g,o+i*5,none⟩=some (.int .i64 k)/\w.cell? ⟨g,o+i*5+1,none⟩=some (.int .i64 op)/\w.cell? ⟨g,o+i*5+2,none⟩=some (.int .i64 m)/\
   w.cell? ⟨g,o+i*5+3,none⟩=some (.string name)/\w.cell? ⟨g,o+i*5+4,none⟩=some v/\xL B w v args:=by
 obtain⟨A,C,z,F,hF⟩:=j;injection z with h D E;subst h;obtain⟨g,o,u,x⟩:=hF Qb;have d:=jd.at l g o i _ x c;rw[RdE]at d;obtain⟨b,p,q,r,_,v,t,y⟩:=d;exact⟨g,o,v,u,b.1,b.2,p.2,q.2,r.2,t.2,y⟩
theorem xL.range{B:Nat}{w:World}{v:Value}{l:List Ex}(c:xL B w v l){i:Nat}{k op m:Int}{name:ByteArray}{args:List Ex}(a:l[i]? =some (.mk k op m name args)):i64R m:=by
 obtain⟨e,h,q,p,hF⟩:=c;obtain⟨g,o,j,d⟩:=hF Qc;have b:=jd.at l g o i _ d a;rw[RdE]at b;exact b.2.2.2.2.1
theorem SlS.cells{B:Nat}{w:World}{c:Option Addr}{n m:Nat}{l:List St}(q:SlS B w (.slice c n m) l){i:Nat}{k j:Int}{name:ByteArray}{args:List Ex}{thn els:List St}(e:l[i]? =some (.mk k j name args thn els)):
 ∃(g o:Nat) (v a b:Value),c=some ⟨g,o,none⟩/\g<B/\w.cell? ⟨g,o+i*6,none⟩=some (.int .i64 k)/\w.cell? ⟨g,o+i*6+1,none⟩=some (.int .i64 j)/\w.cell? ⟨g,o+i*6+2,none⟩=some (.string name)/\
   w.cell? ⟨g,o+i*6+3,none⟩=some v/\w.cell? ⟨g,o+i*6+4,none⟩=some a/\w.cell? ⟨g,o+i*6+5,none⟩=some b/\xL B w v args/\SlS B w a thn/\SlS B w b els:=by
 obtain⟨G,H,F,K,hF⟩:=q;injection F with p I J;subst p;obtain⟨g,o,z,A⟩:=hF (by have:=(List.getElem?_eq_some_iff.1 e).1;omega);have h:=kK.at l g o i _ A e;rw[RdS]at h;obtain⟨d,r,t,⟨v,u,C⟩,⟨a,x,D⟩,⟨b,y,E⟩⟩:=h;exact⟨g,o,v,a,b,z,d.1,d.2,r.2,t.2,u.2,x.2,y.2,C,D,E⟩
def RdL{α:Type}(size:Nat)(F:α->Nat->Nat->Prop):List α->Nat->Nat->Prop
 | [],_,_=>True
 | a::r,g,o=>F a g o/\RdL size F r g (o+size)
theorem RdL.imp{α:Type}{size:Nat}{F G:α->Nat->Nat->Prop}(k:∀a g o,F a g o->G a g o):∀(l:List α) (g o:Nat),RdL size F l g o->RdL size G l g o
 | [],_,_,_=>trivial
 | a::r,g,o,h=>⟨k a g o h.1,RdL.imp k r g (o+size) h.2⟩
theorem RdL.at{α:Type}{size:Nat}{F:α->Nat->Nat->Prop}:∀(l:List α) (g o i:Nat) (a:α),RdL size F l g o->l[i]? =some a->F a g (o+i*size)
 | [],_,_,_,_,_,h=>IQ
 | a::r,g,o,0,e,h,hi=>by
   simp at hi;subst hi;simpa using h.1
 | a::r,g,o,i+1,e,h,hi=>by
   have:=RdL.at r g (o+size) i e h.2 QX;rw[show o+(i+1)*size=o+size+i*size by rw[Nat.add_mul,Nat.one_mul];omega];exact this
def RdA(B:Nat)(w:World)(a:Ar)(g o:Nat):Prop:=CellB B w g o (.string a.name)/\CellB B w g (o+1) (.int .i64 a.size)
def RdP(B:Nat)(w:World)(a:Pa)(g o:Nat):Prop:=CellB B w g o (.string a.name)/\CellB B w g (o+1) (.int .i64 a.type)
def SlA(B:Nat)(w:World)(v:Value)(l:List Ar):Prop:=v9 v l.length (RdL 2 (RdA B w) l)
def SlP(B:Nat)(w:World)(v:Value)(l:List Pa):Prop:=v9 v l.length (RdL 2 (RdP B w) l)/\∀a n c,v=.slice a n c->n<=c
def RdF(B:Nat)(w:World)(f:Fu)(g o:Nat):Prop:=CellB B w g o (.string f.name)/\CellB B w g (o+1) (.int .i64 f.type)/\(∃v,CellB B w g (o+2) v/\SlP B w v f.params)/\(∃v,CellB B w g (o+3) v/\SlS B w v f.body)
def SlF(B:Nat)(w:World)(v:Value)(l:List Fu):Prop:=v9 v l.length (RdL 4 (RdF B w) l)
theorem RdA.below{B b:Nat}{w w':World}(e:Below B w w')(d:B<=b)(a:Ar)(g o:Nat)(c:RdA B w a g o):RdA b w' a g o:=⟨c.1.below e d,c.2.below e d⟩
theorem RdP.below{B b:Nat}{w w':World}(e:Below B w w')(d:B<=b)(a:Pa)(g o:Nat)(c:RdP B w a g o):RdP b w' a g o:=⟨c.1.below e d,c.2.below e d⟩
theorem SlA.below{B b:Nat}{w w':World}{v:Value}{l:List Ar}(c:SlA B w v l)(e:Below B w w')(d:B<=b):SlA b w' v l:=v9.imp c fun g o=>RdL.imp (fun a g o=>RdA.below e d a g o) l g o
theorem SlP.below{B b:Nat}{w w':World}{v:Value}{l:List Pa}(c:SlP B w v l)(e:Below B w w')(d:B<=b):SlP b w' v l:=⟨v9.imp c.1 fun g o=>RdL.imp (fun a g o=>RdP.below e d a g o) l g o,c.2⟩
theorem RdF.below{B d:Nat}{w w':World}(c:Below B w w')(b:B<=d)(a:Fu)(g o:Nat)(e:RdF B w a g o):RdF d w' a g o:=by
 obtain⟨h,i,⟨v,j,k⟩,⟨v',l,m⟩⟩:=e;exact⟨h.below c b,i.below c b,⟨v,j.below c b,k.below c b⟩,⟨v',l.below c b,m.below c b⟩⟩
theorem SlF.below{B b:Nat}{w w':World}{v:Value}{l:List Fu}(c:SlF B w v l)(e:Below B w w')(d:B<=b):SlF b w' v l:=v9.imp c fun g o=>RdL.imp (fun a g o=>RdF.below e d a g o) l g o
theorem v9.elem{v:Value}{n:Nat}{F:Nat->Nat->Prop}{a:Option Addr}{m c:Nat}(e:v9 v n F)(i:v=.slice a m c)(h:0<n):∃g o,a=some ⟨g,o,none⟩/\F g o:=by
 obtain⟨j,k,b,_,hF⟩:=e;rw[i]at b;injection b with d _ _;subst d;exact hF h
theorem SlA.cells{B:Nat}{w:World}{b:Option Addr}{n d:Nat}{l:List Ar}(e:SlA B w (.slice b n d) l){i:Nat}{a:Ar}(c:l[i]? =some a):
 ∃(g o:Nat),b=some ⟨g,o,none⟩/\g<B/\w.cell? ⟨g,o+i*2,none⟩=some (.string a.name)/\w.cell? ⟨g,o+i*2+1,none⟩=some (.int .i64 a.size):=by
 obtain⟨g,o,h,j⟩:=v9.elem e rfl Qb;have:=RdL.at l g o i a j c;exact⟨g,o,h,this.1.1,this.1.2,this.2.2⟩
theorem SlP.cells{B:Nat}{w:World}{b:Option Addr}{n d:Nat}{l:List Pa}(e:SlP B w (.slice b n d) l){i:Nat}{a:Pa}(c:l[i]? =some a):
 ∃(g o:Nat),b=some ⟨g,o,none⟩/\g<B/\w.cell? ⟨g,o+i*2,none⟩=some (.string a.name)/\w.cell? ⟨g,o+i*2+1,none⟩=some (.int .i64 a.type):=by
 obtain⟨g,o,h,j⟩:=v9.elem e.1 rfl Qb;have:=RdL.at l g o i a j c;exact⟨g,o,h,this.1.1,this.1.2,this.2.2⟩
theorem SlF.cells{B:Nat}{w:World}{a:Option Addr}{n d:Nat}{l:List Fu}(e:SlF B w (.slice a n d) l){i:Nat}{f:Fu}(c:l[i]? =some f):
 ∃(g o:Nat) (v v':Value),a=some ⟨g,o,none⟩/\g<B/\w.cell? ⟨g,o+i*4,none⟩=some (.string f.name)/\w.cell? ⟨g,o+i*4+1,none⟩=some (.int .i64 f.type)/\w.cell? ⟨g,o+i*4+2,none⟩=some v/\w.cell? ⟨g,o+i*4+3,none⟩=some v'/\SlP B w v f.params/\SlS B w v' f.body:=by
 obtain⟨g,o,q,r⟩:=v9.elem e rfl Qb;obtain⟨b,h,⟨v,j,k⟩,⟨v',m,p⟩⟩:=RdL.at l g o i f r c;exact⟨g,o,v,v',q,b.1,b.2,h.2,j.2,m.2,k,p⟩
theorem SlA.form{B:Nat}{w:World}{v:Value}{l:List Ar}(c:SlA B w v l):∃a b,v=.slice a l.length b/\l.length<=281474976710656:=by
 obtain⟨a,b,e,d,_⟩:=c;exact⟨a,b,e,d⟩
theorem SlP.form{B:Nat}{w:World}{v:Value}{l:List Pa}(c:SlP B w v l):∃a b,v=.slice a l.length b/\l.length<=281474976710656:=by
 obtain⟨a,b,e,d,_⟩:=c.1;exact⟨a,b,e,d⟩
theorem SlF.form{B:Nat}{w:World}{v:Value}{l:List Fu}(c:SlF B w v l):∃a b,v=.slice a l.length b/\l.length<=281474976710656:=by
 obtain⟨a,b,e,d,_⟩:=c;exact⟨a,b,e,d⟩
theorem xL.form{B:Nat}{w:World}{v:Value}{l:List Ex}(c:xL B w v l):∃a b,v=.slice a l.length b/\l.length<=281474976710656:=by
 obtain⟨a,b,e,d,_⟩:=c;exact⟨a,b,e,d⟩
theorem SlS.form{B:Nat}{w:World}{v:Value}{l:List St}(c:SlS B w v l):∃a b,v=.slice a l.length b/\l.length<=281474976710656:=by
 obtain⟨a,b,e,d,_⟩:=c;exact⟨a,b,e,d⟩
def ExV(B:Nat)(w:World)(e:Ex)(x:Value):Prop:=∃v,x=.agg #[.int .i64 e.kind,.int .i64 e.op,.int .i64 e.n,.string e.name,v]/\i64R e.n/\xL B w v e.args
theorem ExV.below{B a:Nat}{w w':World}{e:Ex}{x:Value}(b:ExV B w e x)(d:Below B w w')(c:B<=a):ExV a w' e x:=by
 obtain⟨v,i,g,h⟩:=b;exact⟨v,i,g,h.below d c⟩
theorem yp(B:Nat)(w:World):xL B w (.slice none 0 0) []:=⟨none,0,rfl,Nat.zero_le _,fun a=>absurd a Ia⟩
theorem slS_nil(B:Nat)(w:World):SlS B w (.slice none 0 0) []:=⟨none,0,rfl,Nat.zero_le _,fun a=>absurd a Ia⟩
theorem slA_nil(B:Nat)(w:World):SlA B w (.slice none 0 0) []:=⟨none,0,rfl,Nat.zero_le _,fun a=>absurd a Ia⟩
theorem yb{w:World}{b:Nat}{a:Array Value}{T:TypeId}{fr:Nat × Nat}{B:Nat}(d:w.heap[b]? =some (.cells a T fr))(c:b<B)(j:Nat)(u:Value)(e:a[j]? =some u):CellB B w b j u:=⟨c,(Lib.cell_of_heap d j).trans e⟩
theorem rdE_at{w:World}{b B:Nat}{a:Array Value}{T:TypeId}{fr:Nat × Nat}(d:w.heap[b]? =some (.cells a T fr))(c:b<B)(o:Nat){k op n:Int}{name:ByteArray}{args:List Ex}{v:Value}(l:i64R n)(m:xL B w v args)
 (e:a[o]? =some (.int .i64 k)) (g:a[o+1]? =some (.int .i64 op)) (h:a[o+2]? =some (.int .i64 n)) (i:a[o+3]? =some (.string name)) (j:a[o+4]? =some v):RdE B w (.mk k op n name args) b o:=by
 rw[RdE];exact⟨yb d c _ _ e,yb d c _ _ g,yb d c _ _ h,yb d c _ _ i,l,v,yb d c _ _ j,m⟩
theorem slE_at1{w:World}{b B:Nat}{k op n:Int}{name:ByteArray}{args:List Ex}{v:Value}{T:TypeId}{fr:Nat × Nat}(c:w.heap[b]? =some (.cells #[.int .i64 k,.int .i64 op,.int .i64 n,.string name,v] T fr))(a:b<B)(d:i64R n)(e:xL B w v args):
 xL B w (.slice (some ⟨b,0,none⟩) 1 1) [.mk k op n name args]:=by
 refine⟨_,1,rfl,Ia,fun _=>⟨b,0,rfl,?_⟩⟩;rw[jd,jd];exact⟨rdE_at c a 0 d e rfl rfl rfl rfl rfl,trivial⟩
theorem slE_at2{w:World}{b B:Nat}{k op n g i a:Int}{name h:ByteArray}{args c:List Ex}{v v':Value}{T:TypeId}{fr:Nat × Nat}
 (e:w.heap[b]? =some (.cells #[.int .i64 k,.int .i64 op,.int .i64 n,.string name,v,.int .i64 g,.int .i64 i,.int .i64 a,.string h,v'] T fr)) (d:b<B) (j:i64R n) (m:xL B w v args) (l:i64R a) (o:xL B w v' c):
 xL B w (.slice (some ⟨b,0,none⟩) 2 2) [.mk k op n name args,.mk g i a h c]:=by
 refine⟨_,2,rfl,Ia,fun _=>⟨b,0,rfl,?_⟩⟩;rw[jd,jd,jd];exact⟨rdE_at e d 0 j m rfl rfl rfl rfl rfl,rdE_at e d 5 l o rfl rfl rfl rfl rfl,trivial⟩
theorem zA(w:World)(o:Obj):(w.alloc o).heap.size=w.heap.size+1:=Ia
theorem kL(w:World)(a:Addr)(u:Value):(w.setCell a u).heap.size=w.heap.size:=Ia
def writ(w:World)(b:Nat)(a c d e g:Value):World:=((((w.setCell ⟨b,0,none⟩ a).setCell ⟨b,1,none⟩ c).setCell ⟨b,2,none⟩ d).setCell ⟨b,3,none⟩ e).setCell ⟨b,4,none⟩ g
theorem kq(w:World)(b:Nat)(a c d e g:Value):(writ w b a c d e g).heap.size=w.heap.size:=by simp[writ]
theorem writ_row{w:World}{b:Nat}{h i j k l:Value}{T:TypeId}{fr:Nat × Nat}(m:w.heap[b]? =some (.cells #[h,i,j,k,l] T fr))(a c d e g:Value):(writ w b a c d e g).heap[b]? =some (.cells #[a,c,d,e,g] T fr):=
 Lib.heap_setCell_same (Lib.heap_setCell_same (Lib.heap_setCell_same (Lib.heap_setCell_same (Lib.heap_setCell_same m a) c) d) e) g
theorem idxF_none{s:ByteArray}:∀{l:List Fu},(∀(j:Nat) f,l[j]? =some f->f.name≠s)->jF l s=none
 | [],_=>rfl
 | f::r,h=>by
   rw[jF,if_neg (h 0 f rfl),idxF_none fun j g a=>h (j+1) g a];rfl
theorem idxF_some{s:ByteArray}:∀{l:List Fu} {j:Nat} {f:Fu},(∀(i:Nat) g,i<j->l[i]? =some g->g.name≠s)->l[j]? =some f->f.name=s->jF l s=some j
 | [],_,_,_,hj,_=>by simp at hj
 | g::r,0,f,_,hj,e=>by
   simp at hj;subst hj;rw[jF,if_pos e]
 | g::r,j+1,f,h,hj,e=>by
   rw[jF,if_neg (h 0 g I7 rfl),idxF_some (l:=r) (j:=j) (fun i x b a=>h (i+1) x I7 a) (by simpa using hj) e];rfl
theorem idxA_none{s:ByteArray}:∀{l:List Ar},(∀(j:Nat) f,l[j]? =some f->f.name≠s)->zb l s=none
 | [],_=>rfl
 | f::r,h=>by
   rw[zb,if_neg (h 0 f rfl),idxA_none fun j g a=>h (j+1) g a];rfl
theorem idxA_some{s:ByteArray}:∀{l:List Ar} {j:Nat} {f:Ar},(∀(i:Nat) g,i<j->l[i]? =some g->g.name≠s)->l[j]? =some f->f.name=s->zb l s=some j
 | [],_,_,_,hj,_=>by simp at hj
 | g::r,0,f,_,hj,e=>by
   simp at hj;subst hj;rw[zb,if_pos e]
 | g::r,j+1,f,h,hj,e=>by
   rw[zb,if_neg (h 0 g I7 rfl),idxA_some (l:=r) (j:=j) (fun i x b a=>h (i+1) x I7 a) (by simpa using hj) e];rfl
theorem yq{s:ByteArray}:∀{l:List Fu} {k:Nat},jF l s=some k->∃f,l[k]? =some f/\f.name=s/\∀(i:Nat) g,i<k->l[i]? =some g->g.name≠s
 | [],_,a=>Ii
 | f::r,k,a=>by
   rw[jF]at a;split at a
   .rename_i e
    injection a with a;subst a;exact⟨f,rfl,e,fun i g c=>absurd c I7⟩
   .rename_i e
    cases hr:jF r s with
    | none=>rw[hr]at a;cases a
    | some j=>
      rw[hr]at a;obtain rfl:j+1=k:=Io
      obtain⟨g,d,h,m⟩:=yq hr;refine⟨g,Ir,h,fun i x c b=>?_⟩;cases i with
      | zero=>simp at b;subst b;exact e
      | succ i=>exact m i x I7 Ih
theorem ul{a b:ByteArray}(c:a=b):(a.toList == b.toList)=true:=by simp[c]
theorem um{a b:ByteArray}(c:a≠b):(a.toList == b.toList)=false:=by
 rw[beq_eq_false_iff_ne];intro e;rw[Lib.toList_data,Lib.toList_data]at e;cases a;cases b
 simp_all
def NoF(l:List Fu)(s:ByteArray)(j:Nat):Prop:=∀(i:Nat) g,i<j->l[i]? =some g->g.name≠s
def NoA(l:List Ar)(s:ByteArray)(j:Nat):Prop:=∀(i:Nat) g,i<j->l[i]? =some g->g.name≠s
theorem NoF.zero(l:List Fu)(s:ByteArray):NoF l s 0:=fun i g a=>absurd a I7
theorem NoA.zero(l:List Ar)(s:ByteArray):NoA l s 0:=fun i g a=>absurd a I7
theorem NoF.succ{l:List Fu}{s:ByteArray}{j:Nat}{f:Fu}(b:NoF l s j)(d:l[j]? =some f)(e:f.name≠s):NoF l s (j+1):=fun i g h a=>by
 exact Ob
theorem NoA.succ{l:List Ar}{s:ByteArray}{j:Nat}{f:Ar}(b:NoA l s j)(d:l[j]? =some f)(e:f.name≠s):NoA l s (j+1):=fun i g h a=>by
 exact Ob
theorem NoF.all{l:List Fu}{s:ByteArray}{j:Nat}(b:NoF l s j)(c:l.length<=j):jF l s=none:=idxF_none fun i g a=>b i g Qc a
theorem NoA.all{l:List Ar}{s:ByteArray}{j:Nat}(b:NoA l s j)(c:l.length<=j):zb l s=none:=idxA_none fun i g a=>b i g Qc a
abbrev jT(a:Option Addr)(e c:Nat)(b:Option Addr)(g d:Nat):Obj:=.cells #[.slice a e c,.slice b g d] 27
theorem place_any(B:Nat)(p:Pr)(s:ByteArray)(t u:Value)(w:World)(y:B<=w.heap.size)(q:SlA B w t p.arrays)(c:SlF B w u p.funcs):
 Calls Tryz.prog 87 #[.agg #[t,u],.string s] w fun e w'=>e=.returned (.int .i64 (optI (jF p.funcs s)))/\Below w.heap.size w w':=by
 obtain⟨h,l,rfl,_⟩:=q.form;obtain⟨i,m,rfl,H⟩:=c.form;have v:=hid c;clear q c;go_enter Tryz.func87,Tryz.ntmps87;go_wp2_with (fail)
 go_loopw [9] (fun iv wr=>∃j:Nat,j<=p.funcs.length/\iv=.int .i64 j/\NoF p.funcs s j/\wr=w.alloc (jT h p.arrays.length l i p.funcs.length m)) (fun iv _=>p.funcs.length-(intOf iv).toNat)
 case atStart=>exact⟨0,Nat.zero_le _,rfl,NoF.zero _ _,rfl⟩
 case round=>
  obtain⟨j,G,rfl,r,rfl⟩:=hrel;have b:=hid r;clear r;by_cases C:j<p.funcs.length
  .obtain⟨x,d⟩:∃e,p.funcs[j]? =some e:=⟨_,List.getElem?_eq_getElem C⟩
   obtain⟨g,o,M,N,rfl,E,I,J,K,L,D,z⟩:=(v.out.below ((Below.refl B w).alloc y (jT h p.arrays.length l i p.funcs.length m)) Zr).cells d;have k:=hid d;have F:g<w.heap.size:=I7
   clear d D z;by_cases a:x.name=s
   .have A:=ul a
    go_wp2_with (fail);go_ret;exact⟨jY (by rw[idxF_some b.out k.out a];rfl),Zb.alloc Zr _⟩
   .have A:=um a
    exact Oa
  exact Oc
theorem array_any(B:Nat)(p:Pr)(s:ByteArray)(t u:Value)(w:World)(y:B<=w.heap.size)(c:SlA B w t p.arrays)(q:SlF B w u p.funcs):
 Calls Tryz.prog 135 #[.agg #[t,u],.string s] w fun e w'=>e=.returned (.int .i64 (optI (zb p.arrays s)))/\Below w.heap.size w w':=by
 obtain⟨h,l,rfl,F⟩:=c.form;obtain⟨i,m,rfl,_⟩:=q.form;have v:=hid c;clear c q;go_enter Tryz.func135,Tryz.ntmps135;go_wp2_with (fail)
 go_loopw [9] (fun iv wr=>∃j:Nat,j<=p.arrays.length/\iv=.int .i64 j/\NoA p.arrays s j/\wr=w.alloc (jT h p.arrays.length l i p.funcs.length m)) (fun iv _=>p.arrays.length-(intOf iv).toNat)
 case atStart=>exact⟨0,Nat.zero_le _,rfl,NoA.zero _ _,rfl⟩
 case round=>
  obtain⟨j,E,rfl,r,rfl⟩:=hrel;have b:=hid r;clear r;by_cases A:j<p.arrays.length
  .obtain⟨x,d⟩:∃e,p.arrays[j]? =some e:=⟨_,List.getElem?_eq_getElem A⟩
   obtain⟨g,o,rfl,C,G,H⟩:=(v.out.below ((Below.refl B w).alloc y (jT h p.arrays.length l i p.funcs.length m)) Zr).cells d;have k:=hid d;have D:g<w.heap.size:=I7
   clear d;by_cases a:x.name=s
   .have z:=ul a
    go_wp2_with (fail);go_ret;exact⟨jY (by rw[idxA_some b.out k.out a];rfl),Zb.alloc Zr _⟩
   .have z:=um a
    exact Oa
  exact Oc
end Go.Proofs.YthcmenajdcbnnaaGreatDoor
