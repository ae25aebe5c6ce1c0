import Derived.Test.YthcmenajdcbnnaaGreatDoorAtEvAw
set_option linter.unusedSimpArgs false
set_option linter.unusedVariables false
set_option maxRecDepth 100000
set_option maxHeartbeats 99000000
/- The law's maker: a number. (By tools/gen_rnmk2.py.) -/
namespace Go.Proofs.YthcmenajdcbnnaaGreatDoor
open Lib (hid)
open Go.RowKit
theorem OS{p:Prop}(h:p:=by
 first
 | (simp only[ByteArray.size_append,zM,List.length_cons,List.length_nil]
    omega)
 | omega):p:=h
theorem OT{p:Prop}(h:p:=by
 .by_cases ak:vs=⟨#[122]⟩
  .have ay:=ul ak
   go_wp2_with (fail);go_ret;refine⟨_,G,rfl,?_,I7,I7,f.out,g.out⟩
   exact OS
  .have ay:(vs.toList == [122])=false:=by have:=um ak;rwa [show(⟨#[122]⟩:ByteArray).toList=[122]by decide+kernel]at this
   go_wp2_with (go_at_call 76;(with_reducible refine(ke (q:=4) (g.out.alloc _) I7 I8 I8).mono ?_);rintro e w9 ⟨t,M,N,rfl,a,c⟩
                obtain⟨u,aq,r⟩:=jp p [⟨#[120]⟩,⟨#[120,32,43,32,49]⟩,⟨#[48]⟩,(⟨#[102,40,120,44,32]⟩++an++⟨#[41]⟩)] 40 (fun s A=>by simp only[List.mem_cons,List.not_mem_nil,or_false]at A;rcases A with rfl|rfl|rfl|rfl <;>(first|decide|(simp only[ByteArray.size_append,zM,List.length_cons,List.length_nil];omega))) 9 M (show t<4 from N);have ao:w9.cell? ⟨p.heap.size,t.toNat,none⟩=some (.string u):=(a.cell Ic (by have:=g.out.lt;omega)).trans (r p);have ap:p.heap.size<w9.heap.size:=by have:=a.size;rw[zA]at this;omega
                obtain⟨K,L⟩:∃x,x=G+1:=⟨_,rfl⟩
                rw[<-L]at c;have I:=hid c;have J:=hid ((f.out.alloc g.out.lt f.out.size _).trans (a.mono (by have:=f.out.size;rw[zA];omega)))
                clear a c r)
   go_ret;refine⟨_,K,rfl,?_,I7,I7,J.out,I.out⟩
   exact OS):p:=h
theorem OU{p:Prop}(h:p:=by
 .go_wp2_with (go_at_call 76;(with_reducible refine(ke (q:=4) (g.out.alloc _) I7 I8 I8).mono ?_);rintro e w9 ⟨t,M,N,rfl,a,c⟩
               obtain⟨u,aq,r⟩:=jp p [⟨#[98,114,101,97,107,59,10]⟩,⟨#[99,111,110,116,105,110,117,101,59,10]⟩,(⟨#[105,102,32,40]⟩++an++⟨#[41,32,123,10,98,114,101,97,107,59,10,125,10]⟩),(⟨#[105,102,32,40]⟩++vs++⟨#[32,62,32,51,41,32,123,10,99,111,110,116,105,110,117,101,59,10,125,10]⟩)] 40 (fun s A=>by simp only[List.mem_cons,List.not_mem_nil,or_false]at A;rcases A with rfl|rfl|rfl|rfl <;>(first|decide|(simp only[ByteArray.size_append,zM,List.length_cons,List.length_nil];omega))) 9 M (show t<4 from N);have ao:w9.cell? ⟨p.heap.size,t.toNat,none⟩=some (.string u):=(a.cell Ic (by have:=g.out.lt;omega)).trans (r p);have ap:p.heap.size<w9.heap.size:=by have:=a.size;rw[zA]at this;omega
               obtain⟨K,L⟩:∃x,x=G+1:=⟨_,rfl⟩
               rw[<-L]at c;have I:=hid c;have J:=hid ((f.out.alloc g.out.lt f.out.size _).trans (a.mono (by have:=f.out.size;rw[zA];omega)))
               clear a c r)
  go_ret;refine⟨_,K,rfl,?_,I7,I7,J.out,I.out⟩
  exact OS):p:=h
theorem OV{p:Prop}(h:p:=by
 have ab:r<5:=I7
 have U:(r == 5)=false:=I9
 have V:(r == 6)=false:=I9
 have W:(r == 7)=false:=I9
 have Z:r<11:=I7
 have S:(r == 11)=false:=I9
 have T:(r == 12)=false:=I9
 go_wp2_with (go_at_call 76;(with_reducible refine(ke (q:=6) (g.out.alloc _) I7 I8 I8).mono ?_);rintro e l ⟨R,ap,ar,rfl,a,c⟩
              obtain⟨u,Q,d⟩:=jp j [⟨#[48]⟩,⟨#[49]⟩,⟨#[50]⟩,⟨#[55]⟩,⟨#[50,53,53]⟩,⟨#[54,52]⟩] 3 I8 9 ap (show R<6 from ar);have aQ:l.cell? ⟨j.heap.size,R.toNat,none⟩=some (.string u):=(a.cell Ic (by have:=g.out.lt;omega)).trans (d j);have a2:j.heap.size<l.heap.size:=by have:=a.size;rw[zA]at this;omega
              obtain⟨G,af⟩:∃x,x=C+1:=⟨_,rfl⟩
              rw[<-af]at c;have p:=hid c;have t:=hid ((f.out.alloc g.out.lt f.out.size _).trans (a.mono (by have:=f.out.size;rw[zA];omega)))
              clear a c d)
 go_ret;refine⟨_,G,rfl,?_,I7,I7,t.out,p.out⟩
 exact OS):p:=h
theorem OW{p:Prop}(h:p:=by
 have W:(d == 3)=false:=I9
 have X:(d == 4)=false:=I9
 have Y:(d == 5)=false:=I9
 have Z:(d == 6)=false:=I9
 have aa:(d == 7)=false:=I9
 have af:d<10:=I7
 have ag:d<12:=I7
 have V:(d == 12)=false:=I9
 go_wp2_with (go_at_call 39;(with_reducible refine(yk (m:=2) (D:=2) I8 I8 g.out I7 l k).mono ?_);rintro e F ⟨E,n,rfl,B,z,C,a,c⟩
              have j:=hid c;have i:=hid (f.out.trans (a.mono f.out.size))
              clear a c)
 go_ret;refine⟨_,n,rfl,?_,I7,I7,i.out,j.out⟩
 exact OS):p:=h
theorem OX{p:Prop}(h:p:=by
 rcases(show R=1\/¬R=1 from by omega)with rfl|aJ
 .go_wp2_with (go_at_call 38;(with_reducible refine(BlkC.call (D:=D-1) T.out U S.out P.out I7 l k).mono ?_);rintro e aV ⟨aT,aw,rfl,aR,aN,aS,a,c⟩
               have ar:=hid c;have au:=hid (Q.out.trans (a.mono Q.out.size))
               clear a c)
  go_ret;refine⟨_,aw,rfl,?_,I7,I7,au.out,ar.out⟩
  exact OS
 .have aK:(R == 1)=false:=by simp;omega
  go_wp2_with (fail);go_ret;refine⟨_,av,rfl,?_,I7,I7,Q.out,P.out⟩
  exact OS):p:=h
theorem OY{p:Prop}(h:p:=by
 have ab:r<5:=I7
 have U:(r == 5)=false:=I9
 have V:(r == 6)=false:=I9
 have W:(r == 7)=false:=I9
 have Z:r<11:=I7
 have S:(r == 11)=false:=I9
 have T:(r == 12)=false:=I9
 go_wp2_with (fail);go_ret;refine⟨_,C,rfl,?_,I7,I7,f.out,g.out⟩
 exact OS):p:=h
theorem OZ{p:Prop}(h:p:=by
 have ao:r<3:=I7
 have aj:(r == 3)=false:=I9
 have ap:r<7:=I7
 have ak:(r == 7)=false:=I9
 have al:(r == 8)=false:=I9
 go_wp2_with (fail);go_ret;refine⟨_,I,rfl,?_,I7,I7,g.out,n.out⟩
 exact OS):p:=h
theorem I0{p:Prop}(h:p:=by
 go_ret;refine⟨_,C,rfl,?_,I7,I7,f.out,g.out⟩
 exact OS):p:=h
theorem I1{p:Prop}(h:p:=by
 go_ret;refine⟨_,n,rfl,?_,I7,I7,i.out,j.out⟩
 exact OS):p:=h
theorem I2{p:Prop}(h:p:=by
 have ag:d<12:=I7
 have V:(d == 12)=false:=I9
 go_wp2_with (fail);go_ret;refine⟨_,G,rfl,?_,I7,I7,f.out,g.out⟩
 exact OS):p:=h
theorem I3{p:Prop}(h:p:=by
 go_ret;refine⟨_,p,rfl,?_,I7,I7,i.out,f.out⟩
 exact OS):p:=h
theorem I4{p:Prop}(h:p:=by
 go_ret;refine⟨_,Q,rfl,?_,I7,I7,P.out,O.out⟩
 exact OS):p:=h
theorem I5{p:Prop}(h:p:=by
 go_ret;refine⟨_,H,rfl,?_,I7,I7,o.out,y.out⟩
 exact OS):p:=h
theorem I6{p:Prop}(h:p:=by
 go_ret;refine⟨_,G,rfl,?_,I7,I7,f.out,g.out⟩
 exact OS):p:=h
theorem UA{p:Prop}(h:p:=by
 match d,a with
 | 0,_=>decide
 | 1,_=>decide
 | 2,_=>decide
 | 3,_=>decide):p:=h
theorem str_get{w:World}{l:List Value}{T:TypeId}{j:Nat}{u:Value}(c:(w.alloc (.cells l.toArray T)).cell? ⟨w.heap.size,j,none⟩=some u)(b:j<l.length):l[j]'b=u:=by
 have a:=(Lib.cell_of_heap (heap_alloc_new w (.cells l.toArray T)) j).symm.trans c;rw[List.getElem?_toArray,List.getElem?_eq_getElem b]at a;exact Option.some.inj a
theorem zM(l:List UInt8):(⟨l.toArray⟩:ByteArray).size=l.length:=rfl
theorem num_step(m:Nat)(aF:∀m',m'+1=m->zAb m'/\TruC m'):zAb m:=by
 intro bf b a6 aK v vs a7 D w ax az bd L J;have bi:=pD_ge m;have bo:=szD_ge m;have aH:=hid az;have a5:=hid (OffB.refl b w.heap.size w);have bm:w.heap.size<=w.heap.size:=Nat.le_refl _;have aG:=hid aF;have ad:=hid ax;clear az aF ax;go_enter Tryz.func39,Tryz.ntmps39
 go_upto_region 2 with(go_at_call 76;(with_reducible refine(ke (q:=14) aH.out I7 I8 I8).mono ?_);rintro e j ⟨r1,ao,aq,rfl,a,c⟩
                       obtain⟨C,aP⟩:∃x,x=aK+1:=⟨_,rfl⟩
                       rw[<-aP]at c;have g:=hid c;have f:=hid a
                       clear a c)
 by_cases aT:m=0
 case pos=>
  subst aT;have aO:D=0:=by have:=ad.out;simpa using this
  subst aO;have aB:0<=r1 % 6:=Int.emod_nonneg _ I7;have aC:r1 % 6<6:=Int.emod_lt_of_pos _ I7;go_upto_region 4 with(fail);generalize r1 % 6=r at *;have aY:=aB;have aZ:=aC;clear ao aq aB aC;rcases(show(0<=r/\r<2)\/(2<=r/\r<5)\/r=5 from by omega)with⟨Y,X⟩|⟨Y,X⟩|rfl
  .have aa:r<2:=by omega
   exact OV
  .have aa:¬r<2:=by omega
   exact OY
  .go_wp2_with (fail)
   exact I0
 case neg=>
  obtain⟨m',rfl⟩:∃m',m=m'+1:=⟨m-1,I7⟩
  have I:=hid (aG.out m' rfl);have a8:(1 :Int)<=D:=by have:=ad.out;omega
  have ay:D-1=(m':Int):=by have:=ad.out;omega
  have H:=hid ay;have ba:D<=1000001:=Ub
  have bn:IntKind.i64.wrap (D-1)=D-1:=IntWalk.i64_in _ I7;clear ay;have bc:szD (m'+1)=2*szD m'+8:=rfl;have bb:pD (m'+1)=2*pD m'+2:=rfl;have K:szD m'<=1000000:=I7
  have bj:=pD_ge m';have bp:=szD_ge m';have a9:¬D<1:=I7
  obtain⟨r,aX⟩:∃r,r=r1:=⟨_,rfl⟩
  subst aX;have aY:=ao;have aZ:=aq;go_upto_region 4 with(fail);clear ao aq;rcases(show(0<=r/\r<2)\/(2<=r/\r<5)\/r=5\/r=6\/r=7\/(8<=r/\r<11)\/r=11\/r=12\/r=13 from by omega)with⟨Y,X⟩|⟨Y,X⟩|rfl|rfl|rfl|⟨Y,X⟩|rfl|rfl|rfl
  .have aa:r<2:=by omega
   exact OV
  .have aa:¬r<2:=by omega
   exact OY
  .go_wp2_with (fail)
   exact I0
  .go_wp2_with (go_at_call 39;(with_reducible refine(zAb.call (D:=D-1) I.out.1 K H.out g.out I7 L J).mono ?_);rintro e l ⟨n,G,rfl,aD,aA,aE,a,c⟩
                have p:=hid c;have t:=hid (f.out.trans (a.mono f.out.size))
                clear a c)
   go_ret;refine⟨_,G,rfl,?_,I7,I7,t.out,p.out⟩
   exact OS
  .go_upto_region 13 with(fail)
   go_region_law (first
    | (go_simp;go_at_call 76;(with_reducible refine(ke (q:=5) g.out.drew I7 I8 I8).mono ?_);rintro e w8 ⟨i,O,P,rfl,a,c⟩
       obtain⟨u,Q,d⟩:=jp j [⟨#[45]⟩,⟨#[126]⟩,⟨#[105,56]⟩,⟨#[117,49,54]⟩,⟨#[105,51,50]⟩] 3 I8 9 O (show i<5 from P);have ah:=d w8;have aj:∀s:i.toNat<5,([.string ⟨#[45]⟩,.string ⟨#[126]⟩,.string ⟨#[105,56]⟩,.string ⟨#[117,49,54]⟩,.string ⟨#[105,51,50]⟩]:List Value)[i.toNat]'s=.string u:=fun s=>str_get (d w8) s
       obtain⟨ae,N⟩:∃x,x=C+1:=⟨_,rfl⟩
       rw[<-N]at c;have A:=hid c;have z:=hid d;have al:¬9223372036854775807<u.size+1:=I7
       have aw:j.heap.size<=w8.heap.size:=by have:=a.size;first|exact this|exact Nat.le_trans (Nat.le_trans (Nat.le_succ _) (Nat.le_of_eq (zA _ _).symm)) this
       have y:=hid (show OffB b w.heap.size w w8 from(f.out.trans (OffB.of_below Zb.drew g.out.lt)).trans (a.mono f.out.size))
       clear a c d)
    | (go_simp;go_at_call 76;(with_reducible refine(ke (q:=5) (g.out.alloc _).drew I7 I8 I8).mono ?_);rintro e w8 ⟨i,O,P,rfl,a,c⟩
       obtain⟨u,Q,d⟩:=jp j [⟨#[45]⟩,⟨#[126]⟩,⟨#[105,56]⟩,⟨#[117,49,54]⟩,⟨#[105,51,50]⟩] 3 I8 9 O (show i<5 from P);have ah:=d w8;have aj:∀s:i.toNat<5,([.string ⟨#[45]⟩,.string ⟨#[126]⟩,.string ⟨#[105,56]⟩,.string ⟨#[117,49,54]⟩,.string ⟨#[105,51,50]⟩]:List Value)[i.toNat]'s=.string u:=fun s=>str_get (d w8) s
       obtain⟨ae,N⟩:∃x,x=C+1:=⟨_,rfl⟩
       rw[<-N]at c;have A:=hid c;have z:=hid d;have al:¬9223372036854775807<u.size+1:=I7
       have aw:j.heap.size<=w8.heap.size:=by have:=a.size;first|exact this|exact Nat.le_trans (Nat.le_trans (Nat.le_succ _) (Nat.le_of_eq (zA _ _).symm)) this
       have y:=hid (show OffB b w.heap.size w w8 from((f.out.alloc g.out.lt f.out.size (.cells #[.string ⟨#[45]⟩,.string ⟨#[126]⟩,.string ⟨#[105,56]⟩,.string ⟨#[117,49,54]⟩,.string ⟨#[105,51,50]⟩] 9)).trans (OffB.of_below Zb.drew (by have:=g.out.lt;rw[zA];omega))).trans (a.mono (by have:=f.out.size;show _<=(World.alloc _ _).heap.size;rw[zA];omega)));have ag:w8.cell? ⟨j.heap.size,i.toNat,none⟩=some (.string u):=(a.cell Qs (by have:=g.out.lt;omega)).trans (z.out j);have a0:j.heap.size<w8.heap.size:=by have:=a.size;have aN:(j.alloc (.cells #[.string ⟨#[45]⟩,.string ⟨#[126]⟩,.string ⟨#[105,56]⟩,.string ⟨#[117,49,54]⟩,.string ⟨#[105,51,50]⟩] 9)).heap.size=j.heap.size+1:=zA _ _;have aM:(j.alloc (.cells #[.string ⟨#[45]⟩,.string ⟨#[126]⟩,.string ⟨#[105,56]⟩,.string ⟨#[117,49,54]⟩,.string ⟨#[105,51,50]⟩] 9)).heap.size<=w8.heap.size:=this;omega
       clear a c d)
    | (go_simp;go_at_call 39;(with_reducible refine(zAb.call (D:=D-1) I.out.1 K H.out A.out I7 L J).mono ?_);rintro e w9 ⟨B,M,rfl,au,ak,av,a,c⟩
       have ai:=z.out w9;have am:¬9223372036854775807<u.size+1+B.size:=I7
       have an:¬9223372036854775807<u.size+1+B.size+1:=I7
       have E:=hid c;have F:=hid (show OffB b w.heap.size w w9 from y.out.trans (a.mono y.out.size));have a4:w8.heap.size<=w9.heap.size:=a.size
       first
       | (have aR:=(a.cell (k:=j.heap.size) (o:=i.toNat) I7 (by have:=g.out.lt;omega)).trans ag
          have a1:j.heap.size<w9.heap.size:=I7)
       | skip
       clear a c)
    | (go_simp;go_at_call 39;(with_reducible refine(zAb.call (D:=D-1) I.out.1 K H.out (A.out.alloc _) I7 L J).mono ?_);rintro e w9 ⟨B,M,rfl,au,ak,av,a,c⟩
       have ai:=z.out w9;have am:¬9223372036854775807<u.size+1+B.size:=I7
       have an:¬9223372036854775807<u.size+1+B.size+1:=I7
       have E:=hid c;have F:=hid (show OffB b w.heap.size w w9 from(y.out.alloc A.out.lt y.out.size (.cells #[.string ⟨#[45]⟩,.string ⟨#[126]⟩,.string ⟨#[105,56]⟩,.string ⟨#[117,49,54]⟩,.string ⟨#[105,51,50]⟩] 9)).trans (a.mono (by have:=y.out.size;rw[zA];omega)));have aS:w9.cell? ⟨w8.heap.size,i.toNat,none⟩=some (.string u):=(a.cell Ic (by have:=A.out.lt;omega)).trans (z.out w8);have a3:w8.heap.size<w9.heap.size:=by have:=a.size;rw[zA]at this;omega
       clear a c))
   all_goals
    go_wp2_with (fail);go_ret
    first
    | (refine⟨_,M,rfl,?_,I7,I7,F.out,E.out⟩
       simp only[ByteArray.size_append,zM,List.length_cons,List.length_nil]
       omega)
    | (refine⟨_,M,rfl,?_,I7,I7,F.out.alloc E.out.lt F.out.size _,E.out.alloc _⟩
       simp only[ByteArray.size_append,zM,List.length_cons,List.length_nil]
       omega)
  .have aa:¬r<2:=by omega
   have ab:¬r<5:=I7
   have U:(r == 5)=false:=I9
   have V:(r == 6)=false:=I9
   have W:(r == 7)=false:=I9
   have Z:r<11:=I7
   have S:(r == 11)=false:=I9
   have T:(r == 12)=false:=I9
   go_upto_region 16 with(go_at_call 39;(with_reducible refine(zAb.call (D:=D-1) I.out.1 K H.out g.out I7 L J).mono ?_);rintro e l ⟨n,G,rfl,aD,aA,aE,a,c⟩
                          have p:=hid c;have t:=hid (f.out.trans (a.mono f.out.size))
                          clear a c)
   have bg:¬9223372036854775807<1+n.size:=I7
   have bh:¬9223372036854775807<1+n.size+1:=I7
   go_region_law (first
    | (go_simp;go_at_call 76;(with_reducible refine(ke (q:=11) p.out.drew I7 I8 I8).mono ?_);rintro e w8 ⟨i,O,P,rfl,a,c⟩
       obtain⟨u,Q,d⟩:=jp l [⟨#[43]⟩,⟨#[45]⟩,⟨#[42]⟩,⟨#[47]⟩,⟨#[37]⟩,⟨#[38]⟩,⟨#[124]⟩,⟨#[94]⟩,⟨#[60,60]⟩,⟨#[62,62]⟩,⟨#[62,62,62]⟩] 3 I8 9 O (show i<11 from P);have ah:=d w8;have aj:∀s:i.toNat<11,([.string ⟨#[43]⟩,.string ⟨#[45]⟩,.string ⟨#[42]⟩,.string ⟨#[47]⟩,.string ⟨#[37]⟩,.string ⟨#[38]⟩,.string ⟨#[124]⟩,.string ⟨#[94]⟩,.string ⟨#[60,60]⟩,.string ⟨#[62,62]⟩,.string ⟨#[62,62,62]⟩]:List Value)[i.toNat]'s=.string u:=fun s=>str_get (d w8) s
       obtain⟨ae,N⟩:∃x,x=G+1:=⟨_,rfl⟩
       rw[<-N]at c;have A:=hid c;have z:=hid d;have al:¬9223372036854775807<1+n.size:=I7
       have aU:¬9223372036854775807<1+n.size+1:=I7
       have aV:¬9223372036854775807<1+n.size+1+u.size:=I7
       have aW:¬9223372036854775807<1+n.size+1+u.size+1:=I7
       have aw:l.heap.size<=w8.heap.size:=by have:=a.size;first|exact this|exact Nat.le_trans (Nat.le_trans (Nat.le_succ _) (Nat.le_of_eq (zA _ _).symm)) this
       have y:=hid (show OffB b w.heap.size w w8 from(t.out.trans (OffB.of_below Zb.drew p.out.lt)).trans (a.mono t.out.size))
       clear a c d)
    | (go_simp;go_at_call 76;(with_reducible refine(ke (q:=11) (p.out.alloc _).drew I7 I8 I8).mono ?_);rintro e w8 ⟨i,O,P,rfl,a,c⟩
       obtain⟨u,Q,d⟩:=jp l [⟨#[43]⟩,⟨#[45]⟩,⟨#[42]⟩,⟨#[47]⟩,⟨#[37]⟩,⟨#[38]⟩,⟨#[124]⟩,⟨#[94]⟩,⟨#[60,60]⟩,⟨#[62,62]⟩,⟨#[62,62,62]⟩] 3 I8 9 O (show i<11 from P);have ah:=d w8;have aj:∀s:i.toNat<11,([.string ⟨#[43]⟩,.string ⟨#[45]⟩,.string ⟨#[42]⟩,.string ⟨#[47]⟩,.string ⟨#[37]⟩,.string ⟨#[38]⟩,.string ⟨#[124]⟩,.string ⟨#[94]⟩,.string ⟨#[60,60]⟩,.string ⟨#[62,62]⟩,.string ⟨#[62,62,62]⟩]:List Value)[i.toNat]'s=.string u:=fun s=>str_get (d w8) s
       obtain⟨ae,N⟩:∃x,x=G+1:=⟨_,rfl⟩
       rw[<-N]at c;have A:=hid c;have z:=hid d;have al:¬9223372036854775807<1+n.size:=I7
       have aU:¬9223372036854775807<1+n.size+1:=I7
       have aV:¬9223372036854775807<1+n.size+1+u.size:=I7
       have aW:¬9223372036854775807<1+n.size+1+u.size+1:=I7
       have aw:l.heap.size<=w8.heap.size:=by have:=a.size;first|exact this|exact Nat.le_trans (Nat.le_trans (Nat.le_succ _) (Nat.le_of_eq (zA _ _).symm)) this
       have y:=hid (show OffB b w.heap.size w w8 from((t.out.alloc p.out.lt t.out.size (.cells #[.string ⟨#[43]⟩,.string ⟨#[45]⟩,.string ⟨#[42]⟩,.string ⟨#[47]⟩,.string ⟨#[37]⟩,.string ⟨#[38]⟩,.string ⟨#[124]⟩,.string ⟨#[94]⟩,.string ⟨#[60,60]⟩,.string ⟨#[62,62]⟩,.string ⟨#[62,62,62]⟩] 9)).trans (OffB.of_below Zb.drew (by have:=p.out.lt;rw[zA];omega))).trans (a.mono (by have:=t.out.size;show _<=(World.alloc _ _).heap.size;rw[zA];omega)));have ag:w8.cell? ⟨l.heap.size,i.toNat,none⟩=some (.string u):=(a.cell Qs (by have:=p.out.lt;omega)).trans (z.out l);have a0:l.heap.size<w8.heap.size:=by have:=a.size;have aN:(l.alloc (.cells #[.string ⟨#[43]⟩,.string ⟨#[45]⟩,.string ⟨#[42]⟩,.string ⟨#[47]⟩,.string ⟨#[37]⟩,.string ⟨#[38]⟩,.string ⟨#[124]⟩,.string ⟨#[94]⟩,.string ⟨#[60,60]⟩,.string ⟨#[62,62]⟩,.string ⟨#[62,62,62]⟩] 9)).heap.size=l.heap.size+1:=zA _ _;have aM:(l.alloc (.cells #[.string ⟨#[43]⟩,.string ⟨#[45]⟩,.string ⟨#[42]⟩,.string ⟨#[47]⟩,.string ⟨#[37]⟩,.string ⟨#[38]⟩,.string ⟨#[124]⟩,.string ⟨#[94]⟩,.string ⟨#[60,60]⟩,.string ⟨#[62,62]⟩,.string ⟨#[62,62,62]⟩] 9)).heap.size<=w8.heap.size:=this;omega
       clear a c d)
    | (go_simp;go_at_call 39;(with_reducible refine(zAb.call (D:=D-1) I.out.1 K H.out A.out I7 L J).mono ?_);rintro e w9 ⟨B,M,rfl,au,ak,av,a,c⟩
       have ai:=z.out w9;have am:¬9223372036854775807<1+n.size+1+u.size+1+B.size:=I7
       have an:¬9223372036854775807<1+n.size+1+u.size+1+B.size+1:=I7
       have E:=hid c;have F:=hid (show OffB b w.heap.size w w9 from y.out.trans (a.mono y.out.size));have a4:w8.heap.size<=w9.heap.size:=a.size
       first
       | (have aR:=(a.cell (k:=l.heap.size) (o:=i.toNat) I7 (by have:=p.out.lt;omega)).trans ag
          have a1:l.heap.size<w9.heap.size:=I7)
       | skip
       clear a c)
    | (go_simp;go_at_call 39;(with_reducible refine(zAb.call (D:=D-1) I.out.1 K H.out (A.out.alloc _) I7 L J).mono ?_);rintro e w9 ⟨B,M,rfl,au,ak,av,a,c⟩
       have ai:=z.out w9;have am:¬9223372036854775807<1+n.size+1+u.size+1+B.size:=I7
       have an:¬9223372036854775807<1+n.size+1+u.size+1+B.size+1:=I7
       have E:=hid c;have F:=hid (show OffB b w.heap.size w w9 from(y.out.alloc A.out.lt y.out.size (.cells #[.string ⟨#[43]⟩,.string ⟨#[45]⟩,.string ⟨#[42]⟩,.string ⟨#[47]⟩,.string ⟨#[37]⟩,.string ⟨#[38]⟩,.string ⟨#[124]⟩,.string ⟨#[94]⟩,.string ⟨#[60,60]⟩,.string ⟨#[62,62]⟩,.string ⟨#[62,62,62]⟩] 9)).trans (a.mono (by have:=y.out.size;rw[zA];omega)));have aS:w9.cell? ⟨w8.heap.size,i.toNat,none⟩=some (.string u):=(a.cell Ic (by have:=A.out.lt;omega)).trans (z.out w8);have a3:w8.heap.size<w9.heap.size:=by have:=a.size;rw[zA]at this;omega
       clear a c))
   all_goals
    go_wp2_with (fail);go_ret
    first
    | (refine⟨_,M,rfl,?_,I7,I7,F.out,E.out⟩
       simp only[ByteArray.size_append,zM,List.length_cons,List.length_nil]
       omega)
    | (refine⟨_,M,rfl,?_,I7,I7,F.out.alloc E.out.lt F.out.size _,E.out.alloc _⟩
       simp only[ByteArray.size_append,zM,List.length_cons,List.length_nil]
       omega)
  .go_wp2_with (fail)
   exact I0
  .go_wp2_with (fail)
   exact I0
  .go_wp2_with (first
    | (go_at_call 39;(with_reducible refine(zAb.call (D:=D-1) I.out.1 K H.out g.out I7 L J).mono ?_);rintro e l ⟨n,G,rfl,aD,aA,aE,a,c⟩
       have p:=hid c;have t:=hid (f.out.trans (a.mono f.out.size))
       clear a c)
    | (go_at_call 40;(with_reducible refine(TruC.call (D:=D-1) I.out.2 K H.out p.out I7 L J).mono ?_);rintro e br ⟨bq,aL,rfl,bk,be,bl,a,c⟩
       have aI:=hid c;have aJ:=hid (t.out.trans (a.mono t.out.size))
       clear a c))
   go_ret;refine⟨_,aL,rfl,?_,I7,I7,aJ.out,aI.out⟩
   exact OS
theorem truth_step(m:Nat)(au:∀m',m'+1=m->zAb m'/\TruC m'):TruC m:=by
 intro bd b a1 ax v vs a2 D w af ah ba B z;have bg:=pD_ge m;have bo:=szD_ge m;have aw:=hid ah;have a0:=hid (OffB.refl b w.heap.size w);have bl:w.heap.size<=w.heap.size:=Nat.le_refl _;have av:=hid au;have N:=hid af;clear ah au af;go_enter Tryz.func40,Tryz.ntmps40
 go_upto_region 2 with(go_at_call 76;(with_reducible refine(ke (q:=10) aw.out I7 I8 I8).mono ?_);rintro e C ⟨r1,V,Y,rfl,a,c⟩
                       obtain⟨I,aA⟩:∃x,x=ax+1:=⟨_,rfl⟩
                       rw[<-aA]at c;have n:=hid c;have g:=hid a
                       clear a c)
 by_cases aI:m=0
 case pos=>
  subst aI;have az:D=0:=by have:=N.out;simpa using this
  subst az;have aq:0<=r1 % 3:=Int.emod_nonneg _ I7;have ar:r1 % 3<3:=Int.emod_lt_of_pos _ I7;go_upto_region 4 with(fail);generalize r1 % 3=r at *;have aQ:=aq;have aR:=ar;clear V Y aq ar;rcases(show r=0\/(1<=r/\r<3)from by omega)with rfl|⟨an,am⟩
  .go_wp2_with (go_at_call 76;(with_reducible refine(ke (q:=2) (n.out.alloc _) I7 I8 I8).mono ?_);rintro e d ⟨J,W,Z,rfl,a,c⟩
                obtain⟨u,ad,l⟩:=jp C [⟨#[116,114,117,101]⟩,⟨#[102,97,108,115,101]⟩] 5 I8 9 W (show J<2 from Z);have aB:d.cell? ⟨C.heap.size,J.toNat,none⟩=some (.string u):=(a.cell Ic (by have:=n.out.lt;omega)).trans (l C);have aU:C.heap.size<d.heap.size:=by have:=a.size;rw[zA]at this;omega
                obtain⟨p,S⟩:∃x,x=I+1:=⟨_,rfl⟩
                rw[<-S]at c;have f:=hid c;have i:=hid ((g.out.alloc n.out.lt g.out.size _).trans (a.mono (by have:=g.out.size;rw[zA];omega)))
                clear a c l)
   exact I3
  .have ai:(r == 0)=false:=by simp;omega
   exact OZ
 case neg=>
  obtain⟨m',rfl⟩:∃m',m=m'+1:=⟨m-1,I7⟩
  have y:=hid (av.out m' rfl);have a5:(1 :Int)<=D:=by have:=N.out;omega
  have ag:D-1=(m':Int):=by have:=N.out;omega
  have t:=hid ag;have a7:D<=1000001:=Ub
  have bm:IntKind.i64.wrap (D-1)=D-1:=IntWalk.i64_in _ I7;clear ag;have a9:szD (m'+1)=2*szD m'+8:=rfl;have a8:pD (m'+1)=2*pD m'+2:=rfl;have A:szD m'<=1000000:=I7
  have bh:=pD_ge m';have bp:=szD_ge m';have a6:¬D<1:=I7
  obtain⟨r,aP⟩:∃r,r=r1:=⟨_,rfl⟩
  subst aP;have aQ:=V;have aR:=Y;go_upto_region 4 with(fail);clear V Y;rcases(show r=0\/(1<=r/\r<3)\/r=3\/(4<=r/\r<7)\/r=7\/r=8\/r=9 from by omega)with rfl|⟨an,am⟩|rfl|⟨an,am⟩|rfl|rfl|rfl
  .go_wp2_with (go_at_call 76;(with_reducible refine(ke (q:=2) (n.out.alloc _) I7 I8 I8).mono ?_);rintro e d ⟨J,W,Z,rfl,a,c⟩
                obtain⟨u,ad,l⟩:=jp C [⟨#[116,114,117,101]⟩,⟨#[102,97,108,115,101]⟩] 5 I8 9 W (show J<2 from Z);have aB:d.cell? ⟨C.heap.size,J.toNat,none⟩=some (.string u):=(a.cell Ic (by have:=n.out.lt;omega)).trans (l C);have aU:C.heap.size<d.heap.size:=by have:=a.size;rw[zA]at this;omega
                obtain⟨p,S⟩:∃x,x=I+1:=⟨_,rfl⟩
                rw[<-S]at c;have f:=hid c;have i:=hid ((g.out.alloc n.out.lt g.out.size _).trans (a.mono (by have:=g.out.size;rw[zA];omega)))
                clear a c l)
   exact I3
  .have ai:(r == 0)=false:=by simp;omega
   exact OZ
  .go_wp2_with (fail)
   go_ret;refine⟨_,I,rfl,?_,I7,I7,g.out,n.out⟩
   exact OS
  .have ai:(r == 0)=false:=by simp;omega
   have ao:¬r<3:=I7
   have aj:(r == 3)=false:=I9
   have ap:r<7:=I7
   have ak:(r == 7)=false:=I9
   have al:(r == 8)=false:=I9
   go_upto_region 12 with(go_at_call 39;(with_reducible refine(zAb.call (D:=D-1) y.out.1 A t.out n.out I7 B z).mono ?_);rintro e d ⟨j,p,rfl,ab,U,ae,a,c⟩
                          have f:=hid c;have i:=hid (g.out.trans (a.mono g.out.size))
                          clear a c)
   have be:¬9223372036854775807<1+j.size:=I7
   have bf:¬9223372036854775807<1+j.size+1:=I7
   go_region_law (first
    | (go_simp;go_at_call 76;(with_reducible refine(ke (q:=6) f.out.drew I7 I8 I8).mono ?_);rintro e w8 ⟨s,X,aa,rfl,a,c⟩
       obtain⟨u,ad,l⟩:=jp d [⟨#[60]⟩,⟨#[60,61]⟩,⟨#[62]⟩,⟨#[62,61]⟩,⟨#[61,61]⟩,⟨#[33,61]⟩] 2 I8 9 X (show s<6 from aa);have aD:=l w8;have aF:∀E:s.toNat<6,([.string ⟨#[60]⟩,.string ⟨#[60,61]⟩,.string ⟨#[62]⟩,.string ⟨#[62,61]⟩,.string ⟨#[61,61]⟩,.string ⟨#[33,61]⟩]:List Value)[s.toNat]'E=.string u:=fun E=>str_get (l w8) E
       obtain⟨ay,T⟩:∃x,x=p+1:=⟨_,rfl⟩
       rw[<-T]at c;have H:=hid c;have G:=hid l;have aJ:¬9223372036854775807<1+j.size:=I7
       have aK:¬9223372036854775807<1+j.size+1:=I7
       have aL:¬9223372036854775807<1+j.size+1+u.size:=I7
       have aM:¬9223372036854775807<1+j.size+1+u.size+1:=I7
       have aX:d.heap.size<=w8.heap.size:=by have:=a.size;first|exact this|exact Nat.le_trans (Nat.le_trans (Nat.le_succ _) (Nat.le_of_eq (zA _ _).symm)) this
       have F:=hid (show OffB b w.heap.size w w8 from(i.out.trans (OffB.of_below Zb.drew f.out.lt)).trans (a.mono i.out.size))
       clear a c l)
    | (go_simp;go_at_call 76;(with_reducible refine(ke (q:=6) (f.out.alloc _).drew I7 I8 I8).mono ?_);rintro e w8 ⟨s,X,aa,rfl,a,c⟩
       obtain⟨u,ad,l⟩:=jp d [⟨#[60]⟩,⟨#[60,61]⟩,⟨#[62]⟩,⟨#[62,61]⟩,⟨#[61,61]⟩,⟨#[33,61]⟩] 2 I8 9 X (show s<6 from aa);have aD:=l w8;have aF:∀E:s.toNat<6,([.string ⟨#[60]⟩,.string ⟨#[60,61]⟩,.string ⟨#[62]⟩,.string ⟨#[62,61]⟩,.string ⟨#[61,61]⟩,.string ⟨#[33,61]⟩]:List Value)[s.toNat]'E=.string u:=fun E=>str_get (l w8) E
       obtain⟨ay,T⟩:∃x,x=p+1:=⟨_,rfl⟩
       rw[<-T]at c;have H:=hid c;have G:=hid l;have aJ:¬9223372036854775807<1+j.size:=I7
       have aK:¬9223372036854775807<1+j.size+1:=I7
       have aL:¬9223372036854775807<1+j.size+1+u.size:=I7
       have aM:¬9223372036854775807<1+j.size+1+u.size+1:=I7
       have aX:d.heap.size<=w8.heap.size:=by have:=a.size;first|exact this|exact Nat.le_trans (Nat.le_trans (Nat.le_succ _) (Nat.le_of_eq (zA _ _).symm)) this
       have F:=hid (show OffB b w.heap.size w w8 from((i.out.alloc f.out.lt i.out.size (.cells #[.string ⟨#[60]⟩,.string ⟨#[60,61]⟩,.string ⟨#[62]⟩,.string ⟨#[62,61]⟩,.string ⟨#[61,61]⟩,.string ⟨#[33,61]⟩] 9)).trans (OffB.of_below Zb.drew (by have:=f.out.lt;rw[zA];omega))).trans (a.mono (by have:=i.out.size;show _<=(World.alloc _ _).heap.size;rw[zA];omega)));have aC:w8.cell? ⟨d.heap.size,s.toNat,none⟩=some (.string u):=(a.cell Qs (by have:=f.out.lt;omega)).trans (G.out d);have bi:d.heap.size<w8.heap.size:=by have:=a.size;have a4:(d.alloc (.cells #[.string ⟨#[60]⟩,.string ⟨#[60,61]⟩,.string ⟨#[62]⟩,.string ⟨#[62,61]⟩,.string ⟨#[61,61]⟩,.string ⟨#[33,61]⟩] 9)).heap.size=d.heap.size+1:=zA _ _;have a3:(d.alloc (.cells #[.string ⟨#[60]⟩,.string ⟨#[60,61]⟩,.string ⟨#[62]⟩,.string ⟨#[62,61]⟩,.string ⟨#[61,61]⟩,.string ⟨#[33,61]⟩] 9)).heap.size<=w8.heap.size:=this;omega
       clear a c l)
    | (go_simp;go_at_call 39;(with_reducible refine(zAb.call (D:=D-1) y.out.1 A t.out H.out I7 B z).mono ?_);rintro e w9 ⟨K,R,rfl,aT,aH,aW,a,c⟩
       have aE:=G.out w9;have aN:¬9223372036854775807<1+j.size+1+u.size+1+K.size:=I7
       have aO:¬9223372036854775807<1+j.size+1+u.size+1+K.size+1:=I7
       have L:=hid c;have M:=hid (show OffB b w.heap.size w w9 from F.out.trans (a.mono F.out.size));have bn:w8.heap.size<=w9.heap.size:=a.size
       first
       | (have bb:=(a.cell (k:=d.heap.size) (o:=s.toNat) I7 (by have:=f.out.lt;omega)).trans aC
          have bj:d.heap.size<w9.heap.size:=I7)
       | skip
       clear a c)
    | (go_simp;go_at_call 39;(with_reducible refine(zAb.call (D:=D-1) y.out.1 A t.out (H.out.alloc _) I7 B z).mono ?_);rintro e w9 ⟨K,R,rfl,aT,aH,aW,a,c⟩
       have aE:=G.out w9;have aN:¬9223372036854775807<1+j.size+1+u.size+1+K.size:=I7
       have aO:¬9223372036854775807<1+j.size+1+u.size+1+K.size+1:=I7
       have L:=hid c;have M:=hid (show OffB b w.heap.size w w9 from(F.out.alloc H.out.lt F.out.size (.cells #[.string ⟨#[60]⟩,.string ⟨#[60,61]⟩,.string ⟨#[62]⟩,.string ⟨#[62,61]⟩,.string ⟨#[61,61]⟩,.string ⟨#[33,61]⟩] 9)).trans (a.mono (by have:=F.out.size;rw[zA];omega)));have bc:w9.cell? ⟨w8.heap.size,s.toNat,none⟩=some (.string u):=(a.cell Ic (by have:=H.out.lt;omega)).trans (G.out w8);have bk:w8.heap.size<w9.heap.size:=by have:=a.size;rw[zA]at this;omega
       clear a c))
   all_goals
    go_wp2_with (fail);go_ret
    first
    | (refine⟨_,R,rfl,?_,I7,I7,M.out,L.out⟩
       simp only[ByteArray.size_append,zM,List.length_cons,List.length_nil]
       omega)
    | (refine⟨_,R,rfl,?_,I7,I7,M.out.alloc L.out.lt M.out.size _,L.out.alloc _⟩
       simp only[ByteArray.size_append,zM,List.length_cons,List.length_nil]
       omega)
  .go_wp2_with (first
    | (go_at_call 40;(with_reducible refine(TruC.call (D:=D-1) y.out.2 A t.out n.out I7 B z).mono ?_);rintro e d ⟨j,p,rfl,ab,U,ae,a,c⟩
       have f:=hid c;have i:=hid (g.out.trans (a.mono g.out.size))
       clear a c)
    | (go_at_call 40;(with_reducible refine(TruC.call (D:=D-1) y.out.2 A t.out f.out I7 B z).mono ?_);rintro e aZ ⟨aY,Q,rfl,aS,aG,aV,a,c⟩
       have O:=hid c;have P:=hid (i.out.trans (a.mono i.out.size))
       clear a c))
   exact I4
  .go_wp2_with (first
    | (go_at_call 40;(with_reducible refine(TruC.call (D:=D-1) y.out.2 A t.out n.out I7 B z).mono ?_);rintro e d ⟨j,p,rfl,ab,U,ae,a,c⟩
       have f:=hid c;have i:=hid (g.out.trans (a.mono g.out.size))
       clear a c)
    | (go_at_call 40;(with_reducible refine(TruC.call (D:=D-1) y.out.2 A t.out f.out I7 B z).mono ?_);rintro e aZ ⟨aY,Q,rfl,aS,aG,aV,a,c⟩
       have O:=hid c;have P:=hid (i.out.trans (a.mono i.out.size))
       clear a c))
   exact I4
  .go_wp2_with (go_at_call 39;(with_reducible refine(zAb.call (D:=D-1) y.out.1 A t.out n.out I7 B z).mono ?_);rintro e d ⟨j,p,rfl,ab,U,ae,a,c⟩
                have f:=hid c;have i:=hid (g.out.trans (a.mono g.out.size))
                clear a c)
   exact I3
theorem nt_all:∀m,zAb m/\TruC m:=fun m=>by
 induction m with
 | zero=>exact⟨num_step 0 fun m' a=>absurd a I7,truth_step 0 fun m' a=>absurd a I7⟩
 | succ m b=>exact⟨num_step (m+1) fun m' a=>(show m=m' by omega) ▸ b,truth_step (m+1) fun m' a=>(show m=m' by omega) ▸ b⟩
def tS:Nat->Nat
 | 0=>300
 | d+1=>300+8*tS d
def tP:Nat->Nat
 | 0=>100
 | d+1=>100+2*(4*tP d+1)
theorem tS_ge(d:Nat):300<=tS d:=by cases d with|zero=>exact Nat.le_refl _|succ d=>rw[tS];omega
theorem tP_ge(d:Nat):100<=tP d:=by cases d with|zero=>exact Nat.le_refl _|succ d=>rw[tP];omega
theorem tS_le(d:Nat)(a:d<=3):tS d<=200000:=by
 exact UA
theorem tP_le(d:Nat)(a:d<=3):tP d<=200000:=by
 exact UA
def StmC(m:Nat):Prop:=m<=3->∀(b c a:Nat) (v:Value) (vs d:ByteArray) (D:Int) (lp:Bool) (w:World),D=(m:Int)->MkIn b c v a w->a+tP m<=1000000000->vs.size=1->d.size=1->
 Calls Tryz.prog 77 #[.pointer (some ⟨b,0,none⟩),.string vs,.string d,.int .i64 D,.bool lp] w (xK (tS m) (tP m) b c v a w)
def BlkC(m:Nat):Prop:=m<=3->∀(b c a:Nat) (v:Value) (vs d:ByteArray) (D:Int) (lp:Bool) (w:World),D=(m:Int)->MkIn b c v a w->a+4*tP m+1<=1000000000->vs.size=1->d.size=1->
 Calls Tryz.prog 38 #[.pointer (some ⟨b,0,none⟩),.string vs,.string d,.int .i64 D,.bool lp] w (xK (4*tS m) (4*tP m+1) b c v a w)
theorem StmC.call{m:Nat}(e:StmC m)(f:m<=3){b c a:Nat}{v:Value}{vs d:ByteArray}{D:Int}{lp:Bool}{w:World}(g:D=(m:Int))(i:MkIn b c v a w)(j:a+tP m<=1000000000)(k:vs.size=1)(l:d.size=1):
 Calls Tryz.prog 77 #[.pointer (some ⟨b,0,none⟩),.string vs,.string d,.int .i64 D,.bool lp] w (xK (tS m) (tP m) b c v a w):=e f b c a v vs d D lp w g i j k l
theorem BlkC.call{m:Nat}(e:BlkC m)(f:m<=3){b c a:Nat}{v:Value}{vs d:ByteArray}{D:Int}{lp:Bool}{w:World}(g:D=(m:Int))(i:MkIn b c v a w)(j:a+4*tP m+1<=1000000000)(k:vs.size=1)(l:d.size=1):
 Calls Tryz.prog 38 #[.pointer (some ⟨b,0,none⟩),.string vs,.string d,.int .i64 D,.bool lp] w (xK (4*tS m) (4*tP m+1) b c v a w):=e f b c a v vs d D lp w g i j k l
theorem yk{m:Nat}(e:m<=2){b c a:Nat}{v:Value}{vs d:ByteArray}{D:Int}{w:World}(g:D=(m:Int))(i:MkIn b c v a w)(o:a+18<=1000000000)(p:vs.size=1)(q:d.size=1):
 Calls Tryz.prog 39 #[.pointer (some ⟨b,0,none⟩),.string vs,.string d,.int .i64 D] w (xK 72 18 b c v a w):=by
 have t:szD m<=72:=by match m,e with|0,_=>decide|1,_=>decide|2,_=>decide
 have r:pD m<=18:=by match m,e with|0,_=>decide|1,_=>decide|2,_=>decide
 exact((nt_all m).1.call I7 g i I7 I7 I7).mono fun _ _ ⟨s,f,j,x,l,u,n,k⟩=>⟨s,f,j,I7,l,I7,n,k⟩
theorem tru_at{m:Nat}(e:m<=2){b c a:Nat}{v:Value}{vs d:ByteArray}{D:Int}{w:World}(g:D=(m:Int))(i:MkIn b c v a w)(o:a+18<=1000000000)(p:vs.size=1)(q:d.size=1):
 Calls Tryz.prog 40 #[.pointer (some ⟨b,0,none⟩),.string vs,.string d,.int .i64 D] w (xK 72 18 b c v a w):=by
 have t:szD m<=72:=by match m,e with|0,_=>decide|1,_=>decide|2,_=>decide
 have r:pD m<=18:=by match m,e with|0,_=>decide|1,_=>decide|2,_=>decide
 exact((nt_all m).2.call I7 g i I7 I7 I7).mono fun _ _ ⟨s,f,j,x,l,u,n,k⟩=>⟨s,f,j,I7,l,I7,n,k⟩
theorem block_step(m:Nat)(r:StmC m):BlkC m:=by
 intro l b C k v vs L D lp w o d M J G;have ab:=tS_le m l;have aa:=tP_le m l;have x:=hid d;have u:=hid r;have t:=hid o;clear d r o;go_enter Tryz.func38,Tryz.ntmps38
 go_wp2_with (go_at_call 76;(with_reducible refine(ke (q:=5) x.out I7 I8 I8).mono ?_);rintro e af ⟨c,I,W,rfl,g,f⟩
              have y:=hid f;have A:=hid g
              clear g f)
 go_loopw [11,12] (fun K iv wr=>∃(i:Int) (s:ByteArray) (a:Nat),K=.string s/\iv=.int .i64 i/\0<=i/\i<=c/\(s.size:Int)<=(c-i)*tS m/\k<=a/\(a:Int)<=k+1+(c-i)*tP m/\OffB b w.heap.size w wr/\MkIn b C v a wr) (fun _ iv _=>(intOf iv).toNat)
 case atStart=>exact⟨c,_,k+1,rfl,rfl,I,Int.le_refl _,(by simp;rfl),I7,Ia,A.out,y.out⟩
 case round=>
  obtain⟨i,s,a,rfl,rfl,P,Q,X,F,N,p,d⟩:=hrel;have j:=hid p;have n:=hid d;clear p d;have O:(c-i)*tS m<=4*tS m:=Int.mul_le_mul_of_nonneg_right I7 I7;have V:(c-i)*tP m<=4*tP m:=Int.mul_le_mul_of_nonneg_right I7 I7;by_cases S:0<i
  .have Y:(c-(i-1))*tS m=(c-i)*tS m+tS m:=by rw[show c-(i-1)=(c-i)+1 by omega,Int.add_mul,Int.one_mul]
   have T:(c-(i-1))*tP m=(c-i)*tP m+tP m:=by rw[show c-(i-1)=(c-i)+1 by omega,Int.add_mul,Int.one_mul]
   have U:(c-(i-1))*tP m<=4*tP m:=Int.mul_le_mul_of_nonneg_right I7 I7
   go_wp2_with (go_at_call 77;(with_reducible refine(StmC.call u.out l t.out n.out I7 J G).mono ?_);rintro e ag ⟨ae,E,rfl,Z,R,ad,g,f⟩
                have z:=hid f;have B:=hid (j.out.trans (g.mono j.out.size))
                clear g f)
   go_roundw
   case rel=>
    refine⟨i-1,_,E,rfl,rfl,I7,I7,?_,I7,I7,B.out,z.out⟩;rw[ByteArray.size_append];omega
   case measure=>simp[intOf];omega
  .have H:i=0:=by omega
   subst H;go_wp2_with (fail);go_ret;exact⟨_,a,rfl,I7,F,I7,j.out,n.out⟩
theorem stmt_step(m:Nat)(aC:∀m',m'+1=m->BlkC m'):StmC m:=by
 intro aB b aX aH v vs an D lp w az aA a2 l k;have ba:=tS_le m aB;have a7:=tP_le m aB;have bc:=tS_ge m;have a9:=tP_ge m;have aE:=hid aA;have aW:=hid (OffB.refl b w.heap.size w);have aD:=hid aC;have am:=hid az;clear aA aC az;go_enter Tryz.func77,Tryz.ntmps77
 go_upto_region 2 with(go_at_call 76;(with_reducible refine(ke (q:=13) aE.out I7 I8 I8).mono ?_);rintro e p ⟨d,a4,a5,rfl,a,c⟩
                       obtain⟨G,aM⟩:∃x,x=aH+1:=⟨_,rfl⟩
                       rw[<-aM]at c;have g:=hid c;have f:=hid a
                       clear a c)
 by_cases aO:m=0
 case pos=>
  subst aO;have aL:D=0:=by have:=am.out;simpa using this
  subst aL;rcases(show(0<=d/\d<3)\/d=3\/d=4\/d=5\/d=6\/d=7\/(8<=d/\d<10)\/(10<=d/\d<12)\/d=12 from by omega)with⟨ae,ab⟩|rfl|rfl|rfl|rfl|rfl|⟨ae,ab⟩|⟨ae,ab⟩|rfl
  .have ah:d<3:=by omega
   exact OW
  .go_wp2_with (go_at_call 40;(with_reducible refine(tru_at (m:=2) (D:=2) I8 I8 g.out I7 l k).mono ?_);rintro e F ⟨E,n,rfl,B,z,C,a,c⟩
                have j:=hid c;have i:=hid (f.out.trans (a.mono f.out.size))
                clear a c)
   exact I1
  .go_wp2_with (go_at_call 39;(with_reducible refine(yk (m:=2) (D:=2) I8 I8 g.out I7 l k).mono ?_);rintro e F ⟨E,n,rfl,B,z,C,a,c⟩
                have j:=hid c;have i:=hid (f.out.trans (a.mono f.out.size))
                clear a c)
   exact I1
  .go_wp2_with (first
    | (go_at_call 39;(with_reducible refine(yk (m:=1) (D:=1) I8 I8 g.out I7 l k).mono ?_);rintro e F ⟨E,n,rfl,B,z,C,a,c⟩
       have j:=hid c;have i:=hid (f.out.trans (a.mono f.out.size))
       clear a c)
    | (go_at_call 39;(with_reducible refine(yk (m:=2) (D:=2) I8 I8 j.out I7 l k).mono ?_);rintro e O ⟨al,H,rfl,ai,ad,aj,a,c⟩
       have y:=hid c;have o:=hid (i.out.trans (a.mono i.out.size))
       clear a c))
   exact I5
  .cases lp
   .go_wp2_with (fail)
    exact I6
   exact OU
  .go_wp2_with (fail)
   exact I6
  .have ah:¬d<3:=by omega
   have W:(d == 3)=false:=I9
   have X:(d == 4)=false:=I9
   have Y:(d == 5)=false:=I9
   have Z:(d == 6)=false:=I9
   have aa:(d == 7)=false:=I9
   have af:d<10:=I7
   exact I2
  .have ah:¬d<3:=by omega
   have W:(d == 3)=false:=I9
   have X:(d == 4)=false:=I9
   have Y:(d == 5)=false:=I9
   have Z:(d == 6)=false:=I9
   have aa:(d == 7)=false:=I9
   have af:¬d<10:=I7
   exact I2
  exact OT
 case neg=>
  obtain⟨m',rfl⟩:∃m',m=m'+1:=⟨m-1,I7⟩
  have T:=hid (aD.out m' rfl);have U:m'<=3:=I7
  have aY:(0 :Int)<D:=by have:=am.out;omega
  have S:=hid (show D-1=(m':Int)by have:=am.out;omega);have aZ:D<=4:=by have:=am.out;omega
  have a1:tS (m'+1)=300+8*tS m':=rfl;have a0:tP (m'+1)=100+2*(4*tP m'+1):=rfl;have bb:=tS_le m' I7;have a8:=tP_le m' I7;rcases(show(0<=d/\d<3)\/d=3\/d=4\/d=5\/d=6\/d=7\/(8<=d/\d<10)\/(10<=d/\d<12)\/d=12 from by omega)with⟨ae,ab⟩|rfl|rfl|rfl|rfl|rfl|⟨ae,ab⟩|⟨ae,ab⟩|rfl
  .have ah:d<3:=by omega
   exact OW
  .go_wp2_with (go_at_call 40;(with_reducible refine(tru_at (m:=2) (D:=2) I8 I8 g.out I7 l k).mono ?_);rintro e F ⟨E,n,rfl,B,z,C,a,c⟩
                have j:=hid c;have i:=hid (f.out.trans (a.mono f.out.size))
                clear a c)
   exact I1
  .go_wp2_with (go_at_call 39;(with_reducible refine(yk (m:=2) (D:=2) I8 I8 g.out I7 l k).mono ?_);rintro e F ⟨E,n,rfl,B,z,C,a,c⟩
                have j:=hid c;have i:=hid (f.out.trans (a.mono f.out.size))
                clear a c)
   exact I1
  .go_wp2_with (first
    | (go_at_call 39;(with_reducible refine(yk (m:=1) (D:=1) I8 I8 g.out I7 l k).mono ?_);rintro e F ⟨E,n,rfl,B,z,C,a,c⟩
       have j:=hid c;have i:=hid (f.out.trans (a.mono f.out.size))
       clear a c)
    | (go_at_call 39;(with_reducible refine(yk (m:=2) (D:=2) I8 I8 j.out I7 l k).mono ?_);rintro e O ⟨al,H,rfl,ai,ad,aj,a,c⟩
       have y:=hid c;have o:=hid (i.out.trans (a.mono i.out.size))
       clear a c))
   exact I5
  .cases lp
   .go_upto_if 135 with(first
     | (go_at_call 40;(with_reducible refine(tru_at (m:=2) (D:=2) I8 I8 g.out I7 l k).mono ?_);rintro e F ⟨E,n,rfl,B,z,C,a,c⟩
        have j:=hid c;have i:=hid (f.out.trans (a.mono f.out.size))
        clear a c)
     | (go_at_call 38;(with_reducible refine(BlkC.call (D:=D-1) T.out U S.out j.out I7 l k).mono ?_);rintro e O ⟨al,H,rfl,ai,ad,aj,a,c⟩
        have y:=hid c;have o:=hid (i.out.trans (a.mono i.out.size))
        clear a c)
     | (go_at_call 76;(with_reducible refine(ke (q:=2) y.out I7 I8 I8).mono ?_);rintro e aU ⟨R,aP,aQ,rfl,a,c⟩
        have P:=hid c;have Q:=hid (o.out.trans (a.mono o.out.size));obtain⟨av,ax⟩:∃x,x=H+1:=⟨_,rfl⟩
        rw[<-ax]at P
        clear a c))
    exact OX
   exact OU
  .go_wp2_with (first
    | (go_at_call 39;(with_reducible refine(yk (m:=1) (D:=1) I8 I8 g.out I7 l k).mono ?_);rintro e F ⟨E,n,rfl,B,z,C,a,c⟩
       have j:=hid c;have i:=hid (f.out.trans (a.mono f.out.size))
       clear a c)
    | (go_at_call 40;(with_reducible refine(tru_at (m:=1) (D:=1) I8 I8 j.out I7 I8 k).mono ?_);rintro e O ⟨al,H,rfl,ai,ad,aj,a,c⟩
       have y:=hid c;have o:=hid (i.out.trans (a.mono i.out.size))
       clear a c)
    | (go_at_call 38;(with_reducible refine(BlkC.call (D:=D-1) T.out U S.out y.out I7 I8 I8).mono ?_);rintro e bf ⟨be,aI,rfl,a6,a3,bd,a,c⟩
       have aF:=hid c;have aG:=hid (o.out.trans (a.mono o.out.size))
       clear a c))
   go_ret;refine⟨_,aI,rfl,?_,I7,I7,aG.out,aF.out⟩
   exact OS
  .have ah:¬d<3:=by omega
   have W:(d == 3)=false:=I9
   have X:(d == 4)=false:=I9
   have Y:(d == 5)=false:=I9
   have Z:(d == 6)=false:=I9
   have aa:(d == 7)=false:=I9
   have af:d<10:=I7
   have ag:d<12:=I7
   have V:(d == 12)=false:=I9
   go_upto_if 135 with(first
    | (go_at_call 40;(with_reducible refine(tru_at (m:=2) (D:=2) I8 I8 g.out I7 l k).mono ?_);rintro e F ⟨E,n,rfl,B,z,C,a,c⟩
       have j:=hid c;have i:=hid (f.out.trans (a.mono f.out.size))
       clear a c)
    | (go_at_call 38;(with_reducible refine(BlkC.call (D:=D-1) T.out U S.out j.out I7 l k).mono ?_);rintro e O ⟨al,H,rfl,ai,ad,aj,a,c⟩
       have y:=hid c;have o:=hid (i.out.trans (a.mono i.out.size))
       clear a c)
    | (go_at_call 76;(with_reducible refine(ke (q:=2) y.out I7 I8 I8).mono ?_);rintro e aU ⟨R,aP,aQ,rfl,a,c⟩
       have P:=hid c;have Q:=hid (o.out.trans (a.mono o.out.size));obtain⟨av,ax⟩:∃x,x=H+1:=⟨_,rfl⟩
       rw[<-ax]at P
       clear a c))
   exact OX
  .have ah:¬d<3:=by omega
   have W:(d == 3)=false:=I9
   have X:(d == 4)=false:=I9
   have Y:(d == 5)=false:=I9
   have Z:(d == 6)=false:=I9
   have aa:(d == 7)=false:=I9
   have af:¬d<10:=I7
   have ag:d<12:=I7
   have V:(d == 12)=false:=I9
   go_wp2_with (first
    | (go_at_call 40;(with_reducible refine(tru_at (m:=1) (D:=1) I8 I8 g.out I7 l k).mono ?_);rintro e F ⟨E,n,rfl,B,z,C,a,c⟩
       have j:=hid c;have i:=hid (f.out.trans (a.mono f.out.size))
       clear a c)
    | (go_at_call 38;(with_reducible refine(BlkC.call (D:=D-1) T.out U S.out j.out I7 l k).mono ?_);rintro e O ⟨al,H,rfl,ai,ad,aj,a,c⟩
       have y:=hid c;have o:=hid (i.out.trans (a.mono i.out.size))
       clear a c)
    | (go_at_call 76;(with_reducible refine(ke (q:=3) (y.out.alloc _) I7 I8 I8).mono ?_);rintro e w9 ⟨t,M,N,rfl,a,c⟩
       obtain⟨u,aq,r⟩:=jp O [⟨#[52]⟩,⟨#[57]⟩,⟨#[51,48]⟩] 2 I8 9 M (show t<3 from N);have ao:w9.cell? ⟨O.heap.size,t.toNat,none⟩=some (.string u):=(a.cell Ic (by have:=y.out.lt;omega)).trans (r O);have ap:O.heap.size<w9.heap.size:=by have:=a.size;rw[zA]at this;omega
       obtain⟨K,L⟩:∃x,x=H+1:=⟨_,rfl⟩
       rw[<-L]at c;have I:=hid c;have J:=hid ((o.out.alloc y.out.lt o.out.size _).trans (a.mono (by have:=o.out.size;rw[zA];omega)))
       clear a c r))
   go_ret;refine⟨_,K,rfl,?_,I7,I7,J.out,I.out⟩
   exact OS
  exact OT
theorem bs_all:∀m,BlkC m/\StmC m:=fun m=>by
 induction m with
 | zero=>
   have a:=stmt_step 0 fun m' a=>absurd a I7
   exact⟨block_step 0 a,a⟩
 | succ m b=>
   have a:=stmt_step (m+1) fun m' a=>(show m=m' by omega) ▸ b.1
   exact⟨block_step (m+1) a,a⟩
end Go.Proofs.YthcmenajdcbnnaaGreatDoor
