import Derived.Test.YthcmenajdcbnnaaGreatDoorAlEvNm
set_option linter.unusedSimpArgs false
set_option linter.unusedVariables false
set_option maxRecDepth 100000
set_option maxHeartbeats 99000000
namespace Go.Proofs.YthcmenajdcbnnaaGreatDoor
open Go.RowKit Tryz
theorem In{p:Prop}(h:p:=by
 go_wp2_with fail
 go_region_law (first
  |(go_simp;go_at_call 96;(refine(xv (w:=w.drew) z.o J K L F).mono ?_);rintro e ab ⟨rfl,rfl⟩))
 all_goals
  go_wp2
  exact⟨rfl,rfl,⟨τ,_,_,_,_,_,_,u.o.1.drew⟩,u.o.2.drew⟩):p:=h
theorem Io{p:Prop}(h:p:=by
 rintro e w' ⟨rfl,rfl⟩
 exact⟨yd (EN op a b O).symm (EO op b O).symm,rfl⟩):p:=h
variable{a ft n:Int}{b l e:Bool}{d k g K:Nat}{G:Gm}{τ:Nat->Lb}{w:C4}{m:Vm}{q v:List Int}{p:Pr}{vs ws:fG}{t s:RS}
theorem tI{k:IntKind}{b:Int}(h:a=b):Ending.returned (.int k a)=.returned (.int k b):=by rw[h]
theorem pT(b:Bool)(w:C4):Cz 143 #[.bool b] w (Cx (MD b:Int) w):=by
 cases b
 all_goals
  go_enter func143,ntmps143;go_wp2;go_ret;exact⟨rfl,rfl⟩
theorem tJ(b:Bool)(w:C4):Cz 42 #[.bool b] w (Cx (MD b:Int) w):=by
 cases b
 all_goals
  go_enter func42,ntmps42;go_wp2;go_ret;exact⟨rfl,rfl⟩
theorem SO(op a:Int)(b:(Lit.int .i64 a).wf=true)(w:C4):Cz 113 #[(op:Int),(a:Int)] w (Cx (rV op a:Int) w):=by
 have c:=U (V7 a b);clear b;go_enter func113,ntmps113;go_wp2_with (go_at_call 143;refine(pT _ _).mono ?_;rintro e w' ⟨rfl,rfl⟩)
 all_goals go_ret
 all_goals refine⟨tI ?_,rfl⟩
 all_goals go_light
 all_goals have d:=c.o
 all_goals clear c
 all_goals simp_all [rV,MD,zbh,ZK,zbi,ZL]
theorem yd{b:Int}{c d:Bool}(e:a=b)(f:c=d):Ending.returned (.tuple #[(a:Int),.bool c])=.returned (.tuple #[(b:Int),.bool d]):=by rw[e,f]
theorem N2{a:Bool}(h:a=b):Ending.returned (.bool a)=.returned (.bool b):=by rw[h]
theorem N3(op a:Int)(b:(Lit.int .i64 a).wf=true)(w:C4):Cz 147 #[(op:Int),(a:Int)] w (Cx (rV op a:Int) w):=by
 have c:=U (zbj a b);clear b;go_enter func147,ntmps147;go_wp2_with (go_at_call 42;refine(tJ _ _).mono ?_;rintro e w' ⟨rfl,rfl⟩)
 all_goals go_ret
 all_goals refine⟨tI ?_,rfl⟩
 all_goals go_light
 all_goals have d:=c.o
 all_goals clear c
 all_goals simp_all [rV,MD,H6,CC,l4,zcu,zbk,zbl]
theorem I6(op a b:Int)(c:12<=op)(d:op<=17)(w:C4):Cz 159 #[(op:Int),(a:Int),(b:Int)] w (Cx (cmp op a b) w):=by
 obtain rfl|rfl|rfl|rfl|rfl|rfl:op=12\/op=13\/op=14\/op=15\/op=16\/op=17:=O
 all_goals clear c d
 all_goals
  go_enter func159,ntmps159;go_wp2;go_ret;exact⟨N2 (by simp[cmp]),rfl⟩
theorem I7(op a b:Int)(w:C4):Cz 158 #[(op:Int),(a:Int),(b:Int)] w (Cx (sft op a b:Int) w):=by
 have e:=H7 b;have c:0<=b % 64:=O
 have d:b % 64<=63:=O
 go_enter func158,ntmps158;go_wp2
 all_goals go_ret
 all_goals refine⟨tI ?_,rfl⟩
 all_goals go_light
 all_goals simp_all [sft,cnt,IntKind.wrap_u64]
theorem F7(op a b:Int)(w:C4):Cz 157 #[(op:Int),(a:Int),(b:Int)] w (Cx (.tuple #[(Z7 op a b:Int),.bool (!decide (b=0))]) w):=by
 by_cases c:b=0
 .subst c
  go_enter func157,ntmps157;go_wp2
  go_ret2
  exact⟨yd (by simp[Z7]) Uh,rfl⟩
 .go_enter func157,ntmps157
  go_wp2
  all_goals go_ret2
  all_goals refine⟨yd ?_ ?_,rfl⟩
  all_goals go_light
  all_goals simp_all [Z7]
theorem XT(op a b:Int)(h:1<=op/\op<=17)(w:C4):Cz 144 #[(op:Int),(a:Int),(b:Int)] w (Cx (.tuple #[(uH op a b:Int),.bool (ur op b)]) w):=by
 obtain rfl|rfl|rfl|rfl|rfl|rfl|rfl|rfl|rfl|rfl|rfl|rfl|rfl|rfl|rfl|rfl|rfl:op=1\/op=2\/op=3\/op=4\/op=5\/op=6\/op=7\/op=8\/op=9\/op=10\/op=11\/op=12\/op=13\/op=14\/op=15\/op=16\/op=17:=O
 all_goals clear h
 all_goals
  go_enter func144,ntmps144;go_wp2_with (first|(go_at_call 157;refine(F7 _ _ _ _).mono ?_;rintro e w' ⟨rfl,rfl⟩)|(go_at_call 158;refine(I7 _ _ _ _).mono ?_;rintro e w' ⟨rfl,rfl⟩)|(go_at_call 159;refine(I6 _ _ _ Uf Uf _).mono ?_;rintro e w' ⟨rfl,rfl⟩)|(go_at_call 143;refine(pT _ _).mono ?_;rintro e w' ⟨rfl,rfl⟩))
  all_goals go_ret2
  all_goals exact⟨yd (by simp[uH]) (by simp[ur]),rfl⟩
theorem SP(op a b:Int)(c:op<1\/17<op)(w:C4):Cz 144 #[(op:Int),(a:Int),(b:Int)] w (Cx (.tuple #[(0:Int),.bool false]) w):=by
 have n1:(op == 1)=false:=Ug
 have n2:(op == 2)=false:=Ug
 have m:(op == 3)=false:=Ug
 have n:(op == 4)=false:=Ug
 have o:(op == 5)=false:=Ug
 have p:(op == 6)=false:=Ug
 have q:(op == 7)=false:=Ug
 have r:(op == 8)=false:=Ug
 have s:(op == 9)=false:=Ug
 have d:(op == 10)=false:=Ug
 have e:(op == 11)=false:=Ug
 have f:(op == 12)=false:=Ug
 have g:(op == 13)=false:=Ug
 have i:(op == 14)=false:=Ug
 have j:(op == 15)=false:=Ug
 have k:(op == 16)=false:=Ug
 have l:(op == 17)=false:=Ug
 clear c;go_enter func144,ntmps144;go_wp2
 go_ret2
 exact⟨rfl,rfl⟩
theorem F8(op a b:Int)(w:C4):Cz 144 #[(op:Int),(a:Int),(b:Int)] w (Cx (.tuple #[(uH op a b:Int),.bool (ur op b)]) w):=by
 by_cases h:1<=op/\op<=17
 .exact XT op a b h w
 .refine(SP op a b O w).mono ?_
  exact Io
theorem N4(op a b:Int)(d:op=4\/op=5)(w:C4):Cz 22 #[(op:Int),(a:Int),(b:Int)] w (Cx (.tuple #[(uH op a b:Int),.bool (ur op b)]) w):=by
 by_cases c:b=0
 .subst c
  obtain rfl|rfl:=d
  all_goals
   go_enter func22,ntmps22;go_wp2
   go_ret2
   exact⟨yd (by simp[uH,Z7]) (by simp[ur]),rfl⟩
 .obtain rfl|rfl:=d
  all_goals
   go_enter func22,ntmps22;go_wp2
   go_ret2
   go_light
   exact⟨yd (by simp[uH,Z7,c]) (by simp[ur,c]),rfl⟩
theorem SQ(op a b:Int)(d:1<=op/\op<=17)(w:C4):Cz 22 #[(op:Int),(a:Int),(b:Int)] w (Cx (.tuple #[(uH op a b:Int),.bool (ur op b)]) w):=by
 have i:=MB b;have f:0<=b % 64:=O
 have g:b % 64<=63:=O
 by_cases c:op=4\/op=5
 .exact N4 op a b c w
 obtain rfl|rfl|rfl|rfl|rfl|rfl|rfl|rfl|rfl|rfl|rfl|rfl|rfl|rfl|rfl:op=1\/op=2\/op=3\/op=6\/op=7\/op=8\/op=9\/op=10\/op=11\/op=12\/op=13\/op=14\/op=15\/op=16\/op=17:=O
 all_goals clear d c
 all_goals
  go_enter func22,ntmps22;go_wp2_with (go_at_call 42;refine(tJ _ _).mono ?_;rintro e w' ⟨rfl,rfl⟩)
  go_ret2
  exact⟨yd (by simp[uH,cmp,sft,cnt,IntKind.wrap_u64]) (by simp[ur]),rfl⟩
theorem N5(op a b:Int)(c:op<1\/17<op)(w:C4):Cz 22 #[(op:Int),(a:Int),(b:Int)] w (Cx (.tuple #[(0:Int),.bool false]) w):=by
 have n1:(op == 1)=false:=Ug
 have n2:(op == 2)=false:=Ug
 have m:(op == 3)=false:=Ug
 have n:(op == 4)=false:=Ug
 have o:(op == 5)=false:=Ug
 have p:(op == 6)=false:=Ug
 have q:(op == 7)=false:=Ug
 have r:(op == 8)=false:=Ug
 have s:(op == 9)=false:=Ug
 have d:(op == 10)=false:=Ug
 have e:(op == 11)=false:=Ug
 have f:(op == 12)=false:=Ug
 have g:(op == 13)=false:=Ug
 have i:(op == 14)=false:=Ug
 have j:(op == 15)=false:=Ug
 have k:(op == 16)=false:=Ug
 have l:(op == 17)=false:=Ug
 clear c;go_enter func22,ntmps22;go_wp2
 go_ret2
 exact⟨rfl,rfl⟩
theorem BE(op a b:Int)(w:C4):Cz 22 #[(op:Int),(a:Int),(b:Int)] w (Cx (.tuple #[(uH op a b:Int),.bool (ur op b)]) w):=by
 by_cases h:1<=op/\op<=17
 .exact SQ op a b h w
 .refine(N5 op a b O w).mono ?_
  exact Io
end Go.Proofs.YthcmenajdcbnnaaGreatDoor
namespace Go.Proofs.YthcmenajdcbnnaaGreatDoor
open Go.RowKit Tryz Go.Maps
variable{a ft n:Int}{b l e:Bool}{d k g K:Nat}{G:Gm}{τ:Nat->Lb}{w:C4}{m:Vm}{q v:List Int}{p:Pr}{vs ws:fG}{t s:RS}
theorem XU(g:MW G τ w m){b:Int}(k:m.v=q++[a]++[b])(_:q.length<=1000000000)(z:fT a)(op:Int)(l:ur op b=false):
 Cz 114 #[(G.b,0),(op:Int)] w (yc G w none (kR m.s 2)):=by
 have r:=U g;have x:=U k;have A:(q++[a]).length<=2000000000:=Ug
 have F:=U (DC op b z);have y:=U l;clear g k l;go_enter func114,ntmps114
 go_wp2_with (first
  | (go_at_call 96;(with_reducible refine(kf r.o x.o A).mono ?_);rintro e _ ⟨rfl,⟨τ1,i⟩,d⟩
     have t:=U i;have n:=U d
     clear i d)
  | (go_at_call 96;(with_reducible refine(kf t.o rfl O).mono ?_);rintro e _ ⟨rfl,⟨τ2,j⟩,f⟩
     have u:=U j;have p:=U f
     clear j f)
  | (go_at_call 144;(with_reducible refine(F8 op a b _).mono ?_);rintro e _ ⟨rfl,rfl⟩
     rw[y.o]))
 obtain⟨C,E,B,D,c⟩:=u.o;exact⟨rfl,rfl,⟨τ2,_,_,C,E,B,D,⟨c.hB,c.old,c.tab,c.pok,c.box,c.lab,c.inp,c.val,c.o,c.frs,c.db,c.arr,c.nv,c.ni,c.no,c.lim,c.kp⟩⟩,n.o.trans p.o⟩
theorem SR(g:MW G τ w m){b:Int}(l:m.v=q++[a]++[b])(_:q.length<=1000000000)(D:fT a)(op:Int)(n:ur op b=true):
 Cz 114 #[(G.b,0),(op:Int)] w (g6 G w ⟨m.s,q++[uH op a b],m.cs⟩ (.tuple #[])):=by
 have u:=U g;have B:=U l;have E:(q++[a]).length<=2000000000:=Ug
 have A:=U (DC op b D);have C:=U n;clear g l n;go_enter func114,ntmps114
 go_wp2_with (first
  | (go_at_call 96;(with_reducible refine(kf u.o B.o E).mono ?_);rintro e _ ⟨rfl,⟨τ1,i⟩,c⟩
     have x:=U i;have p:=U c
     clear i c)
  | (go_at_call 96;(with_reducible refine(kf x.o rfl O).mono ?_);rintro e _ ⟨rfl,⟨τ2,j⟩,d⟩
     have y:=U j;have r:=U d
     clear j d)
  | (go_at_call 144;(with_reducible refine(F8 op a b _).mono ?_);rintro e _ ⟨rfl,rfl⟩
     rw[C.o])
  | (go_at_call 97;(with_reducible refine(yP y.o (uH op a b) A.o Xx).mono ?_);rintro e _ ⟨rfl,k,f⟩
     have z:=U k;have t:=U f
     clear k f))
 go_end0
 exact⟨rfl,z.o,(p.o.trans r.o).trans t.o⟩
theorem SS(i:MW G τ w m)(g:m.s.inp=[]):
 Cz 116 #[(G.b,0)] w (yc G w none (kR m.s 4)):=by
 obtain⟨k,n,j,l,a⟩:=i;obtain⟨⟨_,_,e,_,_,_,_,_,_,_⟩,_⟩:=zD a.box;have q:=a.lt;obtain⟨_,c,d,_⟩:=a.inp.1.form;rw[g]at d;rw[d]at e;have f:=C2 (gD G τ w ⟨kR m.s 4,m.v,m.cs⟩ k n j l) ⟨a.hB,a.old,a.tab,a.pok,a.box,a.lab,a.inp,a.val,a.o,a.frs,a.db,a.arr,a.nv,a.ni,a.no,a.lim,a.kp⟩;have p:((([]:List Int).length:Nat):Int)=0:=rfl;rw[D5]at e;clear a d;go_enter func116,ntmps116;go_wp2;exact⟨rfl,rfl,⟨τ,_,_,_,_,_,_,f.o⟩,D4 _ _⟩
theorem N6(H:MW G τ w m){x:Int}{d:List Int}(l:m.s.inp=x::d)(R:m.v.length<=2000000000):
 Cz 116 #[(G.b,0)] w (g6 G w ⟨{ m.s with inp:=d },m.v++[x],m.cs⟩ (.tuple #[])):=by
 have E:=U H;obtain⟨_,_,_,_,a⟩:=H;obtain⟨⟨_,_,L,_,_,_,_,_,_,_⟩,_⟩:=zD a.box;have ae:=a.lt;have aa:=a.hB;have I:fT x:=a.ni x (by rw[l];exact Y4 ..);obtain⟨_,c,r,y⟩:=a.inp.1.form;rw[l,D1]at r y;have u:=a.inp;rw[r,l]at u;obtain⟨g,o,P,_,W⟩:=u.1.cells (i:=0) (t:=x) rfl;subst P;have ab:g<w.heap.size:=O
 rw[Nat.add_zero]at W;rw[r]at L;have ag:(((d.length+1 :Nat):Int) == 0)=false:=Ug
 have ah:0<d.length+1:=Ce _;have J:=U I;have C:=U l;clear a r u I l;go_enter func116,ntmps116
 go_wp2_with (first
  | (go_at_call 97;(with_reducible refine(yP E.o x J.o R).mono ?_);rintro e q ⟨rfl,⟨τ1,X,Z,V,Y,k⟩,F⟩
     obtain⟨⟨_,_,M,_,_,_,_,_,_,_⟩,_⟩:=zD k.box;have p:g5 G.B q X (x::d):=C.o▸k.inp;obtain⟨_,N,rfl,_⟩:=p.1.form;have Q:(x::d).length<=N:=p.2 _ _ _ rfl;obtain⟨_,_,rfl,_,_⟩:=p.1.cells (i:=0) (t:=x) rfl;have S:(x::d).length=d.length+1:=rfl;rw[S]at M Q;have af:=k.lt;have ad:0<d.length+1:=Ce _;have D:=U p;have f:=U k;have z:=U F
     clear k F p))
 all_goals go_end0
 all_goals
  have K:∀j,g5 G.B q j d->gD G τ1 (q.setCell (G.b,2) j) ⟨{ m.s with inp:=d },m.v++[x],m.cs⟩ j Z V Y/\Below G.B q (q.setCell (G.b,2) j):=fun j T=>
   f.o.wu (m':=⟨{ m.s with inp:=d },m.v++[x],m.cs⟩) 2 j (D3 f.o.box _) T f.o.val f.o.o f.o.frs rfl f.o.nv (fun n y=>E.o.elim fun _ a=>a.elim fun _ a=>a.elim fun _ a=>a.elim fun _ a=>a.ni n (C.o▸Y7 _ y)) f.o.no f.o.lim
  first
   |exact⟨rfl,⟨τ1,_,_,_,_,(K _ (tC D.o)).1⟩,z.o.trans (K _ (tC D.o)).2⟩
   |exact⟨rfl,⟨τ1,_,_,_,_,(K _ (tD O _)).1⟩,z.o.trans (K _ (tD O _)).2⟩
theorem gD.drew{b d a c:C5}(e:gD G τ w m b d a c):gD G τ w.drew m b d a c:=e.we Zb.drew
theorem tG.drew{a:List (List Int)}{b:List Nat}(c:tG G τ w a b):tG G τ w.drew a b:=c.keep (X:=XN) (fF.drew _ w) (gP.refl τ w) ⟨id,fun _=>id⟩
theorem uB(w:C4):(zeroValue 23).run Tryz.prog w=.ok (.slice none 0 0) w:=by kernel_rfl
theorem tG.at{b:List (List Int)}{a:List Nat}(e:tG G τ w b a){td:C3}{l:List Int}(n:zZ G.p.wa td=some k)(d:b[k]?=some l):
 ∃g,a[k]?=some g/\I5 G.p a b td=.slice (some ⟨g,0,none⟩) l.length l.length/\g<w.heap.size/\τ g=.arr k/\w.heap[g]?=some (oN l)/\fR l/\l.length<=1000:=by
 have o:=(List.getElem?_eq_some_iff.1 d).1;obtain⟨g,c⟩:∃g,a[k]?=some g:=⟨_,Dz (by rw[e.rl];exact o)⟩
 obtain⟨i,f,j,m⟩:=e.row k g l c d;refine⟨g,c,?_,zB f,i,f,j,m⟩;unfold I5;rw[n];show AY (a.getD k 0,b.getD k [])=_;rw[Yl,Yl,c,d];rfl
def ST(G:Gm)(w:C4)(m:Vm)(q:List Int)(k i:Nat)(l:List Int)(e:Ending)(w':C4):Prop:=
 ∃g τ vi vv pa vo rows,e=.returned (.pointer (some ⟨g,i,none⟩))/\gD G τ w' ⟨m.s,q,m.cs⟩ vi vv pa vo/\tG G τ w' m.s.arr rows/\rows[k]?=some g/\w'.heap[g]?=some (oN l)/\Below G.B w w'
theorem BF(S:MW G τ w m){i:Int}(T:m.v=q++[i])(R:q.length<=2000000000){td:C3}{l:List Int}(C:zZ G.p.wa td=some k)(D:m.s.arr[k]?=some l)(x:td.size<=maxLen)(B:0<=i/\i<(l.length:Int)):
 Cz 115 #[(G.b,0),td] w (ST G w m q k i.toNat l):=by
 obtain⟨_,_,_,_,a⟩:=S;obtain⟨Z,j⟩:=a.arr;obtain⟨f,A,r,_,E,I,_,_⟩:=j.at C D;obtain⟨n,u⟩:=j.map;obtain⟨g,c,rfl,V,W,Y,_,K,L⟩:=a.wn T;have y:fF (fun k=>XB (τ k)) w (w.setCell (G.b,3) (.slice (some ⟨g,0,none⟩) q.length c)):=fF.set (X:=fun k=>XB (τ k)) w a.lab 3 _;have z:=j.keep (X:=XB) y (gP.refl τ w) ⟨Ui,fun _=>Ui⟩
 have H:G.am≠G.b:=fun e=>by
  have:=j.lab;rw[e,a.lab]at this;cases this
 have N:=u.look (t:=71) underlying71 (uB w) x;rw[r]at N;have P:=(u.wd (w':=w.setCell ⟨G.b,3,none⟩ (.slice (some ⟨g,0,none⟩) q.length c)) (Dw w ⟨G.b,3,none⟩ _ G.am H)).look (t:=71) underlying71 (uB _) x;rw[r]at P;have Q:=(u.wd (w':=w.drew) rfl).look (t:=71) underlying71 (uB _) x;rw[r]at Q;have F:=(u.wd (w':=(w.setCell ⟨G.b,3,none⟩ (.slice (some ⟨g,0,none⟩) q.length c)).drew) (Dw w ⟨G.b,3,none⟩ _ G.am H)).look (t:=71) underlying71 (uB _) x;rw[r]at F;have ad:(Instr.lookup 71 (.map (some G.am)) (.string td) false).run Tryz.prog (w.drew.setCell (G.b,3) (.slice (some ⟨g,0,none⟩) q.length c))=.ok (.slice (some ⟨f,0,none⟩) l.length l.length) (w.drew.setCell (G.b,3) (.slice (some ⟨g,0,none⟩) q.length c)):=F;have J:(w.setCell (G.b,3) (.slice (some ⟨g,0,none⟩) q.length c)).heap[f]?=some (oN l):=(Dw w ⟨G.b,3,none⟩ _ f (fun e=>by have e:f=G.b:=e;rw[e,a.lab]at E;cases E)).trans I;have d:=U (Dt K (Dt L (Dt z (Dt A J))));obtain⟨⟨_,_,_,_,_,_,_,_,_,_⟩,_⟩:=zD a.box;have ae:=a.lt;have af:¬i<0:=O
 have ag:¬(l.length:Int)<=i:=O
 have aa:0<=i:=B.1;have ab:i<(l.length:Int):=B.2;have M:=U a.box;clear a j r u I K L z A J y C D;go_enter func115,ntmps115;go_wp2_with fail
 go_region_law (first
  |(go_simp;go_at_call 96;(refine(xv (w:=w.drew) M.o V W Y R).mono ?_);rintro e _ ⟨rfl,rfl⟩))
 all_goals
  go_wp2_with fail;go_ret;exact⟨f,τ,_,_,_,_,Z,rfl,d.o.1.drew,d.o.2.2.1.drew,d.o.2.2.2.1,d.o.2.2.2.2,d.o.2.1.drew⟩
theorem F9(T:MW G τ w m){i:Int}(W:m.v=q++[i])(F:q.length<=2000000000){td:C3}{l:List Int}(B:zZ G.p.wa td=some k)(C:m.s.arr[k]?=some l)(y:td.size<=maxLen)(_:¬(0<=i/\i<(l.length:Int))):
 Cz 115 #[(G.b,0),td] w (yc G w none (kR m.s 3)):=by
 obtain⟨Z,_,Y,aa,d⟩:=T;obtain⟨_,f⟩:=d.arr;obtain⟨x,P,j,_,D,I,_,_⟩:=f.at B C;obtain⟨n,r⟩:=f.map;obtain⟨g,c,rfl,J,K,L,_,a,M⟩:=d.wn W;have A:fF (fun k=>XB (τ k)) w (w.setCell (G.b,3) (.slice (some ⟨g,0,none⟩) q.length c)):=fF.set (X:=fun k=>XB (τ k)) w d.lab 3 _;have N:=f.keep (X:=XB) A (gP.refl τ w) ⟨Ui,fun _=>Ui⟩
 have H:G.am≠G.b:=fun e=>by
  have:=f.lab;rw[e,d.lab]at this;cases this
 have Q:=r.look (t:=71) underlying71 (uB w) y;rw[j]at Q;have R:=(r.wd (w':=w.setCell ⟨G.b,3,none⟩ (.slice (some ⟨g,0,none⟩) q.length c)) (Dw w ⟨G.b,3,none⟩ _ G.am H)).look (t:=71) underlying71 (uB _) y;rw[j]at R;have S:=(r.wd (w':=w.drew) rfl).look (t:=71) underlying71 (uB _) y;rw[j]at S;have E:=(r.wd (w':=(w.setCell ⟨G.b,3,none⟩ (.slice (some ⟨g,0,none⟩) q.length c)).drew) (Dw w ⟨G.b,3,none⟩ _ G.am H)).look (t:=71) underlying71 (uB _) y;rw[j]at E;have ad:(Instr.lookup 71 (.map (some G.am)) (.string td) false).run Tryz.prog (w.drew.setCell (G.b,3) (.slice (some ⟨g,0,none⟩) q.length c))=.ok (.slice (some ⟨x,0,none⟩) l.length l.length) (w.drew.setCell (G.b,3) (.slice (some ⟨g,0,none⟩) q.length c)):=E;have V:(w.setCell (G.b,3) (.slice (some ⟨g,0,none⟩) q.length c)).heap[x]?=some (oN l):=(Dw w ⟨G.b,3,none⟩ _ x (fun e=>by have e:x=G.b:=e;rw[e,d.lab]at D;cases D)).trans I;have u:=U (Dt (show gD G τ (w.setCell (G.b,3) (.slice (some ⟨g,0,none⟩) q.length c)) ⟨kR m.s 3,q,m.cs⟩ Z (.slice (some ⟨g,0,none⟩) q.length c) Y aa from⟨a.hB,a.old,a.tab,a.pok,a.box,a.lab,a.inp,a.val,a.o,a.frs,a.db,a.arr,a.nv,a.ni,a.no,a.lim,a.kp⟩) M);obtain⟨⟨_,_,_,_,_,_,_,_,_,_⟩,_⟩:=zD d.box;have ae:=d.lt;have z:=U d.box;clear d f j r I a M N P V A B C;by_cases af:i<0
 .go_enter func115,ntmps115
  exact In
 .have ag:(l.length:Int)<=i:=by omega
  go_enter func115,ntmps115;exact In
theorem zS{W:C4}{b c d e f:C5}{T:TypeId}(a:W.heap[g]?=some (.cells #[b,c,d,e,f] T (0,0))):(W.cell? (g,0)=some b/\W.cell? (g,1)=some c/\W.cell? (g,2)=some d/\W.cell? (g,3)=some e/\W.cell? (g,4)=some f)/\∀o,W.frozen? ⟨g,o,none⟩=false:=
 ⟨⟨(Du a 0).trans rfl,(Du a 1).trans rfl,(Du a 2).trans rfl,(Du a 3).trans rfl,(Du a 4).trans rfl⟩,fun o=>Kn⟩
theorem I8(k:MW G τ w m){c:Fr}(i:m.cs=[c])(n:Int):
 Cz 117 #[(G.b,0),(n:Int)] w (yc G w (some n) m.s):=by
 obtain⟨_,_,_,_,d⟩:=k;have j:=d.frs;rw[i]at j;obtain⟨a,l,_,mp,_,tm,_,rfl,f,e⟩:=j;have e:l=.pointer none:=e;subst e;obtain⟨⟨_,_,_,_,_,_,_,_,_,_⟩,_⟩:=zD d.box;obtain⟨⟨_,_,_,_,_⟩,_⟩:=zS f.box;have q:=d.lt;have p:=zB f.box;have g:=U (d.wu (m':=⟨m.s,m.v,[]⟩) 4 (.pointer none) (D3 d.box _) d.inp d.val d.o rfl rfl d.nv d.ni d.no d.lim);clear d f i;go_enter func117,ntmps117;go_wp2;exact⟨rfl,rfl,⟨τ,_,_,_,_,_,_,g.o.1⟩,g.o.2⟩
theorem N7(B:MW G τ w m){c d:Fr}{r:List Fr}(l:m.cs=c::d::r)(n:Int)(t:fT n)(A:m.v.length<=2000000000):
 Cz 117 #[(G.b,0),(n:Int)] w (g6 G w ⟨m.s,m.v++[n],d::r⟩ (.tuple #[])):=by
 obtain⟨_,_,_,_,f⟩:=B;have p:=f.frs;rw[l]at p;obtain⟨a,_,_,mp,_,tm,_,rfl,i,g⟩:=p;obtain⟨z,_,_,_,q4,_,_,rfl,C,D⟩:=id g;obtain⟨⟨_,_,_,_,_,_,_,_,_,_⟩,_⟩:=zD f.box;obtain⟨⟨_,_,_,_,_⟩,_⟩:=zS i.box;have F:=f.lt;have E:=zB i.box;have j:=U (f.wu (m':=⟨m.s,m.v,d::r⟩) 4 (.pointer (some ⟨z,0,none⟩)) (D3 f.box _) f.inp f.val f.o g rfl f.nv f.ni f.no f.lim);have y:=U t;clear f i l g C D t;go_enter func117,ntmps117
 go_wp2_with (first
  | (go_at_call 97;(refine(yP (m:=⟨m.s,m.v,d::r⟩) ⟨_,_,_,_,j.o.1⟩ n y.o A).mono ?_);rintro e _ ⟨rfl,q,k⟩
     have x:=U q;have u:=U k
     clear q k))
 go_end0
 exact⟨rfl,x.o,j.o.2.trans u.o⟩
theorem BG{mp:Nat}{f:C3->C5}(a:fZ w mp k (.pointer none) f)(b:k<=2000000000)(td:C3)(l:td.size<=maxLen)(n:Int):
 Cz 92 #[.map (some mp),td,(n:Int)] w fun e w'=>e=.returned (.tuple #[])/\fZ w' mp (k+1) (.pointer none) (NY f td (.pointer (some ⟨w.heap.size,0,none⟩)))/\w'.heap[w.heap.size]?=some (.cells #[(n:Int)] 3)/\fF (fun k=>k=mp) w w'/\w.heap.size<w'.heap.size:=by
 have i:=U (a.wd (w':=w.alloc (.cells #[(n:Int)] 3)) (D7 w _ mp a.lt));have p:=a.lt;clear a;go_enter func92,ntmps92
 go_wp2_with (at_mapUpdate;refine g4 rfl _ _ _ 163 rfl 177 underlying163 rfl i.o Vl td rfl l _ rfl ?_
              intro _ d g;have j:=U d;have c:=U g
              clear d g)
 go_end0
 have q:=zA w (.cells #[(n:Int)] 3);refine⟨rfl,j.o,?_,?_,by have:=c.o.size;omega⟩
 .exact(c.o.block _ O (by intro e;injection e with e;omega)).trans (Ds w _)
 .exact(fF.alloc (fun k=>k=mp) w _).trans (fF.grown (X:=fun k=>k=mp) c.o fun k b=>by injection b with b;exact b.symm) fun _ _ m=>m
end Go.Proofs.YthcmenajdcbnnaaGreatDoor
namespace Go.Proofs.YthcmenajdcbnnaaGreatDoor
open Go.RowKit Tryz
variable{a ft n:Int}{b l e:Bool}{d k g K:Nat}{G:Gm}{τ:Nat->Lb}{w:C4}{m:Vm}{q v:List Int}{p:Pr}{vs ws:fG}{t s:RS}
theorem tK{k a:Int}{td:C3}{tc:List Ex}{tg th:List St}{v:List Pa}{frm n:Nat}{ti:Bool}(b:(yt p ft (.mk k a td tc tg th) v frm ti n).1=0):
 jH p ft k a td tc v frm ti=0/\(∃n1,(zX p ft tg (jf k a td v) (jf k a td v).length (ti || decide (k=5)) n1).1=0)/\∃n2,(zX p ft th (jf k a td v) (jf k a td v).length ti n2).1=0:=by
 rw[yt]at b;by_cases c:jH p ft k a td tc v frm ti=0
 .rw[Dp Uy]at b
  by_cases d:(zX p ft tg (jf k a td v) (jf k a td v).length (ti || decide (k=5)) (n+1)).1=0
  .rw[Dp Uz]at b
   exact⟨c,⟨_,d⟩,_,b⟩
  .rw[Dq d]at b;exact absurd b d
 .rw[Dq c]at b;exact absurd b c
theorem tL{k b:Int}{td:C3}{tc:List Ex}{v:List Pa}{frm:Nat}{ti:Bool}(a:jH p ft k b td tc v frm ti=0)(_:k=6\/k=7):ti=true:=by
 unfold jH at a;rw[Dp O,Dp O,Dp O,Dp O,Dp O,Dp O,Dp O]at a;cases ti with
 |true=>rfl
 |false=>exact absurd a Uf
def j9(l b e:Bool):fS xy->Prop
 |.ok h _=>(h.1=0\/h.1=1\/h.1=2\/h.1=3)/\(l=false->h.1≠1/\h.1≠2)/\(b=false->h.1≠1)/\(e=true->h.1≠0)
 |.fin _=>True
theorem j9.bind{α:Type}{x:fS α}{f:α->RS->fS xy}(h:∀a t,x=.ok a t->j9 l b e (f a t)):j9 l b e (x.bind f):=by
 cases x with
 |fin t=>trivial
 |ok a t=>exact h a t rfl
theorem j9.ite{c:Prop}[Decidable c]{x d:fS xy}(f:c->j9 l b e x)(g:¬c->j9 l b e d):j9 l b e (if c then x else d):=by
 by_cases a:c
 .rw[Dq a];exact f a
 .rw[Dp a];exact g a
theorem j9.zero:j9 l b false (.ok (0,n,vs) t):=⟨.inl rfl,fun _=>⟨by show(0 :Int)≠1;decide,by show(0 :Int)≠2;decide⟩,fun _=>by show(0 :Int)≠1;decide,fun h=>Vy⟩
theorem j9.three:j9 l b e (.ok (3,n,vs) t):=⟨.inr (.inr (.inr rfl)),fun _=>⟨by show(3 :Int)≠1;decide,by show(3 :Int)≠2;decide⟩,fun _=>by show(3 :Int)≠1;decide,fun _=>by show(3 :Int)≠0;decide⟩
theorem j9.di{f g:Bool}{x:fS xy}(c:j9 l b e x)(i:f=false->b=false)(j:g=true->e=true):j9 l f g x:=by
 cases x with
 |fin t=>trivial
 |ok a t=>exact⟨c.1,c.2.1,fun d=>c.2.2.1 (i d),fun d=>c.2.2.2 (j d)⟩
theorem mZ{f:fG->St->RS->fS xy}{ti:Bool}(i:∀(st:St) (vs:fG) (s:RS) (v:List Pa) (frm n m:Nat),uP st m=true->(yt p ft st v frm ti n).1=0->j9 ti (wW st) (wX st) (f vs st s)):
 ∀(l:List St) (vs:fG) (s:RS) (v:List Pa) (frm n m:Nat),fL l m=true->(zX p ft l v frm ti n).1=0->j9 ti (jS l) (fV l) (kH f vs l s)
 |[],vs,s,v,frm,n,m,_,_=>j9.zero
 | st::r,vs,s,v,frm,n,m,hok,hc=>by
   rw[ks,D2]at hok;obtain⟨j,n1,k⟩:=vx hc;rw[kH,jS,fV];have b:=i st vs s v frm n m hok.1 j;refine j9.bind fun a t e=>?_
   rw[e]at b;refine j9.ite (fun d=>?_) fun d=>?_
   .refine(mZ i r a.2.2 t (ID st v) frm n1 m hok.2 k).di (fun g=>(Bool.or_eq_false_iff.1 g).2) fun o=>?_
    rcases Bool.or_eq_true_iff.1 o with c|c
    .exact absurd d (b.2.2.2 c)
    .exact c
   .exact⟨b.1,b.2.1,fun g=>b.2.2.1 (Bool.or_eq_false_iff.1 g).1,fun _=>d⟩
theorem tM{f:fG->St->RS->fS xy}{r:List St}(h:j9 l b e (kH f vs r s)):j9 l b e (qG f vs r s):=by
 unfold qG;refine j9.bind fun a t e=>?_
 rw[e]at h;exact h
theorem LB{j:fG->RS->fS Int}{B:fG->RS->fS xy}{f:Bool}(p:∀vs s,j9 true b (false) (B vs s))(i:e=true->b=false/\∀vs s a t,j vs s=.ok a t->a≠0):∀(k:Nat) (vs:fG) (s:RS),j9 l f e (k6 j B k vs s)
 |0,_,_=>trivial
 | k+1,vs,s=>by
   rw[k6];refine j9.bind fun a t q=>j9.ite (fun m=>?_) fun m=>j9.bind fun c u r=>j9.ite (fun g=>?_) fun g=>j9.ite (fun n=>?_) fun n=>LB p i k _ u
   .exact(j9.zero (l:=l) (b:=f)).di (fun d=>d) fun d=>absurd m ((i d).2 vs s a t q)
   .refine⟨.inr (.inr (.inr g)),fun _=>⟨?_,?_⟩,fun _=>?_,fun _=>?_⟩ <;> rw[g]<;>decide
   .refine(j9.zero (l:=l) (b:=f)).di (fun d=>d) fun d=>?_
    have o:=p vs t;rw[r]at o;exact absurd n (o.2.2.1 (i d).1)
theorem SU{tc:List Ex}(c:pD tc=true)(b:f0 p g vs (tc.getD 0 j8) s=.ok a t):a≠0:=by
 cases tc with
 |nil=>cases c
 |cons x r=>
   obtain⟨k,op,n,td,l⟩:=x;unfold pD at c;simp only[D2,decide_eq_true_eq]at c;obtain⟨rfl,rfl⟩:=c;rw[List.getD_cons_zero]at b;cases g with
   |zero=>rw[f0]at b;cases b
   |succ g=>
     by_cases d:0<s.fuel
     .rw[FY p g vs 2 op 1 td l d O]at b
      cases h2:i0 (f0 p g vs) l (zj s).st with
      |fin w=>rw[h2]at b;cases b
      |ok q w=>
        rw[h2]at b;have b:qR p (xK p g) vs 2 op 1 td q w=fS.ok a t:=b;rw[vT _ _ _ _ _ _ _ _ (.inr rfl)]at b;injection b with b _;rw[<-b];decide
     .rw[A7 p g vs _ O]at b;cases b
theorem DF(p:Pr)(ft:Int):∀(g:Nat) (st:St) (vs:fG) (s:RS) (v:List Pa) (frm:Nat) (ti:Bool) (n m:Nat),uP st m=true->(yt p ft st v frm ti n).1=0->j9 ti (wW st) (wX st) (qn p g vs st s)
 |0,st,_,_,_,_,_,_,_,_,_=>Kr
 | g+1,.mk k ty td tc tg th,vs,s,v,frm,ti,n,m,hok,hc=>by
   obtain⟨B,⟨n1,e⟩,n2,E⟩:=tK hc;rw[jp]at hok;simp only[D2,decide_eq_true_eq]at hok;have F:=CX hok.1.1.1.2
   have r:∀(ti:Bool) (l:List St) (vs:fG) (s:RS) (v:List Pa) (frm n:Nat),fL l (m-1)=true->(zX p ft l v frm ti n).1=0->j9 ti (jS l) (fV l) (qG (qn p g) vs l s):=
    fun ti l vs s v frm n f i=>tM (mZ (fun st vs s v frm n m f i=>DF p ft g st vs s v frm ti n m f i) l vs s v frm n (m-1) f i)
   rw[qn,wW,wX];refine j9.bind fun _ t _=>j9.ite (fun o=>?_) fun o=>j9.ite (fun z=>?_) fun z=>j9.ite (fun A=>?_) fun A=>j9.bind fun a C _=>?_
   .subst o
    rw[show(ti || decide ((5 :Int)=5))=true by simp]at e;refine LB (b:=jS tg) (fun vs s=>(r true tg vs s _ _ _ hok.1.2 e).di (fun c=>c) fun c=>Xl) (fun u=>?_) _ vs t;simp at u;exact⟨u.2,fun vs s a t D=>SU u.1 D⟩
   .subst z
    have y:=tL B (.inl rfl);subst y;exact⟨.inr (.inl rfl),fun c=>Xl,fun c=>Vv,fun c=>Vv⟩
   .subst A
    have y:=tL B (.inr rfl);subst y;exact⟨.inr (.inr (.inl rfl)),fun c=>Xl,fun c=>(by show(2 :Int)≠1;decide),fun c=>Vv⟩
   by_cases q:k=8
   .subst q
    rw[Dp Uf,Dp Uf,Dp Uf,Dp Uf,Dq rfl];exact j9.three
   by_cases j:k=4
   .subst j
    rw[Dp Uf,Dp Uf,Dp Uf,Dq rfl];rw[show(ti || decide ((4 :Int)=5))=ti by simp]at e;refine j9.ite (fun _=>(r ti tg vs C _ _ _ hok.1.2 e).di (fun c=>?_) fun c=>?_) fun _=>(r ti th vs C _ _ _ hok.2 E).di (fun c=>?_) fun c=>?_
    .simp at c;exact c.1
    .simp at c;exact c.1
    .simp at c;exact c.2
    .simp at c;exact c.2
   have d:∀{n:Int}{vs:fG}{t:RS},j9 ti (decide (k=6) || decide (k=4)&&(jS tg || jS th)) (decide (k=8) || decide (k=4)&&(fV tg&&fV th) || decide (k=5)&&(pD tc&&!jS tg)) (.ok (0,n,vs) t):=fun {n vs t}=>j9.zero.di (fun c=>c) fun c=>by simp[j,o,q]at c
   refine j9.ite (fun _=>d) fun _=>j9.ite (fun _=>d) fun _=>j9.ite (fun _=>j9.bind fun n w _=>j9.bind fun _ x _=>d) fun _=>j9.ite (fun c=>absurd c j) fun _=>j9.ite (fun c=>absurd c q) fun _=>j9.ite (fun _=>d) fun _=>d
theorem I9{f:Fu}(l:fL f.body 100=true)(j:(zX p f.type f.body f.params f.params.length false 0).1=0)(k:fV f.body=true){b:xy}(e:qG (qn p g) vs f.body s=.ok b t):b.1=3:=by
 have a:=tM (mZ (fun st vs s v frm n m a c=>DF p f.type g st vs s v frm false n m a c) f.body vs s f.params f.params.length 0 100 l j);rw[e]at a;obtain⟨c,d,_,i⟩:=a;have o:=d rfl;have q:=i k;omega
section
variable {p:Pr}{K:Nat}{s t:RS}{v:List Int}{vs:fG}{o:List Nat}
theorem Lm.mono(h:Lm K s v vs o)(_:t.fuel<=s.fuel)(_:t.cost+t.fuel<=s.cost+s.fuel):Lm K t v vs o:=⟨by have:=h.v;omega,by have:=h.c;omega,by have:=h.vs;omega,h.o⟩
theorem Lm.mv(h:Lm K s v vs o)(m:Mv s t):Lm K t v vs o:=h.mono m.fuel m.pay
theorem Lm.push(h:Lm K s v vs o)(m:Mv s t)(_:t.fuel+1<=s.fuel)(a:Int):Lm K t (v++[a]) vs o:=⟨by have:=h.v;rw[Dr,D8];omega,(h.mv m).c,(h.mv m).vs,h.o⟩
end
theorem GA{f:Ex->RS->fS Int}(i:∀e s,zw s 1 (f e s)):∀{l:List Ex}{s t:RS}{q:List Int},i0 f l s=.ok q t->t.fuel+l.length<=s.fuel
 |[],s,t,q,c=>by rw[i0]at c;injection c with _ c;subst c;exact D0 _
 | e::r,s,t,q,c=>by
   rw[i0]at c;have g:=i e s;cases hx:f e s with
   |fin d=>rw[hx]at c;cases c
   |ok a d=>
     rw[hx]at c g;have c:(i0 f r d).bind (fun l s=>fS.ok (a::l) s)=.ok q t:=c;cases hy:i0 f r d with
     |fin v=>rw[hy]at c;cases c
     |ok b v=>
       rw[hy]at c;injection c with _ c;have:=GA i hy;have:=g.2.1;rw[D1];subst c;omega
structure Lp where
 st:Nat
 br:Nat
 n:Nat
 o:List Nat
structure InL (lp:Lp) (vs:fG) (o:List Nat) (d:Nat):Prop where
 ex:∃q,o=lp.o++q/\q.length=d/\(∀x∈q,lp.n<=x)/\(q=[]->vs.length=lp.n)/\(∀x y,q=x::y->x=lp.n)
def kC(lp:Lp)(tn:List fP)(b:Nat)(o:List Nat)(v:List Int)(r:List Fr)(a:xy)(t:RS):VR:=
 if a.1=0 then .go ⟨t,v,⟨tn,b,a.2.2,o⟩::r⟩
 else if a.1=1 then .go ⟨t,v,⟨tn,lp.br,a.2.2.take lp.n,lp.o⟩::r⟩
 else if a.1=2 then .go ⟨t,v,⟨tn,lp.st,a.2.2.take lp.n,lp.o⟩::r⟩
 else XQ v r a.2.1 t
def N8(p:Pr)(K g:Nat):Prop:=∀(x:Ex) (tf:List Pa) (vs:fG) (s:RS) (m:Nat) (v:List Int) (tn:List fP) (b:Nat) (o:List Nat) (r:List Fr),
 s.fuel<=g->gQ p s->(qE p tf x).2=0->xx x m=true->xk vs=tf.map (·.name)->wS tn b (ya x b)->Lm K s v vs o->
 Sm p K ⟨s,v,⟨tn,b,vs,o⟩::r⟩ (f0 p g vs x s) (fun a t=>.go ⟨t,v++[a],⟨tn,b+zy x,vs,o⟩::r⟩)
def GB(p:Pr)(K g:Nat):Prop:=∀(st:St) (ft:Int) (tf:List Pa) (vs:fG) (frm:Nat) (ti:Bool) (n:Nat) (s:RS) (m:Nat) (v:List Int) (tn:List fP) (b:Nat) (o:List Nat) (r:List Fr) (d:Nat) (lp:Lp),
 s.fuel<=g->gQ p s->uP st m=true->(yt p ft st tf frm ti n).1=0->xk vs=tf.map (·.name)->wS tn b (xF st b d lp.st lp.br)->Lm K s v vs o->o.length+m<=100->lp.n<=vs.length->(ti=true->InL lp vs o d)->
 Sm p K ⟨s,v,⟨tn,b,vs,o⟩::r⟩ (qn p g vs st s) (kC lp tn (b+xc st d) o v r)
theorem ZT(f:gL p)(e:N8 p K g){tf:List Pa}(i:xk vs=tf.map (·.name)){tn:List fP}{o:List Nat}{r:List Fr}{m:Nat}:∀(l:List Ex) (s:RS) (v:List Int) (b:Nat),
 s.fuel<=g->gQ p s->(∀x∈l,(qE p tf x).2=0)->zx l m=true->wS tn b (qN l b)->Lm K s v vs o->
 Sm p K ⟨s,v,⟨tn,b,vs,o⟩::r⟩ (i0 (f0 p g vs) l s) (fun q t=>.go ⟨t,v++q,⟨tn,b+zH l,vs,o⟩::r⟩)
 | [],s,v,b,_,_,_,_,_,_=>by
   rw[i0];show To p K _ (.go ⟨s,v++[],⟨tn,b+0,vs,o⟩::r⟩);rw[Yd];exact To.refl
 | x::q,s,v,b,hg,hs,ht,hok,hsub,hL=>by
   rw[qN]at hsub;rw[qr,D2]at hok;have k:=ht x (Y4 ..);rw[i0];refine(e x tf vs s m v tn b o r hg hs k hok.1 i hsub.left hL).bind fun a t n u=>?_
   have c:=qw p g vs x s;have d:=(jW p f g).1 tf vs x s hg hs k;rw[n]at c d;refine Sm.go u ((ZT f e i q t (v++[a]) (b+zy x) (by have:=c.2.1;omega) d (fun z w=>ht z (Y7 _ w)) hok.2 (hsub.right (by rw[xu])) (hL.push c.1 c.2.1 a)).bind fun l y _ j=>?_);show To p K _ (.go ⟨y,v++(a::l),⟨tn,b+zH (x::q),vs,o⟩::r⟩);rw[Ya,Cu]at j;rw[zH,<-Co,<-Cu (l:=l),<-Ya]at *;exact j
theorem JA(p:Pr)(c a:Fu->List Int->RS->fS Int)(vs:fG){k:Int}(op n:Int)(td:C3)(l:List Int)(s:RS)(b:k≠7):qR p c vs k op n td l s=qR p a vs k op n td l s:=by
 unfold qR;simp only[Dp b]
theorem BH{op:Int}{td:C3}{a:Nat}(h:zl 5 op n td a=true):a=2:=by
 unfold zl at h;rw[Dp Uf,Dp Uf,Dp Uf,Dp Uf,Dq rfl]at h;simp only[D2,decide_eq_true_eq]at h;exact h.2
theorem SV(v l:List Int):(v++l).drop ((v++l).length-l.length)=l/\(v++l).take ((v++l).length-l.length)=v:=by
 rw[show(v++l).length-l.length=v.length by simp];exact⟨List.drop_left' rfl,List.take_left' rfl⟩
theorem jQ{α:Type}(v:List α)(a:α):(v++[a]).getLast? =some a:=Uh
theorem jB{α:Type}(v:List α)(a:α):(v++[a]).dropLast=v:=Uh
structure SW (p:Pr):Prop where
 r:gL p
 e:∀f∈p.funcs,fV f.body=true
theorem zAj(h:xk ws=xk vs):ws.length=vs.length:=by have:=congrArg List.length h;simpa[xk]using this
theorem InL.let{lp:Lp}{o:List Nat}(a:InL lp vs o d)(_:ws.length=vs.length\/d≠0):InL lp ws o d:=by
 obtain⟨⟨q,c,b,e,f,g⟩⟩:=a;refine⟨⟨q,c,b,e,fun a=>?_,g⟩⟩;have:=f a;subst a;have b:0=d:=b;omega
theorem DG(C:gL p)(D:GB p K g){ft:Int}{tn:List fP}{o:List Nat}{r:List Fr}{d:Nat}{lp:Lp}{v:List Int}{m:Nat}{ti:Bool}{frm:Nat}:∀(l:List St) (tf:List Pa) (vs:fG) (n:Nat) (s:RS) (b:Nat),
 s.fuel<=g->gQ p s->fL l m=true->(zX p ft l tf frm ti n).1=0->xk vs=tf.map (·.name)->wS tn b (qg l b d lp.st lp.br)->Lm K s v vs o->o.length+m<=100->lp.n<=vs.length->(ti=true->InL lp vs o d)->(ti=true->yb l=true->d≠0)->
 Sm p K ⟨s,v,⟨tn,b,vs,o⟩::r⟩ (kH (qn p g) vs l s) (kC lp tn (b+fJ l d) o v r)
 | [],tf,vs,n,s,b,_,_,_,_,_,_,_,_,_,_,_=>by
   rw[kH];show To p K _ (if(0 :Int)=0 then _ else _);rw[Dq rfl];exact To.refl
 | st::q,tf,vs,n,s,b,hg,hs,hok,hc,hn,hsub,hL,hom,G,hin,hlet=>by
   rw[qg]at hsub;rw[ks,D2]at hok;obtain⟨A,n1,L⟩:=vx hc;rw[kH];refine(D st ft tf vs frm ti n s m v tn b o r d lp hg hs hok.1 A hn hsub.left hL hom G hin).bind fun a t E i=>?_
   have j:=ku p g vs st s;have y:=(jW p C g).2 ft st tf vs frm ti n s m hg hs hok.1 A;rw[E]at j y;have R:=i;by_cases f:a.1=0
   .rw[Dq f]
    unfold kC at i;rw[Dq f]at i;obtain⟨k,x,td,tc,tg,th⟩:=st;have z:=iE p g vs k x td tc tg th s;rw[E]at z;obtain⟨e,B,w⟩:=z;have w:=w f;subst w;have N:a.2.2.length=vs.length+(ug k td).length:=by have:=congrArg List.length B;simpa[xk]using this
    have Q:=j.2.1;have G:(ug k td).length<=1:=by unfold ug;split<;>simp
    have M:Lm K t v a.2.2 o:=⟨(hL.mv j.1).v,(hL.mv j.1).c,by have:=hL.vs;omega,hL.o⟩
    refine Sm.go i ((DG C D q (ID (.mk k x td tc tg th) tf) a.2.2 n1 t (b+xc (.mk k x td tc tg th) d) O y hok.2 L ?_ (hsub.right (by rw[tE])) M hom O (fun u=>(hin u).let ?_) fun u H=>hlet u ?_).imp fun J P _=>?_)
    .rw[B,hn,ID,jf,ug]
     split<;>simp
    .by_cases F:k=1
     .exact .inr (hlet u (by unfold yb;rw[Cj];simp[NX,F]))
     .refine .inl ?_
      rw[N,ug,Dp F];rfl
    .unfold yb at H ⊢
     rw[Cj,H,Bool.or_true]
    .rw[fJ,Co]
   .rw[Dp f]
    refine(show Sm p K _ (fS.ok a t) (kC lp tn (b+xc st d) o v r)from i).imp fun J P e=>?_
    injection e with I _;subst I;unfold kC;rw[Dp f,Dp f]
theorem tN{p:Pr}{K:Nat}{s:RS}{v:List Int}{tn:List fP}{lo:List Nat}{n:Nat}{r:List Fr}:∀(d:Nat) (q:List Nat) (vs:fG) (b:Nat),wS tn b (List.replicate d .lve)->Lm K s v vs (lo++q)->q.length=d->(∀x∈q,n<=x)->(q=[]->vs.length<=n)->(∀x e,q=x::e->x=n)->
 To p K ⟨s,v,⟨tn,b,vs,lo++q⟩::r⟩ (.go ⟨s,v,⟨tn,b+d,vs.take n,lo⟩::r⟩)
 | 0,q,vs,b,_,_,hd,_,h0,_=>by
   have a:=Yq hd;subst a;rw[Yd,Ye (h0 rfl)];exact To.refl
 | d+1,q,vs,b,hsub,hL,hd,hx,h0,hh=>by
   rcases List.eq_nil_or_concat q with rfl|⟨f,x,rfl⟩
   .cases hd
   rw[List.concat_eq_append]at *;rw[List.replicate_succ]at hsub;have i:n<=x:=hx x Uh;refine To.go (To.one (p:=p) (K:=K) (x:=.go ⟨s,v,⟨tn,b+1,vs.take x,lo++f⟩::r⟩) ?_) ?_
   .rw[yn hL hsub.head]
    show(match (lo++(f++[x])).getLast? with|none=>VR.bad|some n=>_)=_;rw[<-Ya,jQ];dsimp only;rw[jB]
   .have g:=tN (p:=p) (r:=r) (lo:=lo) d f (vs.take x) (b+1) hsub.tail ⟨hL.v,hL.c,by have:=hL.vs;rw[Yg];omega,by have:=hL.o;simp at this ⊢;omega⟩ (by simpa using hd) (fun e j=>hx e (by simp[j])) (fun a=>?_) (fun e z a=>hh e (z++[x]) (by rw[a];rfl))
    .rw[List.take_take,Cc i,show b+1+d=b+(d+1)by omega]at g
     exact g
    .subst a
     have:=hh x [] rfl;rw[Yg];omega
theorem LC{p:Pr}{g:Nat}:∀(l:List St) (vs:fG) (s:RS),yb l=false->uM vs [] (kH (qn p g) vs l s)
 |[],vs,s,_=>by rw[kH];exact uM.same rfl
 | .mk k ty td tc tg th::r,vs,s,c=>by
   unfold yb at c;rw[Cj,Cd]at c;have u:k≠1:=by simpa[NX]using c.1
   rw[kH];have f:=iE p g vs k ty td tc tg th s;rw[ug,Dp u]at f;cases e:qn p g vs (.mk k ty td tc tg th) s with
   |fin i=>trivial
   |ok a i=>
     rw[e]at f;obtain⟨q,j,n⟩:=f;show uM vs [] (if a.1=0 then _ else _);by_cases d:a.1=0
     .rw[Dq d]
      have m:=LC (p:=p) (g:=g) r a.2.2 i c.2;cases e2:kH (qn p g) a.2.2 r i with
      |fin x=>trivial
      |ok b x=>
        rw[e2]at m;obtain⟨v,o,t⟩:=m;refine⟨v,?_,t⟩;rw[o,j,n d,Yd]
     .rw[Dp d]
      exact⟨q,j,fun c=>absurd c d⟩
theorem GC{lp:Lp}{tn:List fP}{x e n:Nat}{o d:List Nat}{r:List Fr}{a:xy}(b:a.1≠0)(c:lp.n<=n):kC lp tn x o v r (a.1,a.2.1,a.2.2.take n) t=kC lp tn e d v r a t:=by
 unfold kC;simp only[Dp b,List.take_take,Cc c]
def m0(vs:fG):fS xy->Prop
 |.ok h _=>h.2.2.length<=vs.length+1
 |.fin _=>True
theorem m0.bind{α:Type}{x:fS α}{f:α->RS->fS xy}(h:∀a t,m0 vs (f a t)):m0 vs (x.bind f):=by
 cases x with
 |fin t=>trivial
 |ok a t=>exact h a t
theorem m0.ite{c:Prop}[Decidable c]{x b:fS xy}(d:m0 vs x)(e:m0 vs b):m0 vs (if c then x else b):=by
 by_cases a:c
 .rw[Dq a];exact d
 .rw[Dp a];exact e
theorem P9.wid{x:fS xy}(h:P9 vs x):m0 vs x:=by
 cases x with
 |fin t=>trivial
 |ok a t=>exact Nat.le_succ_of_le (Dv (zAj h))
theorem m0.same{h:Int}(e:ws.length<=vs.length+1):m0 vs (.ok (h,n,ws) s):=e
theorem XW(p:Pr):∀(g:Nat) (vs:fG) (st:St) (s:RS),m0 vs (qn p g vs st s)
 |0,_,_,_=>Kr
 | g+1,vs,.mk k f td tc tg th,s=>by
   have j:∀vs t s,∃d,uM vs d (qn p g vs t s):=fun vs t s=>by
    obtain⟨k,f,td,tc,tg,th⟩:=t;exact⟨_,iE p g vs k f td tc tg th s⟩
   have c:∀vs l s,P9 vs (qG (qn p g) vs l s):=fun vs l s=>mV j vs l s
   have b:∀{e n:Int}{s:RS},m0 vs (.ok (e,n,vs) s):=fun {e n s}=>m0.same (Nat.le_succ _)
   rw[qn];exact m0.bind fun _ t=>m0.ite (I3 (fun vs s=>c vs tg s) _ vs t).wid (m0.ite b (m0.ite b (m0.bind fun a i=>m0.ite (m0.same Uh) (m0.ite (m0.same (by rw[zAj (s9 vs td a)];omega)) (m0.ite (m0.bind fun n w=>m0.bind fun _ x=>b) (m0.ite (m0.ite (c vs tg i).wid (c vs th i).wid) (m0.ite b (m0.ite b b))))))))
theorem BI(p:Pr)(g:Nat):∀(l:List St) (vs:fG) (s t:RS) (a:xy),kH (qn p g) vs l s=.ok a t->a.2.2.length+t.fuel<=vs.length+s.fuel
 |[],vs,s,t,a,c=>by rw[kH]at c;injection c with f d;subst f d;exact D0 _
 | st::r,vs,s,t,a,c=>by
   rw[kH]at c;have f:=ku p g vs st s;have d:=XW p g vs st s;cases e:qn p g vs st s with
   |fin i=>rw[e]at c;cases c
   |ok b i=>
     rw[e]at c f d;have c:(if b.1=0 then kH (qn p g) b.2.2 r i else .ok b i)=.ok a t:=c;have n:=f.2.1;have d:b.2.2.length<=vs.length+1:=d;by_cases j:b.1=0
     .rw[Dq j]at c
      have:=BI p g r b.2.2 i t a c;omega
     .rw[Dp j]at c
      injection c with k m;subst k m;omega
theorem SX(J:gL p)(L:GB p K g){ft:Int}{tn:List fP}{o:List Nat}{r:List Fr}{d:Nat}{lp:Lp}{v:List Int}{m:Nat}{ti:Bool}{frm:Nat}(l:List St)(tf:List Pa)(vs:fG)(n:Nat)(s:RS)(b:Nat)
 (N:s.fuel<=g) (T:gQ p s) (S:fL l (m-1)=true) (M:(zX p ft l tf frm ti n).1=0) (Q:xk vs=tf.map (·.name)) (f:wS tn b (ko l b d lp.st lp.br)) (j:Lm K s v vs o) (_:1<=m) (_:o.length+m<=100) (u:lp.n<=vs.length) (P:ti=true->InL lp vs o d):
 Sm p K ⟨s,v,⟨tn,b,vs,o⟩::r⟩ (qG (qn p g) vs l s) (kC lp tn (b+qZ l d) o v r):=by
 unfold qG;unfold ko gB at f;unfold qZ lB;have I:=n8 (fun vs t s=>(ku p g vs t s).le (Dx _)) l vs s;by_cases D:yb l=true
 .rw[Dq D]at f ⊢
  have B:Lm K s v vs (o++[vs.length]):=⟨j.v,j.c,j.vs,by rw[Dr,D8];omega⟩
  refine Sm.one (m':=⟨s,v,⟨tn,b+1,vs,o++[vs.length]⟩::r⟩) (by rw[yn j f.head];rfl) ?_;refine(DG J L l tf vs n s (b+1) (m:=m-1) N T S M Q f.tail.left B (by rw[Dr,D8];omega) u (fun E=>?_) (fun _ _=>Nat.succ_ne_zero d)).bind fun a t C e=>?_
  .obtain⟨⟨q,A,F,G,H,V⟩⟩:=P E
   refine⟨⟨q++[vs.length],by rw[A,Ya],by rw[Dr,D8,F],fun x w=>?_,fun k=>by simp at k,fun x _ k=>?_⟩⟩
   .rcases List.mem_append.1 w with w|w
    .exact G x w
    .rw[List.mem_singleton.1 w];exact u
   .cases q with
    |nil=>simp at k;rw[<-k.1];exact H rfl
    |cons z q=>simp at k;rw[<-k.1];exact V z q rfl
  rw[C]at I;have X:=BI p g l vs s t a C;by_cases i:a.1=0
  .unfold kC at e
   rw[Dq i]at e;refine Sm.go e ?_;show To p K _ (kC _ _ _ _ _ _ (a.1,a.2.1,a.2.2.take vs.length) t);unfold kC;dsimp only;rw[Dq i];refine To.one ?_;have W:Lm K t v a.2.2 (o++[vs.length]):=⟨(B.mv I.1).v,(B.mv I.1).c,by have:=j.vs;omega,B.o⟩
   rw[yn W ((f.tail.right (by rw[jo])).head)];show(match (o++[vs.length]).getLast? with|none=>VR.bad|some n=>_)=_;rw[jQ];dsimp only;rw[jB,show b+1+fJ l (d+1)+1=b+(fJ l (d+1)+2)by omega]
  .rw[<-GC (x:=b+(fJ l (d+1)+2)) (o:=o) i u]at e
   exact e
 .rw[Dp D]at f ⊢
  have R:=LC (p:=p) (g:=g) l vs s (by simpa using D);refine(DG J L l tf vs n s b (m:=m-1) N T S M Q f j O u P (fun _ E=>absurd E D)).bind fun a t C e=>?_
  rw[C]at R;obtain⟨q,A,F⟩:=R;by_cases i:a.1=0
  .have G:=F i
   subst G;rw[Yd]at A;have H:a.2.2.take vs.length=a.2.2:=Ye (Dv (zAj A));rw[H];exact e
  .rw[<-GC (x:=b+fJ l d) (o:=o) i u]at e
   exact e
theorem ZU(C:gL p)(N:N8 p K g)(Q:GB p K g){ft:Int}{tf:List Pa}{e:Ex}{tg:List St}{tn:List fP}{st c j:Nat}{o:List Nat}{r:List Fr}{lp:Lp}{v:List Int}{m n1 frm l:Nat}
 (H:(qE p tf e).2=0) (W:xx e 100=true) (Y:wS tn st (ya e st)) (ad:c=st+zy e) (y:tn[c]?=some (.unl (j+1))) (R:wS tn (c+1) (ko tg (c+1) 0 st (j+1))) (S:j=c+1+qZ tg 0) (A:tn[j]?=some (.jmp st))
 (E:fL tg (m-1)=true) (D:(zX p ft tg tf frm true n1).1=0) (V:1<=m) (X:o.length+m<=100) (ai:tf.length=l):
 ∀(k:Nat) (vs:fG) (s:RS),s.fuel<k->s.fuel<=g->gQ p s->xk vs=tf.map (·.name)->Lm K s v vs o->
   Sm p K ⟨s,v,⟨tn,st,vs,o⟩::r⟩ (k6 (fun vs s=>f0 p g vs e s) (fun vs s=>qG (qn p g) vs tg s) k vs s) (kC lp tn (j+1) o v r)
 |0,_,_,b,_,_,_,_=>absurd b (Nat.not_lt_zero _)
 | k+1,vs,s,hk,hg,hs,hn,hL=>by
   have T:vs.length=l:=by have:=congrArg List.length hn;simp[xk]at this;omega
   rw[k6];refine(N e tf vs s 100 v tn st o r hg hs H W hn Y hL).bind fun a t aa q=>?_
   have w:=qw p g vs e s;have G:=(jW p C g).1 tf vs e s hg hs H;rw[aa]at w G;have B:=hL.mv w.1;have Z:=hL.push w.1 w.2.1 a;subst ad
   have ak:To p K ⟨t,v++[a],⟨tn,st+zy e,vs,o⟩::r⟩ (.go ⟨t,v,⟨tn,if a=0 then j+1 else st+zy e+1,vs,o⟩::r⟩):=To.one (by
    rw[yn Z y];show(match (v++[a]).getLast? with|none=>VR.bad|some n=>_)=_;rw[jQ];dsimp only;rw[jB];by_cases i:a=0
    .rw[Dq i,Dq i]
    .rw[Dp i,Dp i])
   have q:=To.go q ak;by_cases i:a=0
   .rw[Dq i]at q ⊢
    show To p K _ (kC _ _ _ _ _ _ (0,0,vs) t);unfold kC;rw[Dq rfl];exact q
   rw[Dp i]at q ⊢;have an:=w.2.1;have ah:(Lp.mk st (j+1) l o).n<=vs.length:=by show l<=_;omega
   refine(Sm.go q (SX C Q (ft:=ft) (lp:=⟨st,j+1,l,o⟩) (m:=m) (ti:=true) (d:=0) (frm:=frm) tg tf vs n1 t (st+zy e+1) O G E D hn R B V X ah (fun _=>⟨⟨[],Uh,rfl,Uh,fun _=>T,Uh⟩⟩))).bind fun b x af f=>?_
   have u:=xh (fun vs t s=>(ku p g vs t s).le (Dx _)) vs tg t;have I:=xi (jW p C g).2 ft tg tf vs frm true n1 t (m-1) O G E D
   have ae:∀vs t s,∃d,uM vs d (qn p g vs t s):=fun vs t s=>by
    obtain⟨k,am,td,tc,tg,th⟩:=t;exact⟨_,iE p g vs k am td tc tg th s⟩
   have F:=mV ae vs tg t;have J:=tM (mZ (fun st vs s v frm n m y A=>DF p ft g st vs s v frm true n m y A) tg vs t tf frm n1 (m-1) E D);rw[af]at u I F J;have ag:b.2.2.length=l:=(zAj F).trans T;have al:b.2.2.take l=b.2.2:=Ye (Dv ag);have P:Lm K x v b.2.2 o:=⟨(B.mv u.1).v,(B.mv u.1).c,by have:=(B.mv u.1).vs;omega,hL.o⟩
   have ab:xk b.2.2=tf.map (·.name):=Eq.trans F hn;have ao:=u.1.fuel;unfold kC at f;dsimp only at f;rw[al]at f;by_cases M:b.1=3
   .rw[Dq M]
    rw[Dp O,Dp O,Dp O]at f;show To p K _ (kC _ _ _ _ _ _ b x);unfold kC;rw[Dp O,Dp O,Dp O];exact f
   rw[Dp M];by_cases z:b.1=1
   .rw[Dq z]
    rw[Dp O,Dq z]at f;show To p K _ (kC _ _ _ _ _ _ (0,0,b.2.2) x);unfold kC;rw[Dq rfl];exact f
   rw[Dp z]
   have aj:To p K ⟨s,v,⟨tn,st,vs,o⟩::r⟩ (.go ⟨x,v,⟨tn,st,b.2.2,o⟩::r⟩):=by
    by_cases L:b.1=0
    .rw[Dq L]at f
     refine To.go f (To.one ?_);rw[<-S,yn P A];rfl
    .rw[Dp L,Dp z,Dq (by have:=J.1;omega)]at f
     exact f
   exact Sm.go aj (ZU C N Q H W Y rfl y R S A E D V X ai k b.2.2 x O O I ab P)
