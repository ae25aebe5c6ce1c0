import Derived.Lib.ItoaLen
import Derived.Test.YthcmenajdcbnnaaGreatDoorAmTokRefC
import Derived.Laws.AppendOwnNone
import Derived.Test.YthcmenajdcbnnaaGreatDoorRows
import Derived.LaidMore
import Derived.Lay
import Derived.LaidSub
import Derived.SevenTiedAt
set_option linter.unusedSimpArgs false
set_option linter.unusedVariables false
set_option maxRecDepth 100000
set_option maxHeartbeats 99000000
namespace Go.Proofs.YthcmenajdcbnnaaGreatDoor
open Go.RowKit _root_.Go.Proofs.Tryz
theorem Ue{p:Prop}(h:p:=by
 go_ret
 first|exact⟨_,rfl,a.o⟩|exact⟨⟨_,rfl⟩,a.o⟩):p:=h
variable{W:C3}
abbrev P6(a b:Int)(v:C4)(d e:Int):Obj:=.cells #[(a:Int),(b:Int),v,(d:Int),(e:Int)] 35
theorem VB(B:Nat)(r:Int×Int×List Int×Nat×Nat)(v x:C4)(w:C3)(t:B<=w.heap.size)(F:GJ B w v r)(j:GJ B w x r):
 Cy 16 #[v,x] w (Cv true w):=by
 obtain⟨st,a,out,b,c⟩:=r;obtain⟨_,rfl,k,_⟩:=F;obtain⟨_,rfl,l,_⟩:=j;dsimp only at k l ⊢;obtain⟨d,g,rfl,_⟩:=k.form;obtain⟨f,i,rfl,_⟩:=l.form;have u:Cx w ((w.alloc (P6 st a (.slice d out.length g) b c)).alloc (P6 st a (.slice f out.length i) b c)):=(Zb.alloc Zr _).alloc Uj _;have n:((w.alloc (P6 st a (.slice d out.length g) b c)).alloc (P6 st a (.slice f out.length i) b c)).heap[w.heap.size]?=some (P6 st a (.slice d out.length g) b c):=zu (Ds w _) _;have q:((w.alloc (P6 st a (.slice d out.length g) b c)).alloc (P6 st a (.slice f out.length i) b c)).heap[w.heap.size+1]?=some (P6 st a (.slice f out.length i) b c):=by have:=Ds (w.alloc (P6 st a (.slice d out.length g) b c)) (P6 st a (.slice f out.length i) b c);rw[zA]at this;exact this
 have I:((w.alloc (P6 st a (.slice d out.length g) b c)).alloc (P6 st a (.slice f out.length i) b c)).heap.size=w.heap.size+2:=by rw[zA,zA]
 have m:=U u;have D:=U n;have E:=U q;have z:=U k;have A:=U l;obtain⟨⟨_,_,_,_,_⟩,_⟩:=zh n;obtain⟨⟨_,_,_,_,_⟩,_⟩:=zh q;clear u n q k l;go_enter func16,ntmps16
 go_wp2_with (go_at_call 30
              (with_reducible refine(TP B out out _ _ true (decide_eq_true rfl) _ O (z.o.below (m.o.mono t) Zr) (A.o.below (m.o.mono t) Zr)).mono ?_)
              rintro e y ⟨rfl,j⟩;have p:=(j.block w.heap.size O).trans D.o;have s:=(j.block (w.heap.size+1) O).trans E.o;obtain⟨⟨_,_,_,_,_⟩,_⟩:=zh p;obtain⟨⟨_,_,_,_,q4⟩,_⟩:=zh s;have G:w.heap.size<y.heap.size:=zB p;have H:w.heap.size+1<y.heap.size:=zB s;have C:=U j
              clear j p s)
 go_ret;exact⟨Uh,m.o.trans (C.o.mono O)⟩
def DQ(w:C3)(v:C4):Prop:=∃a n c,v=.slice a n c/\n<=9223372036854775807/\(0<n->∃b d,a=some ⟨b,d,none⟩/\b<w.heap.size/\∀k,k<n->∃z:Int,0<=z/\z<=255/\w.cell? ⟨b,d+k,none⟩=some (.int .u8 z))
theorem VC{l:List Int}(a:fT l)(n:Nat):fT (l.take n):=fun m b=>a m (List.mem_of_mem_take b)
def nM:List C2:=[⟨#[120,32,61,32,49,59]⟩,⟨#[105,110,116,32,121,32,61,32,120,59]⟩,⟨#[98,111,111,108,32,98,32,61,32,120,32,60,32,50,59]⟩,⟨#[98,32,61,32,33,98,59]⟩,⟨#[97,91,120,93,32,61,32,121,59]⟩,⟨#[105,102,32,40,98,41,32,123]⟩,⟨#[125,32,101,108,115,101,32,123]⟩,⟨#[125]⟩,⟨#[119,104,105,108,101,32,40,120,32,60,32,51,41,32,123]⟩,⟨#[119,104,105,108,101,32,40,116,114,117,101,41,32,123]⟩,⟨#[98,114,101,97,107,59]⟩,⟨#[99,111,110,116,105,110,117,101,59]⟩,⟨#[114,101,116,117,114,110,32,120,59]⟩,⟨#[114,101,116,117,114,110,32,98,59]⟩,⟨#[112,114,105,110,116,40,120,32,43,32,97,91,48,93,41,59]⟩,⟨#[102,40,120,44,32,98,41,59]⟩,⟨#[105,110,116,32,120,32,61,32,50,59]⟩,⟨#[120,32,61,32,102,40,49,44,32,116,114,117,101,41,59]⟩,⟨#[98,32,61,32,102,40,120,44,32,98,41,32,61,61,32,50,32,38,38,32,98,59]⟩,⟨#[121,32,61,32,105,56,40,120,41,59]⟩,⟨#[98,32,61,32,120,59]⟩,⟨#[120,32,61,32,45,98,59]⟩,⟨#[114,101,116,117,114,110,32,102,40,120,44,32,98,32,61,61,32,116,114,117,101,41,59]⟩,⟨#[122,32,61,32,49,59]⟩,⟨#[99,91,48,93,32,61,32,49,59]⟩,⟨#[104,40,41,59]⟩,⟨#[120,32,61,32,114,101,97,100,40,41,59]⟩,⟨#[123]⟩,⟨#[114,101,116,117,114,110,32,48,59]⟩,⟨#[112,114,105,110,116,40,116,114,117,101,41,59]⟩,⟨#[98,32,61,32,116,114,117,101,32,33,61,32,40,120,32,62,32,49,41,59]⟩]
def zb2(w:C3)(h:Nat):Prop:=∀i,i<31->∃s:C2,s.size<=25/\w.cell? ⟨h,i,none⟩=some (.string s)
theorem Y1{w:C3}{a:Nat}(c:w.heap[a]?=some (.cells (nM.map Value.string).toArray 9)):zb2 w a:=fun i d=>by
 have b:i<nM.length:=d;refine⟨nM[i],(by decide+kernel:∀s∈nM,s.size<=25) _ (List.getElem_mem b),(Du c i).trans ?_⟩;rw[List.getElem?_toArray,Yn,Dy b];rfl
theorem wG(w:C3):Cy 29 #[] w fun e w'=>e=.returned (.slice (some ⟨w.heap.size,0,none⟩) 31 31)/\zb2 w' w.heap.size/\Cx w w':=by
 go_enter func29,ntmps29;go_wp2;go_ret;exact⟨rfl,Y1 (Ds w _),Zb.alloc Zr _⟩
theorem HJ(b d n c:Nat)(f:Bool)(w:C3)(_:n<=9223372036854775807)(y:b<w.heap.size)(j:∀k,k<n->∃z:Int,0<=z/\z<=255/\w.cell? ⟨b,d+k,none⟩=some (.int .u8 z)):
 Cy 14 #[.slice (some ⟨b,d,none⟩) n c,.bool f] w fun e w'=>∃r:C2,e=.returned (.string r)/\Cx w w':=by
 have m:=U j;clear j;go_enter func14,ntmps14
 go_wp2_with (go_at_call 29;(with_reducible refine(wG w).mono ?_);rintro e C ⟨rfl,i,g⟩
              have t:=U i;have a:=U g
              have q:=U (show ∀k,k<n->∃z:Int,0<=z/\z<=255/\C.cell? ⟨b,d+k,none⟩=some (.int .u8 z)from fun k l=>by
               obtain⟨z,u,v,x⟩:=m.o k l
               exact⟨z,u,v,(g.cell (p:=(b,d+k)) y).trans x⟩)
              clear i g)
 go_loop [5,7] (fun B iv=>∃(k:Nat) (s:C2),k<=n/\k<=14/\iv=.int .i64 k/\B=.string s/\s.size<=33+26*k) (fun _ iv=>14-(intOf iv).toNat)
 case atStart=>exact⟨0,_,Dx _,O,rfl,rfl,Uf⟩
 case round=>
  obtain⟨k,r,l,_,rfl,rfl,_⟩:=hrel;by_cases A:k<n
  .by_cases D:k<14
   .obtain⟨z,_,_,_⟩:=q.o k A
    have E:0<=z % (31 :Int):=Int.emod_nonneg _ O;have F:z % (31 :Int)<31:=Int.emod_lt_of_pos _ O;obtain⟨s,_,_⟩:=t.o (z % (31 :Int)).toNat O;go_wp2;go_round
    case rel=>exact⟨k+1,_,O,O,by go_num,rfl,(by rw[ByteArray.size_append,ByteArray.size_append,show(⟨#[10]⟩:C2).size=1 from rfl];omega)⟩
    case measure=>simp[intOf];omega
   .have e:k=14:=by omega
    subst e;cases f
    .go_wp2
     exact Ue
    .go_wp2
     exact Ue
  .have e:k=n:=by omega
   subst e;cases f
   .go_wp2
    exact Ue
   .go_wp2
    exact Ue
theorem KC(f:Option Addr)(c:Nat)(b:Bool)(w:C3):
 Cy 14 #[.slice f 0 c,.bool b] w fun e w'=>∃r:C2,e=.returned (.string r)/\Cx w w':=by
 go_enter func14,ntmps14
 go_wp2_with (go_at_call 29;(with_reducible refine(wG w).mono ?_);rintro e _ ⟨rfl,g,d⟩
              have a:=U d
              clear g d)
 go_loop [5,7] (fun i iv=>iv=.int .i64 0/\∃s,i=.string s/\s.size<=33) (fun _ _=>0)
 case atStart=>exact⟨rfl,_,rfl,Uf⟩
 case round=>
  obtain⟨rfl,s,rfl,_⟩:=hrel;cases b
  .go_wp2
   exact Ue
  .go_wp2
   exact Ue
theorem KD(v:C4)(a:Bool)(w:C3)(l:DQ w v):
 Cy 14 #[v,.bool a] w fun e w'=>∃r:C2,e=.returned (.string r)/\Cx w w':=by
 obtain⟨d,n,c,rfl,k,g⟩:=l;by_cases f:0<n
 .obtain⟨b,m,rfl,i,j⟩:=g f
  exact HJ b m n c a w k i j
 .rw[show n=0 by omega]
  exact KC d c a w
theorem DR(B:Nat)(v ae:C4)(n:Nat)(d:List Int)(w:C3)(V:fQ B w)(s:B<=w.heap.size)(W:DQ w v)(u:k5 B w ae d)(Q:fT d)(_:n<=255):Cy 3 #[v,ae,.int .u8 n] w (Cv true w):=by
 obtain⟨_,_,rfl,_⟩:=u.1.form;have K:=U V;have aA:=U W;have am:=U u;have I:=U (VC Q 10);clear V W u Q;go_enter func3,ntmps3
 go_upto_region 2 with(first
  | (go_at_call 14;(with_reducible refine(KD v true w aA.o).mono ?_);rintro e af ⟨r,rfl,b⟩
     obtain⟨p,_,ad,N⟩:∃p e ad,yk r=(p,e,ad):=⟨_,_,_,rfl⟩
     have E:=U N;have ag:=U b;have aw:=U (K.o.below (b.mono s));have aE:w.heap.size<=af.heap.size:=b.size
     clear N b)
  | (go_at_call 13;(with_reducible refine(l0 r aw.o O E.o).mono ?_);rintro e a ⟨C,L,D,M,rfl,b,P⟩
     obtain⟨Y,Z,aa,ab⟩:=P.box;have al:=U ab;have aB:=U Z;have m:=U ((ag.o.trans (b.mono aE)).trans (Y.mono (by have:=b.size;omega)));have q:=U (j5 E.o);have aG:af.heap.size<=a.heap.size:=b.size;have A:=aa
     clear b P Y Z aa ab))
 generalize a.alloc (qg C p.wa.length L D p.funcs.length M)=W2 at *;have aH:=Dv A;have aI:=Dv A.symm;clear A;obtain⟨⟨_,_⟩,_⟩:=zG aB.o;have aC:a.heap.size<W2.heap.size:=O
 have ax:=U (K.o.below (m.o.mono s));have an:=U (am.o.below (m.o.mono s) Zr);go_upto_region 3 with fail;obtain⟨r,R⟩:=Cz (vM p (d.take 10) (n:Int));have J:=U R;have ay:=U (ax.o.below Zb.drew);clear R;have aF:IntKind.i64.wrap (n:Int)=(n:Int):=IntWalk.i64_in _ O
 go_region_held3 (fun w'=>w'.cell? (a.heap.size,0)=some (.slice C p.wa.length L)/\w'.cell? (a.heap.size,1)=some (.slice D p.funcs.length M))
  (first
    |(go_split_ands;refine⟨?_,?_⟩ <;>(first|assumption|(rw[l];assumption)|(rw[z,l];assumption)|(rw[X,z,l];assumption)|(rw[aD,X,z,l];assumption)))
    |go_keep)
  (first
    | (go_at_call 15
       (refine(KB B W2.drew ay.o (by show B<=W2.heap.size;omega)).mono ?_)
       rintro e i ⟨rfl,c⟩;have c:Cx W2 i:=Zb.drew.trans c;have l:∀k,i.cell? ⟨a.heap.size,k,none⟩=W2.cell? ⟨a.heap.size,k,none⟩:=fun k=>c.cell (p:=⟨a.heap.size,k,none⟩) aC
       have ah:=U c;have F:=U (al.o.below (c.mono O));have H:=U (an.o.below (c.mono O) Zr);have aJ:=c.size
       clear c)
    | (go_at_call 18
       (refine(LN B d _ i H.o).mono ?_)
       rintro e _ ⟨_,rfl,S,rfl⟩;have au:=U S
       clear S)
    | (go_at_call 17
       (refine(nL a.heap.size p (d.take 10) (n:Int) _ _ _ i F.o q.o (au.o.below Zb O) I.o O O).mono ?_)
       rintro e j ⟨_,rfl,x,f⟩;rw[J.o]at x;have z:∀k,j.cell? ⟨a.heap.size,k,none⟩=i.cell? ⟨a.heap.size,k,none⟩:=fun k=>f.cell (p:=⟨a.heap.size,k,none⟩) (show a.heap.size<i.heap.size by omega)
       have ap:=U x;have ai:=U f;have G:=U (F.o.below (f.mono O));have ao:=U (H.o.below (f.mono O) Zr);have aK:=f.size
       clear x f)
    | (go_at_call 18
       (refine(LN B d _ j ao.o).mono ?_)
       rintro e _ ⟨_,rfl,T,rfl⟩;have av:=U T
       clear T)
    | (go_at_call 19
       (refine(UI a.heap.size p (d.take 10) (n:Int) _ _ _ j O G.o.ha G.o.hf q.o.cn q.o.n1 (av.o.below Zb O) I.o O O).mono ?_)
       rintro e w8 ⟨_,rfl,y,g⟩;rw[J.o]at y;have X:∀k,w8.cell? ⟨a.heap.size,k,none⟩=j.cell? ⟨a.heap.size,k,none⟩:=fun k=>g.cell (p:=⟨a.heap.size,k,none⟩) (show a.heap.size<j.heap.size by omega)
       have aq:=U y;have ar:=U (ap.o.below g g.size);have aj:=U g;have aL:=g.size
       clear y g)
    | (go_at_call 16
       (refine(VB w8.heap.size r _ _ w8 Zr ar.o aq.o).mono ?_)
       rintro e w9 ⟨rfl,t⟩;have aD:∀k,w9.cell? ⟨a.heap.size,k,none⟩=w8.cell? ⟨a.heap.size,k,none⟩:=fun k=>t.cell (p:=⟨a.heap.size,k,none⟩) (show a.heap.size<w8.heap.size by omega)
       have ak:=U t
       clear t))
 go_wp2_with fail;go_ret;exact⟨rfl,m.o.trans ((((ah.o.mono O).trans (ai.o.mono O)).trans (aj.o.mono O)).trans (ak.o.mono O))⟩
def zb3(v:C4):Prop:=∀n c,v=.slice none n c->c=0
end Go.Proofs.YthcmenajdcbnnaaGreatDoor
namespace Go.Proofs.YthcmenajdcbnnaaGreatDoor
open _root_.Go.Proofs.Tryz
open Go.ChangeShapes Go.WideShapes Go.ChangeAt Go.RowKit
variable{W:C3}
theorem own:ownKnob Tryz.prog.godebug=none:=by kernel_rfl
theorem LW:laidOutB Tryz.prog=true:=by kernel_rfl
abbrev xv:List (String × DataW Unit):=[("boxhedge/wrap.rows",Rows.laid_boxhedge_wrap_rows)]
theorem VD(h:laidMetH Tryz.prog xv W):laidMet Tryz.prog xv W:=by
 rw[MakeChecks.laidMetH_plain _ _ _ (by kernel_rfl)]at h;exact h
theorem zb4:Tryz.prog.globalNamed "boxhedge/wrap.rows" =some 0:=by kernel_rfl
theorem zb5:(Tryz.prog.globals[0]?).map (·.type)=some 233:=by kernel_rfl
theorem HK:Tryz.prog.cellsOf 230=2:=by kernel_rfl
theorem VE:Tryz.prog.cellsOf 9=1:=by kernel_rfl
theorem VF:Tryz.prog.cellsOf 3=1:=by kernel_rfl
theorem KE{s:C2}{l:List UInt8}(h:s.data.toList=l):s=⟨l.toArray⟩:=by
 subst h;cases s;simp
theorem PW{W:C3}{o:Nat}{a:List C4}{b:List UInt8}{n:Int}{p:List MemPlace}
 (q:DataW.trod (fun _=>()) Tryz.prog W 0 (fun _=>true) false o 230 a=some (.agg [.lit (.string b),.lit (.int .i64 n)],p)):
 a[0]?=some (.string ⟨b.toArray⟩)/\a[1]?=some (.int .i64 n):=by
 obtain⟨_,_,m,i,g,e,f⟩:=trod_struct2 underlying230 q;rw[VE]at e;rw[VF]at f;obtain⟨s,c,j,_⟩:=DataW.trod_string underlying9 e;obtain⟨k,d,l,_⟩:=DataW.trod_int underlying3 f;subst j l;simp only[Prod.mk.injEq,DataW.agg.injEq,Cb,DataW.lit.injEq,Lit.string.injEq,Lit.int.injEq,true_and,and_true]at i;obtain⟨⟨t,r⟩,_⟩:=i;rw[HK]at g
 match a,g with
 |[c0,c1],_=>
   simp at c d;subst c d r;refine⟨?_,rfl⟩;rw[KE t.symm];rfl
theorem DS(n:laidMet Tryz.prog [("boxhedge/wrap.rows",Rows.laid_boxhedge_wrap_rows)] W):Z1 W:=by
 obtain⟨ps,⟨_,_,a,_,_,_,f,r,s,o,_,_⟩,_,_⟩:=n;obtain rfl:=Option.some.inj (zb4.symm.trans f);obtain rfl:=Option.some.inj (zb5.symm.trans r);obtain⟨v,_,rfl,u,_,_,q⟩:=DataW.trod_array underlying233 o;intro k _
 have e:∀j,W.cell? ⟨0,j,none⟩=a.toList[j]?:=by
  intro j;have:=World.var?_cell f s j;simpa using this
 have b:=q k O;rw[HK]at b
 have i:(v.map (·.1))[k]?=some (.agg [.lit (.string (zbg.getD k [])),.lit (.int .i64 (zbh.getD k 0))]):=by
  have c:=congrArg Prod.fst u;unfold Rows.laid_boxhedge_wrap_rows at c;simp only[DataW.agg.injEq]at c;rw[<-c];obtain rfl|rfl|rfl|rfl|rfl|rfl|rfl|rfl|rfl|rfl|rfl|rfl|rfl|rfl|rfl|rfl|rfl|rfl|rfl|rfl|rfl|rfl|rfl|rfl|rfl|rfl|rfl|rfl|rfl:k=0\/k=1\/k=2\/k=3\/k=4\/k=5\/k=6\/k=7\/k=8\/k=9\/k=10\/k=11\/k=12\/k=13\/k=14\/k=15\/k=16\/k=17\/k=18\/k=19\/k=20\/k=21\/k=22\/k=23\/k=24\/k=25\/k=26\/k=27\/k=28:=O
  all_goals rfl
 rw[Yn]at i;obtain⟨x,t,g⟩:=Option.map_eq_some_iff.1 i;rw[t]at b;obtain⟨d,p⟩:=x;simp only at g;subst g;obtain⟨l,m⟩:=PW b;rw[e,e];refine⟨?_,?_⟩
 .have:a.toList[k*2]?=((a.toList.drop (k*2)).take 2)[0]?:=by simp[List.getElem?_drop]
  rw[this,l];rfl
 .have:a.toList[k*2+1]?=((a.toList.drop (k*2)).take 2)[1]?:=by simp[List.getElem?_drop]
  rw[this,m];rfl
theorem HL(b:laidMetH Tryz.prog xv W):fQ W.heap.size W:=by
 have a:=DS (VD b);exact⟨block_lt_of_cell (a 0 O).1,a⟩
theorem PY(os:Os)(tc:Array C4):laidMetH Tryz.prog xv ((World.laidAll Tryz.prog os xv).forCall (fun _ _=>0) ⟨#[],tc,[]⟩).memory:=by
 rw[MakeChecks.laidMetH_plain _ _ _ (by kernel_rfl)];exact laidMet_laidAll _ (by kernel_rfl) (by kernel_rfl)
theorem VG{H:Type}{enc:TypeId×C4->H}{r:Nat}{v:C4}{d:DataW H}{p:List MemPlace}(s:DataW.Trod enc Tryz.prog W 0 (fun _=>true) true 22 v d p)(y:Value.okWide Tryz.prog W .any r 22 v):DQ W v:=by
 obtain⟨_,GA,g,rfl⟩:=okWide_slice underlying22 y;obtain⟨_,t⟩:=s;rcases open_ints underlying22 underlying5 (by kernel_rfl) t with⟨a,_⟩|⟨x,l,c,q,a,_,_,u,z,_,m,o⟩
 .simp[Value.cells]at a
  obtain⟨rfl,rfl,rfl⟩:=a;exact⟨none,0,0,rfl,O,fun n=>absurd n O⟩
 .simp[Value.cells]at a
  obtain⟨rfl,rfl,rfl⟩:=a;have B:q.length=g:=by simpa using z
  refine⟨_,GA,g,rfl,by unfold maxLen at u;omega,fun n=>?_⟩;obtain⟨b,f,A⟩:=x;have e:=m 0 O;have w:A=none:=by simpa[Addr.add]using World.cell?_spot e
  subst w;have j:∀k,(⟨b,f,none⟩:Addr).add k=⟨b,f+k,none⟩:=fun k=>Ky
  refine⟨b,f,rfl,?_,fun k _=>?_⟩
  .rw[j]at e
   exact block_lt_of_cell e
  .have i:=m k O
   rw[j]at i;exact⟨q.getD k 0,(range_u8 o k).1,(range_u8 o k).2,i⟩
theorem ZA{H:Type}{enc:TypeId×C4->H}{z:Nat}{v:C4}{d:DataW H}{p:List MemPlace}(B:DataW.Trod enc Tryz.prog W 0 (fun _=>true) true 23 v d p)(J:Value.okWide Tryz.prog W .any z 23 v)(M:∀n∈d.weights Tryz.prog 23,n<=reachBytes):∃l,k5 W.heap.size W v l/\fT l/\zb3 v:=by
 obtain⟨_,GA,q,rfl⟩:=okWide_slice underlying23 J;obtain⟨_,E⟩:=B;rcases open_ints underlying23 underlying3 (by kernel_rfl) E with⟨a,_⟩|⟨x,l,c,f,a,_,_,_,L,D,w,K⟩
 .simp[Value.cells]at a
  obtain⟨rfl,rfl,rfl⟩:=a;exact⟨[],LU _ _,LV,fun n c e=>by injection e with _ _ r;exact r.symm⟩
 .simp[Value.cells]at a
  obtain⟨rfl,rfl,rfl⟩:=a;have Q:f.length=q:=by simpa using L
  have m:(f.take GA).length=GA:=Vt
  obtain⟨C,_⟩:=Prod.mk.inj D;subst C;have y:=M (((lits (H:=H) .i64 (f.take GA)).length+(lits (H:=H) .i64 (f.drop GA)).length)*Tryz.prog.bytesOf 3) (by simp[DataW.weights,underlying23]);rw[show Tryz.prog.bytesOf 3=8 by kernel_rfl]at y;simp only[lits,Yh,Yg,Ys,reachBytes]at y;refine⟨f.take GA,⟨⟨some x,q,by rw[m],by rw[m];omega,fun G=>?_⟩,fun _ n c e=>by injection e with _ _ r;omega⟩,fun n F=>bounds_i64 (K n (List.mem_of_mem_take F)),fun n c e=>Uu⟩;rw[m]at G;obtain⟨b,o,N⟩:=x;have g:=w 0 O;have I:N=none:=by simpa[Addr.add]using World.cell?_spot g
  subst I;have u:∀k,(⟨b,o,none⟩:Addr).add k=⟨b,o+k,none⟩:=fun k=>Ky
  rw[u]at g;refine⟨b,o,rfl,B7 (block_lt_of_cell g) _ _ fun j t i=>?_⟩;have P:=(List.getElem?_eq_some_iff.1 i).1;rw[Y8,Dq O]at i;have s:=w j O;rw[u,Yl,i]at s;exact s
theorem za4{a:Int}(h:(Lit.int .u8 a).wf=true):∃n:Nat,a=n/\n<=255:=by
 obtain⟨_,_⟩:=bounds_u8 h;exact⟨a.toNat,O,O⟩
