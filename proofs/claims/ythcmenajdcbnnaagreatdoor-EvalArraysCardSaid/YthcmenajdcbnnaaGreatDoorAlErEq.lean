import Derived.Lib.ItoaLen
import Derived.Test.YthcmenajdcbnnaaGreatDoorAlTokRefC
import Derived.Laws.AppendOwnNone
import Derived.Test.YthcmenajdcbnnaaGreatDoorRows
import Derived.LaidMore
import Derived.Lay
import Derived.LaidSub
import Derived.SevenTiedAt
set_option linter.unusedSimpArgs false
set_option linter.unusedVariables false
set_option maxRecDepth 100000
set_option maxHeartbeats 99000000
namespace Go.Proofs.YthcmenajdcbnnaaGreatDoor
open Go.RowKit _root_.Go.Proofs.Tryz
theorem Ue{p:Prop}(h:p:=by
 subst e
 go_upto_region 8 with(go_at_call 13;(with_reducible refine(l1 _).mono ?_);rintro e l ⟨p,ai,aj,q,a,f,d,g,rfl,i,t⟩
                       have F:=U (vG q);have C:=U i;have D:=U t;have ah:x.heap.size<=l.heap.size:=i.size
                       clear q i t)
 have E:=U (D.o.keep (zL.wb (Zb.alloc Zr (qQ a p.wa.length f d p.funcs.length g))) Zr);have j:=U ((H.o.below C.o).alloc (qQ a p.wa.length f d p.funcs.length g));have u:=Ds l (qQ a p.wa.length f d p.funcs.length g);generalize l.alloc (qQ a p.wa.length f d p.funcs.length g)=W8 at *;obtain⟨⟨ak,al⟩,am⟩:=ki u;obtain⟨⟨Y,Z⟩,aa⟩:=j.o.own;clear u;obtain⟨G,f1⟩:=j.o.read (.slice a p.wa.length f) (.slice d p.funcs.length g);go_wp2_with fail;refine bodyPost_ret (v:=.agg #[(a,p.wa.length,f),(d,p.funcs.length,g)]) (by simp[results,results25,go_sem,G,f1]) rfl ?_
 exact j.o.good1 I.o K E.o O F.o):p:=h
variable{w W:C4}
abbrev QB(a b:Int)(v:C5)(d e:Int):Obj:=.cells #[(a:Int),(b:Int),v,(d:Int),(e:Int)] 35
theorem nN(B:Nat)(r:Int×Int×List Int×Nat×Nat)(v x:C5)(w:C4)(t:B<=w.heap.size)(F:GV B w v r)(j:GV B w x r):
 Cz 16 #[v,x] w (Cw true w):=by
 obtain⟨st,a,out,b,c⟩:=r;obtain⟨_,rfl,k,_⟩:=F;obtain⟨_,rfl,l,_⟩:=j;dsimp only at k l ⊢;obtain⟨d,g,rfl,_⟩:=k.form;obtain⟨f,i,rfl,_⟩:=l.form;have u:Cy w ((w.alloc (QB st a (.slice d out.length g) b c)).alloc (QB st a (.slice f out.length i) b c)):=(Zb.alloc Zr _).alloc Uj _;have n:((w.alloc (QB st a (.slice d out.length g) b c)).alloc (QB st a (.slice f out.length i) b c)).heap[w.heap.size]?=some (QB st a (.slice d out.length g) b c):=zu (Ds w _) _;have q:((w.alloc (QB st a (.slice d out.length g) b c)).alloc (QB st a (.slice f out.length i) b c)).heap[w.heap.size+1]?=some (QB st a (.slice f out.length i) b c):=by have:=Ds (w.alloc (QB st a (.slice d out.length g) b c)) (QB st a (.slice f out.length i) b c);rw[zA]at this;exact this
 have I:((w.alloc (QB st a (.slice d out.length g) b c)).alloc (QB st a (.slice f out.length i) b c)).heap.size=w.heap.size+2:=by rw[zA,zA]
 have m:=U u;have D:=U n;have E:=U q;have z:=U k;have A:=U l;obtain⟨⟨_,_,_,_,_⟩,_⟩:=zh n;obtain⟨⟨_,_,_,_,_⟩,_⟩:=zh q;clear u n q k l;go_enter func16,ntmps16
 go_wp2_with (go_at_call 30
              (with_reducible refine(TU B out out _ _ true (decide_eq_true rfl) _ O (z.o.below (m.o.mono t) Zr) (A.o.below (m.o.mono t) Zr)).mono ?_)
              rintro e y ⟨rfl,j⟩;have p:=(j.block w.heap.size O).trans D.o;have s:=(j.block (w.heap.size+1) O).trans E.o;obtain⟨⟨_,_,_,_,_⟩,_⟩:=zh p;obtain⟨⟨_,_,_,_,q4⟩,_⟩:=zh s;have G:w.heap.size<y.heap.size:=zB p;have H:w.heap.size+1<y.heap.size:=zB s;have C:=U j
              clear j p s)
 go_ret;exact⟨Uh,m.o.trans (C.o.mono O)⟩
def j6(w:C4)(v:C5):Prop:=∃a n c,v=.slice a n c/\n<=9223372036854775807/\(0<n->∃b d,a=some ⟨b,d,none⟩/\b<w.heap.size/\∀k,k<n->∃z:Int,0<=z/\z<=255/\w.cell? ⟨b,d+k,none⟩=some (.int .u8 z))
def zca(p:Pr)(e:Int)(f:Nat)(w:C4)(x:Ending)(w':C4):Prop:=
 ∃a c b d,x=.returned (.tuple #[.agg #[.slice a p.wa.length c,.slice b p.funcs.length d],(e:Int),((f:Int):Int)])/\Cy w w'/\DX w.heap.size w' p (.agg #[.slice a p.wa.length c,.slice b p.funcs.length d])
theorem P4(s:C3){p:Pr}{e:Int}{d:Nat}(l:yQ s=(p,e,d)):Cz 13 #[s] w (zca p e d w):=
 (wO s w).mono fun x w' ⟨k,_,_,c,a,b⟩=>by
   rw[l]at c a b;obtain⟨f,i,rfl,_⟩:=a.form;obtain⟨g,j,rfl,_⟩:=b.form;exact⟨f,i,g,j,c,k,_,_,rfl,a,b⟩
theorem l1(s:C3):Cz 13 #[s] w fun x w'=>∃p e a,yQ s=(p,e,a)/\zca p e a w x w':=by
 obtain⟨p,e,a,b⟩:∃p e a,yQ s=(p,e,a):=⟨_,_,_,rfl⟩
 exact(P4 s b).mono fun _ _ c=>⟨p,e,a,b,c⟩
def nO(w:C4)(x:Ending)(w':C4):Prop:=
 ∃p a c b d,x=.returned (.agg #[.slice a p.wa.length c,.slice b p.funcs.length d])/\Cy w w'/\gH w'.heap.size p (.slice a p.wa.length c) (.slice b p.funcs.length d) w'/\t3 p
section
variable {B:Nat}{w W:C4}
theorem Rb.good1(j:Rb w W)(o:fO B w)(f:B<=w.heap.size){p:Pr}{a b:Option Addr}{c d:Nat}{L:Nat}(m:DX L W p (.agg #[(a,p.wa.length,c),(b,p.funcs.length,d)]))(i:w.heap.size<L)(n:t3 p):nO w (.returned (.agg #[(a,p.wa.length,c),(b,p.funcs.length,d)])) (uo W w.heap.size (.slice a p.wa.length c) (.slice b p.funcs.length d)):=by
 have e:=j.nest (.slice a p.wa.length c) (.slice b p.funcs.length d);obtain⟨k,l⟩:=VC (m.keep (zL.nest2 (g:=w.heap.size) i (.slice a p.wa.length c) (.slice b p.funcs.length d)) (D9 i));exact⟨p,a,c,b,d,rfl,e,⟨D0 _,(o.below (e.mono f)).mono (Dy f e.size),k,l⟩,n⟩
end
theorem nP{l:List Int}(a:fR l)(n:Nat):fR (l.take n):=fun m b=>a m (List.mem_of_mem_take b)
def ZD(m:Nat)(w:C4)(h:Nat):Prop:=∀i,i<m->∃s:C3,s.size<=100/\w.cell? ⟨h,i,none⟩=some (.string s)
theorem rN{a:Nat}{l:List C3}(d:∀s∈l,s.size<=100)(c:w.heap[a]?=some (.cells (l.map Value.string).toArray 9)):ZD l.length w a:=fun i b=>by
 refine⟨l[i],d _ (List.getElem_mem b),(Du c i).trans ?_⟩;rw[List.getElem?_toArray,Yn,Dz b];rfl
def zAr(w:C4)(e:Ending)(w':C4):Prop:=∃m,0<m/\m<=16/\e=.returned (.slice (some ⟨w.heap.size,0,none⟩) m m)/\ZD m w' w.heap.size/\Cy w w'
def zdg:List C3:=[⟨#[119,104,105,108,101,32,40,120,32,60,32,53,41,32,123,32,120,32,61,32,120,32,43,32,49,59,32,105,102,32,40,120,32,61,61,32,51,41,32,123,32,99,111,110,116,105,110,117,101,59,32,125,32,121,32,61,32,121,32,43,32,120,59,32,125]⟩,⟨#[119,104,105,108,101,32,40,116,114,117,101,41,32,123,32,120,32,61,32,120,32,43,32,50,59,32,105,102,32,40,120,32,62,32,57,41,32,123,32,98,114,101,97,107,59,32,125,32,112,114,105,110,116,40,120,41,59,32,125]⟩,⟨#[120,32,61,32,48,59]⟩,⟨#[121,32,61,32,120,32,42,32,121,32,43,32,49,59]⟩,⟨#[112,114,105,110,116,40,121,41,59]⟩,⟨#[119,104,105,108,101,32,40,98,41,32,123,32,98,32,61,32,121,32,62,32,50,48,59,32,121,32,61,32,121,32,43,32,55,59,32,125]⟩,⟨#[105,102,32,40,120,32,62,32,121,41,32,123,32,120,32,61,32,121,59,32,125,32,101,108,115,101,32,123,32,121,32,61,32,120,59,32,125]⟩,⟨#[119,104,105,108,101,32,40,120,32,62,32,48,41,32,123,32,120,32,61,32,120,32,45,32,49,59,32,119,104,105,108,101,32,40,121,32,62,32,120,41,32,123,32,121,32,61,32,121,32,45,32,50,59,32,105,102,32,40,121,32,61,61,32,52,41,32,123,32,98,114,101,97,107,59,32,125,32,125,32,125]⟩,⟨#[98,32,61,32,120,32,60,32,121,59]⟩,⟨#[119,104,105,108,101,32,40,121,32,62,32,53,48,41,32,123,32,114,101,116,117,114,110,32,120,59,32,125]⟩,⟨#[120,32,61,32,120,32,38,32,55,59]⟩,⟨#[119,104,105,108,101,32,40,102,97,108,115,101,41,32,123,32,112,114,105,110,116,40,49,41,59,32,125]⟩,⟨#[105,102,32,40,116,114,117,101,41,32,123,32,105,110,116,32,116,32,61,32,120,59,32,120,32,61,32,121,59,32,121,32,61,32,116,59,32,125]⟩,⟨#[119,104,105,108,101,32,40,121,32,62,32,49,32,38,38,32,120,32,62,32,121,41,32,123,32,120,32,61,32,120,32,45,32,49,59,32,121,32,61,32,121,32,62,62,62,32,49,59,32,125]⟩,⟨#[119,104,105,108,101,32,40,116,114,117,101,41,32,123,32,105,102,32,40,99,41,32,123,32,99,32,61,32,102,97,108,115,101,59,32,99,111,110,116,105,110,117,101,59,32,125,32,98,114,101,97,107,59,32,125]⟩,⟨#[119,104,105,108,101,32,40,120,32,60,32,51,41,32,123,32,105,110,116,32,122,32,61,32,120,32,42,32,50,59,32,120,32,61,32,122,32,43,32,49,59,32,105,102,32,40,122,32,62,32,121,41,32,123,32,121,32,61,32,122,59,32,98,114,101,97,107,59,32,125,32,125]⟩]
theorem ZE(w:C4):Cz 46 #[(0:Int)] w (zAr w):=by
 go_enter func46,ntmps46;go_wp2_with fail;go_ret;exact⟨16,Uf,Uf,rfl,rN (l:=zdg) Us (Ds w _),Zb.alloc Zr _⟩
def zdh:List C3:=[⟨#[98,32,61,32,120,32,60,32,121,32,38,38,32,121,32,47,32,120,32,62,32,49,59]⟩,⟨#[99,32,61,32,98,32,124,124,32,114,101,97,100,40,41,32,61,61,32,49,59]⟩,⟨#[105,102,32,40,98,32,38,38,32,33,99,32,124,124,32,120,32,61,61,32,50,41,32,123,32,112,114,105,110,116,40,49,41,59,32,125]⟩,⟨#[119,104,105,108,101,32,40,99,32,38,38,32,120,32,60,32,54,41,32,123,32,120,32,61,32,120,32,43,32,49,59,32,99,32,61,32,120,32,33,61,32,52,32,124,124,32,98,59,32,125]⟩,⟨#[98,32,61,32,33,98,59]⟩,⟨#[99,32,61,32,98,32,61,61,32,99,59]⟩,⟨#[105,102,32,40,120,32,47,32,40,120,32,45,32,49,41,32,62,32,48,32,124,124,32,98,41,32,123,32,120,32,61,32,49,59,32,125]⟩,⟨#[120,32,61,32,120,32,43,32,49,59]⟩,⟨#[121,32,61,32,121,32,45,32,120,59]⟩,⟨#[112,114,105,110,116,40,120,41,59]⟩,⟨#[98,32,61,32,116,114,117,101,32,38,38,32,40,99,32,124,124,32,102,97,108,115,101,41,59]⟩,⟨#[105,102,32,40,103,40,120,41,32,38,38,32,103,40,121,41,41,32,123,32,121,32,61,32,48,59,32,125]⟩,⟨#[99,32,61,32,103,40,120,41,32,124,124,32,103,40,121,41,32,38,38,32,98,59]⟩,⟨#[105,102,32,40,33,40,98,32,124,124,32,99,41,41,32,123,32,98,32,61,32,120,32,62,32,50,59,32,125,32,101,108,115,101,32,123,32,99,32,61,32,121,32,62,32,50,32,38,38,32,98,59,32,125]⟩]
theorem ZF(w:C4):Cz 46 #[(1:Int)] w (zAr w):=by
 go_enter func46,ntmps46;go_wp2_with fail;go_ret;exact⟨14,Uf,Uf,rfl,rN (l:=zdh) Us (Ds w _),Zb.alloc Zr _⟩
def zdi:List C3:=[⟨#[97,91,120,32,38,32,51,93,32,61,32,121,59]⟩,⟨#[121,32,61,32,97,91,120,93,59]⟩,⟨#[120,32,61,32,120,32,43,32,97,91,48,93,59]⟩,⟨#[112,114,105,110,116,40,97,91,49,93,32,43,32,97,91,121,32,38,32,51,93,41,59]⟩,⟨#[97,91,120,93,32,61,32,97,91,121,93,32,43,32,49,59]⟩,⟨#[120,32,61,32,49,59]⟩,⟨#[121,32,61,32,50,59]⟩,⟨#[97,91,48,93,32,61,32,114,101,97,100,40,41,59]⟩,⟨#[119,104,105,108,101,32,40,120,32,60,32,52,41,32,123,32,97,91,120,93,32,61,32,120,32,42,32,121,59,32,120,32,61,32,120,32,43,32,49,59,32,125]⟩,⟨#[105,102,32,40,97,91,120,32,38,32,51,93,32,62,32,50,41,32,123,32,97,91,48,93,32,61,32,48,59,32,125,32,101,108,115,101,32,123,32,121,32,61,32,97,91,51,93,59,32,125]⟩,⟨#[120,32,61,32,121,32,47,32,97,91,50,93,59]⟩,⟨#[121,32,61,32,121,32,37,32,51,59]⟩,⟨#[97,91,97,91,48,93,32,38,32,51,93,32,61,32,97,91,97,91,49,93,32,38,32,51,93,59]⟩,⟨#[112,114,105,110,116,40,97,91,48,93,32,45,32,120,41,59]⟩]
theorem ZG(w:C4):Cz 46 #[(2:Int)] w (zAr w):=by
 go_enter func46,ntmps46;go_wp2_with fail;go_ret;exact⟨14,Uf,Uf,rfl,rN (l:=zdi) Us (Ds w _),Zb.alloc Zr _⟩
def zdj:List C3:=[⟨#[120,32,61,32,102,40,120,44,32,98,41,59]⟩,⟨#[121,32,61,32,102,40,121,44,32,33,98,41,32,43,32,102,40,120,44,32,116,114,117,101,41,59]⟩,⟨#[98,32,61,32,103,40,120,41,59]⟩,⟨#[112,114,105,110,116,40,102,40,49,44,32,102,97,108,115,101,41,41,59]⟩,⟨#[105,102,32,40,103,40,121,41,41,32,123,32,120,32,61,32,104,40,51,41,59,32,125]⟩,⟨#[121,32,61,32,104,40,120,32,38,32,55,41,59]⟩,⟨#[102,40,120,44,32,98,41,59]⟩,⟨#[120,32,61,32,120,32,38,32,49,53,59]⟩,⟨#[99,32,61,32,103,40,104,40,52,41,41,32,38,38,32,98,59]⟩,⟨#[97,91,49,93,32,61,32,102,40,97,91,49,93,44,32,99,41,59]⟩,⟨#[119,104,105,108,101,32,40,103,40,120,41,32,38,38,32,120,32,60,32,57,41,32,123,32,120,32,61,32,120,32,43,32,102,40,50,44,32,99,41,59,32,125]⟩,⟨#[114,101,116,117,114,110,32,104,40,120,32,38,32,51,41,59]⟩,⟨#[121,32,61,32,114,101,97,100,40,41,59]⟩,⟨#[112,114,105,110,116,40,105,56,40,120,41,32,43,32,117,49,54,40,121,41,32,45,32,126,120,41,59]⟩]
theorem ZH(w:C4):Cz 46 #[(3:Int)] w (zAr w):=by
 go_enter func46,ntmps46;go_wp2_with fail;go_ret;exact⟨14,Uf,Uf,rfl,rN (l:=zdj) Us (Ds w _),Zb.alloc Zr _⟩
theorem VG(R:Int)(P:∀w,Cz 46 #[(R:Int)] w (zAr w))(B:Nat)(b y n c:Nat)(w:C4)(Q:fO B w)(K:B<=w.heap.size)(_:n<=9223372036854775807)(af:b<w.heap.size)(M:∀k,k<n->∃z:Int,0<=z/\z<=255/\w.cell? ⟨b,y+k,none⟩=some (.int .u8 z)):
 Cz 25 #[(R:Int),.slice (some ⟨b,y,none⟩) n c] w (nO w):=by
 have I:=U Q;have S:=U M;have V:=U P;have X:=U (Rb.start w);clear Q M P;go_enter func25,ntmps25
 go_wp2_with (go_at_call 46;(with_reducible refine(V.o _).mono ?_);rintro e x ⟨m,_,_,rfl,L,i⟩
              have W:=U (show ZD m x (w.heap.size+1)by have J:=L;rw[zA]at J;exact J);have A:=U i
              clear L i)
 have au:w.heap.size+1<=x.heap.size:=by have:=A.o.size;simpa using this
 have H:=U (X.o.below A.o);have ar:((m:Int) == 0)=false:=Ug
 have T:=U (show ∀k,k<n->∃z:Int,0<=z/\z<=255/\x.cell? ⟨b,y+k,none⟩=some (.int .u8 z)from fun k N=>by
            obtain⟨z,ab,ad,ae⟩:=S.o k N
            exact⟨z,ab,ad,(((Zb.alloc Zr _).trans (A.o.mono Uh)).cell (p:=(b,y+k)) af).trans ae⟩)
 go_loop [5,7] (fun an iv=>∃(k:Nat) (s:C3),k<=n/\k<=10/\iv=.int .i64 k/\an=.string s/\s.size<=400+101*k) (fun _ iv=>10-(intOf iv).toNat)
 case atStart=>exact⟨0,_,Dx _,O,rfl,rfl,Uf⟩
 case round=>
  obtain⟨k,r,N,_,rfl,rfl,_⟩:=hrel;by_cases ag:k<n
  .by_cases ao:k<10
   .obtain⟨z,_,_,_⟩:=T.o k ag
    have ap:0<=z % (m:Int):=Int.emod_nonneg _ O;have aq:z % (m:Int)<m:=Int.emod_lt_of_pos _ O;obtain⟨s,_,_⟩:=W.o (z % (m:Int)).toNat O;go_wp2;go_round
    case rel=>exact⟨k+1,_,O,O,by go_num,rfl,(by rw[ByteArray.size_append,ByteArray.size_append,show(⟨#[10]⟩:C3).size=1 from rfl];omega)⟩
    case measure=>simp[intOf];omega
   .have e:k=10:=by omega
    exact Ue
  .have e:k=n:=by omega
   exact Ue
theorem ZI(A:Int)(x:∀w,Cz 46 #[(A:Int)] w (zAr w))(B:Nat)(C:Option Addr)(c:Nat)(w:C4)(y:fO B w)(M:B<=w.heap.size):
 Cz 25 #[(A:Int),.slice C 0 c] w (nO w):=by
 have K:=U y;have G:=U x;have H:=U (Rb.start w);clear y x;go_enter func25,ntmps25
 go_wp2_with (go_at_call 46;(with_reducible refine(G.o _).mono ?_);rintro e j ⟨m,_,_,rfl,q,g⟩
              have P:=U (show ZD m j (w.heap.size+1)by have n:=q;rw[zA]at n;exact n);have l:=U g
              clear q g)
 have S:w.heap.size+1<=j.heap.size:=by have:=l.o.size;simpa using this
 have I:=U (H.o.below l.o);have Q:((m:Int) == 0)=false:=Ug
 go_loop [5,7] (fun N iv=>iv=.int .i64 0/\∃s:C3,N=.string s/\s.size<=400) (fun _ _=>0)
 case atStart=>exact⟨rfl,_,rfl,Uf⟩
 case round=>
  obtain⟨rfl,r,rfl,_⟩:=hrel
  go_upto_region 8 with(go_at_call 13;(with_reducible refine(l1 _).mono ?_);rintro e k ⟨p,_,_,t,a,d,b,f,rfl,g,u⟩
                        have J:=U (vG t);have D:=U g;have E:=U u;have R:j.heap.size<=k.heap.size:=g.size
                        clear t g u)
  have F:=U (E.o.keep (zL.wb (Zb.alloc Zr (qQ a p.wa.length d b p.funcs.length f))) Zr);have i:=U ((I.o.below D.o).alloc (qQ a p.wa.length d b p.funcs.length f));have z:=Ds k (qQ a p.wa.length d b p.funcs.length f);generalize k.alloc (qQ a p.wa.length d b p.funcs.length f)=W8 at *;obtain⟨⟨_,_⟩,_⟩:=ki z;obtain⟨⟨_,_⟩,_⟩:=i.o.own;clear z;obtain⟨L,f1⟩:=i.o.read (.slice a p.wa.length d) (.slice b p.funcs.length f);go_wp2_with fail;refine bodyPost_ret (v:=.agg #[(a,p.wa.length,d),(b,p.funcs.length,f)]) (by simp[results,results25,go_sem,L,f1]) rfl ?_;exact i.o.good1 K.o M F.o O J.o
theorem zAs(a:Int)(_:0<=a)(_:a<=3)(B:Nat)(v:C5)(w:C4)(f:fO B w)(d:B<=w.heap.size)(p:j6 w v):Cz 25 #[(a:Int),v] w (nO w):=by
 have e:∀w,Cz 46 #[(a:Int)] w (zAr w):=by
  have i:a=0\/a=1\/a=2\/a=3:=O
  rcases i with rfl|rfl|rfl|rfl
  .exact ZE
  .exact ZF
  .exact ZG
  .exact ZH
 obtain⟨g,n,c,rfl,o,k⟩:=p;by_cases j:0<n
 .obtain⟨b,q,rfl,l,m⟩:=k j
  exact VG a e B b q n c w f d o l m
 .rw[show n=0 by omega]
  exact ZI a e B g c w f d
def zcb(v:C5):Prop:=∀n c,v=.slice none n c->c=0
end Go.Proofs.YthcmenajdcbnnaaGreatDoor
namespace Go.Proofs.YthcmenajdcbnnaaGreatDoor
open _root_.Go.Proofs.Tryz
open Go.ChangeShapes Go.WideShapes Go.ChangeAt Go.RowKit
variable{w W:C4}
theorem own:ownKnob Tryz.prog.godebug=none:=by kernel_rfl
theorem uF:laidOutB Tryz.prog=true:=by kernel_rfl
abbrev qo:List (String × DataW Unit):=[("boxhedge/wrap.rows",Rows.laid_boxhedge_wrap_rows)]
theorem VH(h:laidMetH Tryz.prog qo W):laidMet Tryz.prog qo W:=by
 rw[MakeChecks.laidMetH_plain _ _ _ (by kernel_rfl)]at h;exact h
theorem zcc:Tryz.prog.globalNamed "boxhedge/wrap.rows" =some 0:=by kernel_rfl
theorem zcd:(Tryz.prog.globals[0]?).map (·.type)=some 233:=by kernel_rfl
theorem HV:Tryz.prog.cellsOf 230=2:=by kernel_rfl
theorem VI:Tryz.prog.cellsOf 9=1:=by kernel_rfl
theorem VJ:Tryz.prog.cellsOf 3=1:=by kernel_rfl
theorem KL{s:C3}{l:List UInt8}(h:s.data.toList=l):s=⟨l.toArray⟩:=by
 subst h;cases s;simp
theorem P5{W:C4}{o:Nat}{a:List C5}{b:List UInt8}{n:Int}{p:List MemPlace}
 (q:DataW.trod (fun _=>()) Tryz.prog W 0 (fun _=>true) false o 230 a=some (.agg [.lit (.string b),.lit (.int .i64 n)],p)):
 a[0]?=some (.string ⟨b.toArray⟩)/\a[1]?=some (.int .i64 n):=by
 obtain⟨_,_,m,i,g,e,f⟩:=trod_struct2 underlying230 q;rw[VI]at e;rw[VJ]at f;obtain⟨s,c,j,_⟩:=DataW.trod_string underlying9 e;obtain⟨k,d,l,_⟩:=DataW.trod_int underlying3 f;subst j l;simp only[Prod.mk.injEq,DataW.agg.injEq,Cb,DataW.lit.injEq,Lit.string.injEq,Lit.int.injEq,true_and,and_true]at i;obtain⟨⟨t,r⟩,_⟩:=i;rw[HV]at g
 match a,g with
 |[c0,c1],_=>
   simp at c d;subst c d r;refine⟨?_,rfl⟩;rw[KL t.symm];rfl
theorem EC(n:laidMet Tryz.prog [("boxhedge/wrap.rows",Rows.laid_boxhedge_wrap_rows)] W):Z9 W:=by
 obtain⟨ps,⟨_,_,a,_,_,_,f,r,s,o,_,_⟩,_,_⟩:=n;obtain rfl:=Ca (zcc.symm.trans f);obtain rfl:=Ca (zcd.symm.trans r);obtain⟨v,_,rfl,u,_,_,q⟩:=DataW.trod_array underlying233 o;intro k _
 have e:∀j,W.cell? ⟨0,j,none⟩=a.toList[j]?:=by
  intro j;have:=World.var?_cell f s j;simpa using this
 have b:=q k O;rw[HV]at b
 have i:(v.map (·.1))[k]?=some (.agg [.lit (.string (zbo.getD k [])),.lit (.int .i64 (zbp.getD k 0))]):=by
  have c:=congrArg Prod.fst u;unfold Rows.laid_boxhedge_wrap_rows at c;simp only[DataW.agg.injEq]at c;rw[<-c];obtain rfl|rfl|rfl|rfl|rfl|rfl|rfl|rfl|rfl|rfl|rfl|rfl|rfl|rfl|rfl|rfl|rfl|rfl|rfl|rfl|rfl|rfl|rfl|rfl|rfl|rfl|rfl|rfl|rfl:k=0\/k=1\/k=2\/k=3\/k=4\/k=5\/k=6\/k=7\/k=8\/k=9\/k=10\/k=11\/k=12\/k=13\/k=14\/k=15\/k=16\/k=17\/k=18\/k=19\/k=20\/k=21\/k=22\/k=23\/k=24\/k=25\/k=26\/k=27\/k=28:=O
  all_goals rfl
 rw[Yn]at i;obtain⟨x,t,g⟩:=Option.map_eq_some_iff.1 i;rw[t]at b;obtain⟨d,p⟩:=x;simp only at g;subst g;obtain⟨l,m⟩:=P5 b;rw[e,e];refine⟨?_,?_⟩
 .have:a.toList[k*2]?=((a.toList.drop (k*2)).take 2)[0]?:=by simp[List.getElem?_drop]
  rw[this,l];rfl
 .have:a.toList[k*2+1]?=((a.toList.drop (k*2)).take 2)[1]?:=by simp[List.getElem?_drop]
  rw[this,m];rfl
theorem uG(b:laidMetH Tryz.prog qo W):fO W.heap.size W:=by
 have a:=EC (VH b);exact⟨block_lt_of_cell (a 0 O).1,a⟩
theorem j7(os:Os)(tc:Array C5):laidMetH Tryz.prog qo ((World.laidAll Tryz.prog os qo).forCall (fun _ _=>0) ⟨#[],tc,[]⟩).memory:=by
 rw[MakeChecks.laidMetH_plain _ _ _ (by kernel_rfl)];exact laidMet_laidAll _ (by kernel_rfl) (by kernel_rfl)
theorem nQ{H:Type}{enc:TypeId×C5->H}{r:Nat}{v:C5}{d:DataW H}{p:List MemPlace}(s:DataW.Trod enc Tryz.prog W 0 (fun _=>true) true 22 v d p)(y:Value.okWide Tryz.prog W .any r 22 v):j6 W v:=by
 obtain⟨_,GN,g,rfl⟩:=okWide_slice underlying22 y;obtain⟨_,t⟩:=s;rcases open_ints underlying22 underlying5 (by kernel_rfl) t with⟨a,_⟩|⟨x,l,c,q,a,_,_,u,z,_,m,o⟩
 .simp[Value.cells]at a
  obtain⟨rfl,rfl,rfl⟩:=a;exact⟨none,0,0,rfl,O,fun n=>absurd n O⟩
 .simp[Value.cells]at a
  obtain⟨rfl,rfl,rfl⟩:=a;have B:q.length=g:=by simpa using z
  refine⟨_,GN,g,rfl,by unfold maxLen at u;omega,fun n=>?_⟩;obtain⟨b,f,A⟩:=x;have e:=m 0 O;have w:A=none:=by simpa[Addr.add]using World.cell?_spot e
  subst w;have j:∀k,(⟨b,f,none⟩:Addr).add k=⟨b,f+k,none⟩:=fun k=>Je
  refine⟨b,f,rfl,?_,fun k _=>?_⟩
  .rw[j]at e
   exact block_lt_of_cell e
  .have i:=m k O
   rw[j]at i;exact⟨q.getD k 0,(range_u8 o k).1,(range_u8 o k).2,i⟩
theorem rO{H:Type}{enc:TypeId×C5->H}{z:Nat}{v:C5}{d:DataW H}{p:List MemPlace}(B:DataW.Trod enc Tryz.prog W 0 (fun _=>true) true 23 v d p)(J:Value.okWide Tryz.prog W .any z 23 v)(M:∀n∈d.weights Tryz.prog 23,n<=reachBytes):∃l,g5 W.heap.size W v l/\fR l/\zcb v:=by
 obtain⟨_,GN,q,rfl⟩:=okWide_slice underlying23 J;obtain⟨_,E⟩:=B;rcases open_ints underlying23 underlying3 (by kernel_rfl) E with⟨a,_⟩|⟨x,l,c,f,a,_,_,_,L,D,w,K⟩
 .simp[Value.cells]at a
  obtain⟨rfl,rfl,rfl⟩:=a;exact⟨[],L0 _ _,L1,fun n c e=>by injection e with _ _ r;exact r.symm⟩
 .simp[Value.cells]at a
  obtain⟨rfl,rfl,rfl⟩:=a;have Q:f.length=q:=by simpa using L
  have m:(f.take GN).length=GN:=Vu
  obtain⟨C,_⟩:=Prod.mk.inj D;subst C;have y:=M (((lits (H:=H) .i64 (f.take GN)).length+(lits (H:=H) .i64 (f.drop GN)).length)*Tryz.prog.bytesOf 3) (by simp[DataW.weights,underlying23]);rw[show Tryz.prog.bytesOf 3=8 by kernel_rfl]at y;simp only[lits,Yh,Yg,Ys,reachBytes]at y;refine⟨f.take GN,⟨⟨some x,q,by rw[m],by rw[m];omega,fun G=>?_⟩,fun _ n c e=>by injection e with _ _ r;omega⟩,fun n F=>bounds_i64 (K n (List.mem_of_mem_take F)),fun n c e=>Uv⟩;rw[m]at G;obtain⟨b,o,N⟩:=x;have g:=w 0 O;have I:N=none:=by simpa[Addr.add]using World.cell?_spot g
  subst I;have u:∀k,(⟨b,o,none⟩:Addr).add k=⟨b,o+k,none⟩:=fun k=>Je
  rw[u]at g;refine⟨b,o,rfl,CJ (block_lt_of_cell g) _ _ fun j t i=>?_⟩;have P:=(List.getElem?_eq_some_iff.1 i).1;rw[Y8,Dq O]at i;have s:=w j O;rw[u,Yl,i]at s;exact s
theorem ED{a:Int}(h:(Lit.int .u8 a).wf=true):∃n:Nat,a=n/\n<=255:=by
 obtain⟨_,_⟩:=bounds_u8 h;exact⟨a.toNat,O,O⟩
