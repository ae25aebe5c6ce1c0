import Derived.Test.YthcmenajdcbnnaaGreatDoorAnEvAw
set_option linter.unusedSimpArgs false
set_option linter.unusedVariables false
set_option maxRecDepth 100000
set_option maxHeartbeats 99000000
namespace Go.Proofs.YthcmenajdcbnnaaGreatDoor
open Go.RowKit Tryz
theorem Ua{p:Prop}(h:p:=by
 first
 | (simp only[ByteArray.size_append,zP,Dp,Du]
    omega)
 |omega):p:=h
theorem Ub{p:Prop}(h:p:=by
 .by_cases ao:vs=⟨#[122]⟩
  .have aB:=yC ao
   go_wp2_with fail;go_ret;refine⟨_,G,rfl,?_,O,O,f.o,g.o⟩;exact Ua
  .have aB:(vs.toList == [122])=false:=by have:=yD ao;rwa [show(⟨#[122]⟩:C2).toList=[122]by decide+kernel]at this
   go_wp2_with (go_at_call 76;(with_reducible refine(x9 (q:=4) (g.o.alloc _) O Up Up).mono ?_);rintro e w9 ⟨u,M,P,rfl,a,c⟩
                obtain⟨Q,av,t⟩:=km r [⟨#[120]⟩,⟨#[120,32,43,32,49]⟩,⟨#[48]⟩,(⟨#[102,40,120,44,32]⟩++bs++⟨#[41]⟩)] 40 (fun s A=>Gv) 9 M (show u<4 from P);have ar:w9.cell? (r.heap.size,u.toNat)=some (.string Q):=(a.cell Ut (by have:=g.o.lt;omega)).trans (t r);have au:r.heap.size<w9.heap.size:=Xj
                obtain⟨K,L⟩:∃x,x=G+1:=⟨_,rfl⟩
                rw[<-L]at c;have I:=U c;have J:=U ((f.o.alloc g.o.lt f.o.size _).trans (a.mono Hv))
                clear a c t)
   go_ret;refine⟨_,K,rfl,?_,O,O,J.o,I.o⟩
   exact Ua):p:=h
theorem Uc{p:Prop}(h:p:=by
 .go_wp2_with (go_at_call 76;(with_reducible refine(x9 (q:=4) (g.o.alloc _) O Up Up).mono ?_);rintro e w9 ⟨u,M,P,rfl,a,c⟩
               obtain⟨Q,av,t⟩:=km r [⟨#[98,114,101,97,107,59,10]⟩,⟨#[99,111,110,116,105,110,117,101,59,10]⟩,(⟨#[105,102,32,40]⟩++bs++⟨#[41,32,123,10,98,114,101,97,107,59,10,125,10]⟩),(⟨#[105,102,32,40]⟩++vs++⟨#[32,62,32,51,41,32,123,10,99,111,110,116,105,110,117,101,59,10,125,10]⟩)] 40 (fun s A=>Gv) 9 M (show u<4 from P);have ar:w9.cell? (r.heap.size,u.toNat)=some (.string Q):=(a.cell Ut (by have:=g.o.lt;omega)).trans (t r);have au:r.heap.size<w9.heap.size:=Xj
               obtain⟨K,L⟩:∃x,x=G+1:=⟨_,rfl⟩
               rw[<-L]at c;have I:=U c;have J:=U ((f.o.alloc g.o.lt f.o.size _).trans (a.mono Hv))
               clear a c t)
  go_ret;refine⟨_,K,rfl,?_,O,O,J.o,I.o⟩
  exact Ua):p:=h
theorem Ud{p:Prop}(h:p:=by
 have af:r<5:=O
 have X:(r == 5)=false:=Uq
 have Y:(r == 6)=false:=Uq
 have Z:(r == 7)=false:=Uq
 have ad:r<11:=O
 have V:(r == 11)=false:=Uq
 have W:(r == 12)=false:=Uq
 go_wp2_with (go_at_call 76;(with_reducible refine(x9 (q:=6) (i.o.alloc _) O Up Up).mono ?_);rintro e n ⟨T,av,ax,rfl,a,c⟩
              obtain⟨d,S,f⟩:=km l [⟨#[48]⟩,⟨#[49]⟩,⟨#[50]⟩,⟨#[55]⟩,⟨#[50,53,53]⟩,⟨#[54,52]⟩] 3 Up 9 av (show T<6 from ax);have aU:n.cell? (l.heap.size,T.toNat)=some (.string d):=(a.cell Ut Jy).trans (f l);have a6:l.heap.size<n.heap.size:=Xj
              obtain⟨G,aj⟩:∃x,x=C+1:=⟨_,rfl⟩
              rw[<-aj]at c;have s:=U c;have u:=U ((g.o.alloc i.o.lt g.o.size _).trans (a.mono Jn))
              clear a c f)
 go_ret;refine⟨_,G,rfl,?_,O,O,u.o,s.o⟩
 exact Ua):p:=h
theorem Ue{p:Prop}(h:p:=by
 have aa:(d == 3)=false:=Uq
 have ab:(d == 4)=false:=Uq
 have ad:(d == 5)=false:=Uq
 have ae:(d == 6)=false:=Uq
 have af:(d == 7)=false:=Uq
 have aj:d<10:=O
 have ak:d<12:=O
 have Z:(d == 12)=false:=Uq
 go_wp2_with (go_at_call 39;(with_reducible refine(uG (m:=2) (D:=2) Up Up g.o O l k).mono ?_);rintro e F ⟨E,n,rfl,B,z,C,a,c⟩
              have j:=U c;have i:=U (f.o.trans (a.mono f.o.size))
              clear a c)
 go_ret;refine⟨_,n,rfl,?_,O,O,i.o,j.o⟩
 exact Ua):p:=h
theorem Uf{p:Prop}(h:p:=by
 rcases(show V=1\/¬V=1 from by omega)with rfl|aM
 .go_wp2_with (go_at_call 38;(with_reducible refine(wF.call (D:=D-1) X.o Y W.o S.o O l k).mono ?_);rintro e aY ⟨aW,az,rfl,aU,aQ,aV,a,c⟩
               have aw:=U c;have ax:=U (T.o.trans (a.mono T.o.size))
               clear a c)
  go_ret;refine⟨_,az,rfl,?_,O,O,ax.o,aw.o⟩;exact Ua
 .have aN:(V == 1)=false:=by simp;omega
  go_wp2_with fail;go_ret;refine⟨_,ay,rfl,?_,O,O,T.o,S.o⟩
  exact Ua):p:=h
theorem Ug{p:Prop}(h:p:=by
 have af:r<5:=O
 have X:(r == 5)=false:=Uq
 have Y:(r == 6)=false:=Uq
 have Z:(r == 7)=false:=Uq
 have ad:r<11:=O
 have V:(r == 11)=false:=Uq
 have W:(r == 12)=false:=Uq
 go_wp2_with fail;go_ret;refine⟨_,C,rfl,?_,O,O,g.o,i.o⟩
 exact Ua):p:=h
theorem Uh{p:Prop}(h:p:=by
 have au:r<3:=O
 have an:(r == 3)=false:=Uq
 have av:r<7:=O
 have ao:(r == 7)=false:=Uq
 have ap:(r == 8)=false:=Uq
 go_wp2_with fail;go_ret;refine⟨_,I,rfl,?_,O,O,g.o,p.o⟩
 exact Ua):p:=h
theorem Ui{p:Prop}(h:p:=by
 go_ret;refine⟨_,C,rfl,?_,O,O,g.o,i.o⟩
 exact Ua):p:=h
theorem Uj{p:Prop}(h:p:=by
 go_ret;refine⟨_,n,rfl,?_,O,O,i.o,j.o⟩
 exact Ua):p:=h
theorem Uk{p:Prop}(h:p:=by
 go_ret;refine⟨_,G,rfl,?_,O,O,f.o,g.o⟩
 exact Ua):p:=h
theorem Ul{p:Prop}(h:p:=by
 go_ret;refine⟨_,s,rfl,?_,O,O,i.o,f.o⟩
 exact Ua):p:=h
theorem Um{p:Prop}(h:p:=by
 have ak:d<12:=O
 have Z:(d == 12)=false:=Uq
 go_wp2_with fail
 exact Uk):p:=h
theorem Un{p:Prop}(h:p:=by
 go_quiet (fail)
 go_wp2_with fail;go_ret
 exact⟨0,O,s,rfl,d.o.drewN _,f.o⟩):p:=h
theorem Uo{p:Prop}(h:p:=by
 match d,a with
 |0,_=>decide
 |1,_=>decide
 |2,_=>decide
 |3,_=>decide):p:=h
variable{N b a m:Nat}{w:C3}{v:C4}{vs bs:C2}{D:Int}
abbrev mkO(v:C4)(a:Int):Obj:=.cells #[v,(a:Int)] 85
def oW(N b:Nat)(w:C3)(v:C4):Prop:=∃a n c,v=.slice a n c/\n<=9223372036854775807/\∀k,k<n->∃g d,a=some ⟨g,d,none⟩/\g<N/\g≠b/\∃z:Int,0<=z/\z<=255/\w.cell? ⟨g,d+k,none⟩=some (.int .u8 z)
theorem oW.off{w':C3}(f:oW N b w v)(r:dX b N w w'):oW N b w' v:=by
 obtain⟨e,n,c,rfl,q,j⟩:=f;refine⟨e,n,c,rfl,q,fun k p=>?_⟩;obtain⟨g,s,o,d,a,z,i,l,m⟩:=j k p;exact⟨g,s,o,d,a,z,i,l,(r.cell d a).trans m⟩
theorem WO(b a N:Nat)(v:C4)(q:Int)(w:C3)(j:w.heap[b]?=some (mkO v a))(L:oW N b w v)(_:N<=w.heap.size)(_:a<=1000000000)(s:0<q)(_:q<=1000000):
 Cy 76 #[(b,0),(q:Int)] w fun e w'=>∃r:Int,0<=r/\r<q/\e=.returned (r:Int)/\dX b w.heap.size w w'/\w'.heap[b]?=some (mkO v ((a+1 :Nat):Int)):=by
 obtain⟨E,n,c,rfl,_,y⟩:=L;have u:b<w.heap.size:=zB j;obtain⟨⟨_,_⟩,_⟩:=zD j;have Q:=U j;have F:=U y;have B:(w.setCell (b,1) (((a:Int)+1):Int)).heap[b]?=some (mkO (.slice E n c) ((a+1 :Nat):Int)):=D0 j _;have A:dX b w.heap.size w (w.setCell (b,1) (((a:Int)+1):Int)):=(dX.refl _ _ _).setb u 1 _;have D:(w.setCell (b,1) (((a:Int)+1):Int)).heap.size=w.heap.size:=Uu
 have f:=U B;have d:=U A;have k:=U D;clear j y B A D;go_enter func76,ntmps76;go_upto_region 2 with fail;obtain⟨l,p⟩:∃x,x=w.setCell (b,1) (((a:Int)+1):Int):=⟨_,rfl⟩
 rw[<-p]at f d k;simp only[<-p];have R:b<l.heap.size:=by rw[k.o];exact u
 obtain⟨⟨_,_⟩,_⟩:=zD f.o;clear p;have M:(n:Int)<(a:Int)+1\/¬(n:Int)<(a:Int)+1/\(120 :Int)<(a:Int)+1\/¬(n:Int)<(a:Int)+1/\¬(120 :Int)<(a:Int)+1:=O
 rcases M with i|⟨i,m⟩|⟨i,m⟩
 .have t:decide ((n:Int)<(a:Int)+1)=true:=by simpa using i
  exact Un
 .have t:decide ((n:Int)<(a:Int)+1)=false:=by simpa using i
  have G:decide ((120 :Int)<(a:Int)+1)=true:=by simpa using m
  exact Un
 .have t:decide ((n:Int)<(a:Int)+1)=false:=by simpa using i
  have G:decide ((120 :Int)<(a:Int)+1)=false:=by simpa using m
  have I:a<n:=O
  obtain⟨g,P,rfl,_,H,z,_,_,C⟩:=F.o a I;have S:g<l.heap.size:=by rw[k.o];omega
  have V:l.cell? (g,P+a)=some (.int .u8 z):=(d.o.cell O H).trans C;have J:0<=z % q:=Int.emod_nonneg _ O;have K:z % q<q:=Int.emod_lt_of_pos _ s;have T:(a:Int)<n:=O
  clear C
  go_quiet (fail)
  go_wp2_with fail
  go_quiet (fail)
  go_wp2_with fail;go_ret;exact⟨z % q,J,K,rfl,(d.o.drewN _).drewN _,f.o⟩
structure eX (b N:Nat) (v:C4) (a:Nat) (w:C3):Prop where
 box:w.heap[b]?=some (mkO v (a:Int))
 bytes:oW N b w v
 le:N<=w.heap.size
section
variable {b N a a':Nat}{v:C4} {w w':C3}
theorem eX.lt(h:eX b N v a w):b<w.heap.size:=zB h.box
theorem eX.step(c:eX b N v a w)(d:dX b w.heap.size w w')(e:w'.heap[b]?=some (mkO v (a':Int))):eX b N v a' w':=⟨e,c.bytes.off (d.mono c.le),Dr c.le d.size⟩
theorem eX.below(c:eX b N v a w)(d:Cx w w'):eX b N v a w':=c.step (dX.wb d c.lt) ((d.block b c.lt).trans c.box)
theorem eX.alloc(h:eX b N v a w)(o:Obj):eX b N v a (w.alloc o):=h.below (Zb.alloc Zr o)
theorem eX.drew(h:eX b N v a w):eX b N v a w.drew:=h.below Zb.drew
end
def yI(S P b N:Nat)(v:C4)(a:Nat)(w:C3)(e:Ending)(w':C3):Prop:=
 ∃(s:C2) (a':Nat),e=.returned (.string s)/\s.size<=S/\a<=a'/\a'<=a+P/\dX b w.heap.size w w'/\eX b N v a' w'
theorem x9(c:eX b N v a w)(i:a<=1000000000){q:Int}(k:0<q)(l:q<=1000000):
 Cy 76 #[(b,0),(q:Int)] w fun e w'=>∃r:Int,0<=r/\r<q/\e=.returned (r:Int)/\dX b w.heap.size w w'/\eX b N v (a+1) w':=
 (WO b a N v q w c.box c.bytes c.le i k l).mono fun _ _ ⟨r,f,g,j,d,m⟩=>⟨r,f,g,j,d,c.step d m⟩
theorem km(w:C3)(L:List C2)(n:Nat)(c:∀s∈L,s.size<=n)(T:TypeId){r:Int}(_:0<=r)(_:r<(L.length:Int)):
 ∃b:C2,b.size<=n/\∀W:C3,(W.alloc (.cells (L.map Value.string).toArray T)).cell? (W.heap.size,r.toNat)=some (.string b):=by
 have a:r.toNat<L.length:=O
 refine⟨L[r.toNat],c _ (List.getElem_mem a),fun W=>(Ds (Dq W _) r.toNat).trans ?_⟩;rw[List.getElem?_toArray,Yl,Dz a];rfl
def q1:Nat->Nat
 |0=>12
 |d+1=>2*q1 d+8
def pD:Nat->Nat
 |0=>3
 |d+1=>2*pD d+2
theorem DS(d:Nat):12<=q1 d:=by induction d with|zero=>exact Dy _|succ d _=>rw[q1];omega
theorem WP(d:Nat):d<=q1 d:=by induction d with|zero=>exact Dw _|succ d _=>rw[q1];omega
theorem MO(d:Nat):3<=pD d:=by induction d with|zero=>exact Dy _|succ d _=>rw[pD];omega
def hR(m:Nat):Prop:=q1 m<=1000000->∀(b N a:Nat) (v:C4) (vs bs:C2) (D:Int) (w:C3),D=(m:Int)->eX b N v a w->a+pD m<=1000000000->vs.size<=1->bs.size<=1->
 Cy 39 #[(b,0),vs,bs,(D:Int)] w (yI (q1 m) (pD m) b N v a w)
def wD(m:Nat):Prop:=q1 m<=1000000->∀(b N a:Nat) (v:C4) (vs bs:C2) (D:Int) (w:C3),D=(m:Int)->eX b N v a w->a+pD m<=1000000000->vs.size<=1->bs.size<=1->
 Cy 40 #[(b,0),vs,bs,(D:Int)] w (yI (q1 m) (pD m) b N v a w)
theorem hR.call(c:hR m)(d:q1 m<=1000000)(e:D=(m:Int))(f:eX b N v a w)(g:a+pD m<=1000000000)(i:vs.size<=1)(j:bs.size<=1):
 Cy 39 #[(b,0),vs,bs,(D:Int)] w (yI (q1 m) (pD m) b N v a w):=c d b N a v vs bs D w e f g i j
theorem wD.call(c:wD m)(d:q1 m<=1000000)(e:D=(m:Int))(f:eX b N v a w)(g:a+pD m<=1000000000)(i:vs.size<=1)(j:bs.size<=1):
 Cy 40 #[(b,0),vs,bs,(D:Int)] w (yI (q1 m) (pD m) b N v a w):=c d b N a v vs bs D w e f g i j
theorem iW{l:List C4}{T:TypeId}{j:Nat}{c:C4}(d:(w.alloc (.cells l.toArray T)).cell? (w.heap.size,j)=some c)(b:j<l.length):l[j]'b=c:=by
 have a:=(Ds (Dq w (.cells l.toArray T)) j).symm.trans d;rw[List.getElem?_toArray,Dz b]at a;exact Cr a
theorem zP(l:List UInt8):(⟨l.toArray⟩:C2).size=l.length:=rfl
theorem H3(m:Nat)(aJ:∀m',m'+1=m->hR m'/\wD m'):hR m:=by
 intro _ b N aO v vs bs D w aB aD _ L J;have bh:=MO m;have bl:=DS m;have aL:=U aD;have a9:=U (dX.refl b w.heap.size w);have bj:w.heap.size<=w.heap.size:=Dy _;have aK:=U aJ;have ah:=U aB;clear aD aJ aB;go_enter func39,ntmps39
 go_upto_region 2 with(go_at_call 76;(with_reducible refine(x9 (q:=14) aL.o O Up Up).mono ?_);rintro e l ⟨ag,au,aw,rfl,a,c⟩
                       obtain⟨C,aT⟩:∃x,x=aO+1:=⟨_,rfl⟩
                       rw[<-aT]at c;have i:=U c;have g:=U a
                       clear a c)
 by_cases aX:m=0
 case pos=>
  subst aX;have aS:D=0:=by have:=ah.o;simpa using this
  subst aS;have aF:0<=ag % 6:=Int.emod_nonneg _ O;have aG:ag % 6<6:=Int.emod_lt_of_pos _ O;go_upto_region 4 with fail;generalize ag % 6=r at *;have a2:=aF;have a3:=aG;clear au aw aF aG;rcases(show(0<=r/\r<2)\/(2<=r/\r<5)\/r=5 from by omega)with⟨ab,aa⟩|⟨ab,aa⟩|rfl
  .have ae:r<2:=by omega
   exact Ud
  .have ae:¬r<2:=by omega
   exact Ug
  .go_wp2_with fail
   exact Ui
 case neg=>
  obtain⟨m',rfl⟩:∃m',m=m'+1:=⟨m-1,O⟩
  have I:=U (aK.o m' rfl);have ba:(1 :Int)<=D:=by have:=ah.o;omega
  have aC:D-1=(m':Int):=by have:=ah.o;omega
  have H:=U aC;have bc:D<=1000001:=He
  have bk:IntKind.i64.wrap (D-1)=D-1:=IntWalk.i64_in _ O;clear aC;have be:q1 (m'+1)=2*q1 m'+8:=rfl;have bd:pD (m'+1)=2*pD m'+2:=rfl;have K:q1 m'<=1000000:=O
  have bi:=MO m';have bm:=DS m';have bb:¬D<1:=O
  obtain⟨r,a1⟩:∃r,r=ag:=⟨_,rfl⟩
  subst a1;have a2:=au;have a3:=aw;go_upto_region 4 with fail;clear au aw;rcases(show(0<=r/\r<2)\/(2<=r/\r<5)\/r=5\/r=6\/r=7\/(8<=r/\r<11)\/r=11\/r=12\/r=13 from by omega)with⟨ab,aa⟩|⟨ab,aa⟩|rfl|rfl|rfl|⟨ab,aa⟩|rfl|rfl|rfl
  .have ae:r<2:=by omega
   exact Ud
  .have ae:¬r<2:=by omega
   exact Ug
  .go_wp2_with fail
   exact Ui
  .go_wp2_with (go_at_call 39;(with_reducible refine(hR.call (D:=D-1) I.o.1 K H.o i.o O L J).mono ?_);rintro e n ⟨p,G,rfl,aH,aE,aI,a,c⟩
                have s:=U c;have u:=U (g.o.trans (a.mono g.o.size))
                clear a c)
   go_ret;refine⟨_,G,rfl,?_,O,O,u.o,s.o⟩;exact Ua
  .go_upto_region 13 with fail
   go_region_law (first
    | (go_simp;go_at_call 76;(with_reducible refine(x9 (q:=5) i.o.drew O Up Up).mono ?_);rintro e w8 ⟨j,Q,R,rfl,a,c⟩
       obtain⟨d,S,f⟩:=km l [⟨#[45]⟩,⟨#[126]⟩,⟨#[105,56]⟩,⟨#[117,49,54]⟩,⟨#[105,51,50]⟩] 3 Up 9 Q (show j<5 from R);have al:=f w8;have an:∀t:j.toNat<5,([.string ⟨#[45]⟩,.string ⟨#[126]⟩,.string ⟨#[105,56]⟩,.string ⟨#[117,49,54]⟩,.string ⟨#[105,51,50]⟩]:List C4)[j.toNat]'t=.string d:=fun t=>iW (f w8) t
       obtain⟨ai,P⟩:∃x,x=C+1:=⟨_,rfl⟩
       rw[<-P]at c;have A:=U c;have z:=U f;have ap:¬9223372036854775807<d.size+1:=O
       have aA:l.heap.size<=w8.heap.size:=Vb
       have y:=C0 (dX b w.heap.size w w8) ((g.o.trans (dX.wb Zb.drew i.o.lt)).trans (a.mono g.o.size))
       clear a c f)
    | (go_simp;go_at_call 76;(with_reducible refine(x9 (q:=5) (i.o.alloc _).drew O Up Up).mono ?_);rintro e w8 ⟨j,Q,R,rfl,a,c⟩
       obtain⟨d,S,f⟩:=km l [⟨#[45]⟩,⟨#[126]⟩,⟨#[105,56]⟩,⟨#[117,49,54]⟩,⟨#[105,51,50]⟩] 3 Up 9 Q (show j<5 from R);have al:=f w8;have an:∀t:j.toNat<5,([.string ⟨#[45]⟩,.string ⟨#[126]⟩,.string ⟨#[105,56]⟩,.string ⟨#[117,49,54]⟩,.string ⟨#[105,51,50]⟩]:List C4)[j.toNat]'t=.string d:=fun t=>iW (f w8) t
       obtain⟨ai,P⟩:∃x,x=C+1:=⟨_,rfl⟩
       rw[<-P]at c;have A:=U c;have z:=U f;have ap:¬9223372036854775807<d.size+1:=O
       have aA:l.heap.size<=w8.heap.size:=Vb
       have y:=C0 (dX b w.heap.size w w8) (((g.o.alloc i.o.lt g.o.size (.cells #[.string ⟨#[45]⟩,.string ⟨#[126]⟩,.string ⟨#[105,56]⟩,.string ⟨#[117,49,54]⟩,.string ⟨#[105,51,50]⟩] 9)).trans (dX.wb Zb.drew (by have:=i.o.lt;rw[zA];omega))).trans (a.mono (by have:=g.o.size;show _<=(World.alloc _ _).heap.size;rw[zA];omega)));have ak:w8.cell? (l.heap.size,j.toNat)=some (.string d):=(a.cell Ja Jy).trans (z.o l);have a4:l.heap.size<w8.heap.size:=by have:=a.size;have aR:(l.alloc (.cells #[.string ⟨#[45]⟩,.string ⟨#[126]⟩,.string ⟨#[105,56]⟩,.string ⟨#[117,49,54]⟩,.string ⟨#[105,51,50]⟩] 9)).heap.size=l.heap.size+1:=zA _ _;have aQ:(l.alloc (.cells #[.string ⟨#[45]⟩,.string ⟨#[126]⟩,.string ⟨#[105,56]⟩,.string ⟨#[117,49,54]⟩,.string ⟨#[105,51,50]⟩] 9)).heap.size<=w8.heap.size:=this;omega
       clear a c f)
    | (go_simp;go_at_call 39;(with_reducible refine(hR.call (D:=D-1) I.o.1 K H.o A.o O L J).mono ?_);rintro e w9 ⟨B,M,rfl,ay,ao,az,a,c⟩
       have am:=z.o w9;have aq:¬9223372036854775807<d.size+1+B.size:=O
       have ar:¬9223372036854775807<d.size+1+B.size+1:=O
       have E:=U c;have F:=C0 (dX b w.heap.size w w9) (y.o.trans (a.mono y.o.size));have a8:w8.heap.size<=w9.heap.size:=a.size
       first
       | (have aV:=(a.cell (k:=l.heap.size) (o:=j.toNat) O Jy).trans ak
          have a5:l.heap.size<w9.heap.size:=O)
       |skip
       clear a c)
    | (go_simp;go_at_call 39;(with_reducible refine(hR.call (D:=D-1) I.o.1 K H.o (A.o.alloc _) O L J).mono ?_);rintro e w9 ⟨B,M,rfl,ay,ao,az,a,c⟩
       have am:=z.o w9;have aq:¬9223372036854775807<d.size+1+B.size:=O
       have ar:¬9223372036854775807<d.size+1+B.size+1:=O
       have E:=U c;have F:=C0 (dX b w.heap.size w w9) ((y.o.alloc A.o.lt y.o.size (.cells #[.string ⟨#[45]⟩,.string ⟨#[126]⟩,.string ⟨#[105,56]⟩,.string ⟨#[117,49,54]⟩,.string ⟨#[105,51,50]⟩] 9)).trans (a.mono Hw));have aW:w9.cell? (w8.heap.size,j.toNat)=some (.string d):=(a.cell Ut (by have:=A.o.lt;omega)).trans (z.o w8);have a7:w8.heap.size<w9.heap.size:=Xj
       clear a c))
   all_goals
    go_wp2_with fail;go_ret
    first
    | (refine⟨_,M,rfl,?_,O,O,F.o,E.o⟩
       simp only[ByteArray.size_append,zP,Dp,Du]
       omega)
    | (refine⟨_,M,rfl,?_,O,O,F.o.alloc E.o.lt F.o.size _,E.o.alloc _⟩
       simp only[ByteArray.size_append,zP,Dp,Du]
       omega)
  .have ae:¬r<2:=by omega
   have af:¬r<5:=O
   have X:(r == 5)=false:=Uq
   have Y:(r == 6)=false:=Uq
   have Z:(r == 7)=false:=Uq
   have ad:r<11:=O
   have V:(r == 11)=false:=Uq
   have W:(r == 12)=false:=Uq
   go_upto_region 16 with(go_at_call 39;(with_reducible refine(hR.call (D:=D-1) I.o.1 K H.o i.o O L J).mono ?_);rintro e n ⟨p,G,rfl,aH,aE,aI,a,c⟩
                          have s:=U c;have u:=U (g.o.trans (a.mono g.o.size))
                          clear a c)
   have bf:¬9223372036854775807<1+p.size:=O
   have bg:¬9223372036854775807<1+p.size+1:=O
   go_region_law (first
    | (go_simp;go_at_call 76;(with_reducible refine(x9 (q:=11) s.o.drew O Up Up).mono ?_);rintro e w8 ⟨j,Q,R,rfl,a,c⟩
       obtain⟨d,S,f⟩:=km n [⟨#[43]⟩,⟨#[45]⟩,⟨#[42]⟩,⟨#[47]⟩,⟨#[37]⟩,⟨#[38]⟩,⟨#[124]⟩,⟨#[94]⟩,⟨#[60,60]⟩,⟨#[62,62]⟩,⟨#[62,62,62]⟩] 3 Up 9 Q (show j<11 from R);have al:=f w8;have an:∀t:j.toNat<11,([.string ⟨#[43]⟩,.string ⟨#[45]⟩,.string ⟨#[42]⟩,.string ⟨#[47]⟩,.string ⟨#[37]⟩,.string ⟨#[38]⟩,.string ⟨#[124]⟩,.string ⟨#[94]⟩,.string ⟨#[60,60]⟩,.string ⟨#[62,62]⟩,.string ⟨#[62,62,62]⟩]:List C4)[j.toNat]'t=.string d:=fun t=>iW (f w8) t
       obtain⟨ai,P⟩:∃x,x=G+1:=⟨_,rfl⟩
       rw[<-P]at c;have A:=U c;have z:=U f;have ap:¬9223372036854775807<1+p.size:=O
       have aY:¬9223372036854775807<1+p.size+1:=O
       have aZ:¬9223372036854775807<1+p.size+1+d.size:=O
       have a0:¬9223372036854775807<1+p.size+1+d.size+1:=O
       have aA:n.heap.size<=w8.heap.size:=Vb
       have y:=C0 (dX b w.heap.size w w8) ((u.o.trans (dX.wb Zb.drew s.o.lt)).trans (a.mono u.o.size))
       clear a c f)
    | (go_simp;go_at_call 76;(with_reducible refine(x9 (q:=11) (s.o.alloc _).drew O Up Up).mono ?_);rintro e w8 ⟨j,Q,R,rfl,a,c⟩
       obtain⟨d,S,f⟩:=km n [⟨#[43]⟩,⟨#[45]⟩,⟨#[42]⟩,⟨#[47]⟩,⟨#[37]⟩,⟨#[38]⟩,⟨#[124]⟩,⟨#[94]⟩,⟨#[60,60]⟩,⟨#[62,62]⟩,⟨#[62,62,62]⟩] 3 Up 9 Q (show j<11 from R);have al:=f w8;have an:∀t:j.toNat<11,([.string ⟨#[43]⟩,.string ⟨#[45]⟩,.string ⟨#[42]⟩,.string ⟨#[47]⟩,.string ⟨#[37]⟩,.string ⟨#[38]⟩,.string ⟨#[124]⟩,.string ⟨#[94]⟩,.string ⟨#[60,60]⟩,.string ⟨#[62,62]⟩,.string ⟨#[62,62,62]⟩]:List C4)[j.toNat]'t=.string d:=fun t=>iW (f w8) t
       obtain⟨ai,P⟩:∃x,x=G+1:=⟨_,rfl⟩
       rw[<-P]at c;have A:=U c;have z:=U f;have ap:¬9223372036854775807<1+p.size:=O
       have aY:¬9223372036854775807<1+p.size+1:=O
       have aZ:¬9223372036854775807<1+p.size+1+d.size:=O
       have a0:¬9223372036854775807<1+p.size+1+d.size+1:=O
       have aA:n.heap.size<=w8.heap.size:=Vb
       have y:=C0 (dX b w.heap.size w w8) (((u.o.alloc s.o.lt u.o.size (.cells #[.string ⟨#[43]⟩,.string ⟨#[45]⟩,.string ⟨#[42]⟩,.string ⟨#[47]⟩,.string ⟨#[37]⟩,.string ⟨#[38]⟩,.string ⟨#[124]⟩,.string ⟨#[94]⟩,.string ⟨#[60,60]⟩,.string ⟨#[62,62]⟩,.string ⟨#[62,62,62]⟩] 9)).trans (dX.wb Zb.drew (by have:=s.o.lt;rw[zA];omega))).trans (a.mono (by have:=u.o.size;show _<=(World.alloc _ _).heap.size;rw[zA];omega)));have ak:w8.cell? (n.heap.size,j.toNat)=some (.string d):=(a.cell Ja Jz).trans (z.o n);have a4:n.heap.size<w8.heap.size:=by have:=a.size;have aR:(n.alloc (.cells #[.string ⟨#[43]⟩,.string ⟨#[45]⟩,.string ⟨#[42]⟩,.string ⟨#[47]⟩,.string ⟨#[37]⟩,.string ⟨#[38]⟩,.string ⟨#[124]⟩,.string ⟨#[94]⟩,.string ⟨#[60,60]⟩,.string ⟨#[62,62]⟩,.string ⟨#[62,62,62]⟩] 9)).heap.size=n.heap.size+1:=zA _ _;have aQ:(n.alloc (.cells #[.string ⟨#[43]⟩,.string ⟨#[45]⟩,.string ⟨#[42]⟩,.string ⟨#[47]⟩,.string ⟨#[37]⟩,.string ⟨#[38]⟩,.string ⟨#[124]⟩,.string ⟨#[94]⟩,.string ⟨#[60,60]⟩,.string ⟨#[62,62]⟩,.string ⟨#[62,62,62]⟩] 9)).heap.size<=w8.heap.size:=this;omega
       clear a c f)
    | (go_simp;go_at_call 39;(with_reducible refine(hR.call (D:=D-1) I.o.1 K H.o A.o O L J).mono ?_);rintro e w9 ⟨B,M,rfl,ay,ao,az,a,c⟩
       have am:=z.o w9;have aq:¬9223372036854775807<1+p.size+1+d.size+1+B.size:=O
       have ar:¬9223372036854775807<1+p.size+1+d.size+1+B.size+1:=O
       have E:=U c;have F:=C0 (dX b w.heap.size w w9) (y.o.trans (a.mono y.o.size));have a8:w8.heap.size<=w9.heap.size:=a.size
       first
       | (have aV:=(a.cell (k:=n.heap.size) (o:=j.toNat) O Jz).trans ak
          have a5:n.heap.size<w9.heap.size:=O)
       |skip
       clear a c)
    | (go_simp;go_at_call 39;(with_reducible refine(hR.call (D:=D-1) I.o.1 K H.o (A.o.alloc _) O L J).mono ?_);rintro e w9 ⟨B,M,rfl,ay,ao,az,a,c⟩
       have am:=z.o w9;have aq:¬9223372036854775807<1+p.size+1+d.size+1+B.size:=O
       have ar:¬9223372036854775807<1+p.size+1+d.size+1+B.size+1:=O
       have E:=U c;have F:=C0 (dX b w.heap.size w w9) ((y.o.alloc A.o.lt y.o.size (.cells #[.string ⟨#[43]⟩,.string ⟨#[45]⟩,.string ⟨#[42]⟩,.string ⟨#[47]⟩,.string ⟨#[37]⟩,.string ⟨#[38]⟩,.string ⟨#[124]⟩,.string ⟨#[94]⟩,.string ⟨#[60,60]⟩,.string ⟨#[62,62]⟩,.string ⟨#[62,62,62]⟩] 9)).trans (a.mono Hw));have aW:w9.cell? (w8.heap.size,j.toNat)=some (.string d):=(a.cell Ut (by have:=A.o.lt;omega)).trans (z.o w8);have a7:w8.heap.size<w9.heap.size:=Xj
       clear a c))
   all_goals
    go_wp2_with fail;go_ret
    first
    | (refine⟨_,M,rfl,?_,O,O,F.o,E.o⟩
       simp only[ByteArray.size_append,zP,Dp,Du]
       omega)
    | (refine⟨_,M,rfl,?_,O,O,F.o.alloc E.o.lt F.o.size _,E.o.alloc _⟩
       simp only[ByteArray.size_append,zP,Dp,Du]
       omega)
  .go_wp2_with fail
   exact Ui
  .go_wp2_with fail
   exact Ui
  .go_wp2_with (first
    | (go_at_call 39;(with_reducible refine(hR.call (D:=D-1) I.o.1 K H.o i.o O L J).mono ?_);rintro e n ⟨p,G,rfl,aH,aE,aI,a,c⟩
       have s:=U c;have u:=U (g.o.trans (a.mono g.o.size))
       clear a c)
    | (go_at_call 40;(with_reducible refine(wD.call (D:=D-1) I.o.2 K H.o s.o O L J).mono ?_);rintro e _ ⟨_,aP,rfl,_,_,_,a,c⟩
       have aM:=U c;have aN:=U (u.o.trans (a.mono u.o.size))
       clear a c))
   go_ret;refine⟨_,aP,rfl,?_,O,O,aN.o,aM.o⟩;exact Ua
theorem wE(m:Nat)(ay:∀m',m'+1=m->hR m'/\wD m'):wD m:=by
 intro _ b N aB v vs bs D w aj al _ B z;have bg:=MO m;have bo:=DS m;have aA:=U al;have a4:=U (dX.refl b w.heap.size w);have bl:w.heap.size<=w.heap.size:=Dy _;have az:=U ay;have Q:=U aj;clear al ay aj;go_enter func40,ntmps40
 go_upto_region 2 with(go_at_call 76;(with_reducible refine(x9 (q:=10) aA.o O Up Up).mono ?_);rintro e C ⟨P,Z,ad,rfl,a,c⟩
                       obtain⟨I,aE⟩:∃x,x=aB+1:=⟨_,rfl⟩
                       rw[<-aE]at c;have p:=U c;have g:=U a
                       clear a c)
 by_cases aM:m=0
 case pos=>
  subst aM;have aD:D=0:=by have:=Q.o;simpa using this
  subst aD;have aw:0<=P % 3:=Int.emod_nonneg _ O;have ax:P % 3<3:=Int.emod_lt_of_pos _ O;go_upto_region 4 with fail;generalize P % 3=r at *;have aU:=aw;have aV:=ax;clear Z ad aw ax;rcases(show r=0\/(1<=r/\r<3)from by omega)with rfl|⟨ar,aq⟩
  .go_wp2_with (go_at_call 76;(with_reducible refine(x9 (q:=2) (p.o.alloc _) O Up Up).mono ?_);rintro e d ⟨J,aa,ae,rfl,a,c⟩
                obtain⟨l,ah,n⟩:=km C [⟨#[116,114,117,101]⟩,⟨#[102,97,108,115,101]⟩] 5 Up 9 aa (show J<2 from ae);have aF:d.cell? (C.heap.size,J.toNat)=some (.string l):=(a.cell Ut (by have:=p.o.lt;omega)).trans (n C);have aY:C.heap.size<d.heap.size:=Xj
                obtain⟨s,W⟩:∃x,x=I+1:=⟨_,rfl⟩
                rw[<-W]at c;have f:=U c;have i:=U ((g.o.alloc p.o.lt g.o.size _).trans (a.mono Jn))
                clear a c n)
   exact Ul
  .have am:(r == 0)=false:=by simp;omega
   exact Uh
 case neg=>
  obtain⟨m',rfl⟩:∃m',m=m'+1:=⟨m-1,O⟩
  have y:=U (az.o m' rfl);have a7:(1 :Int)<=D:=by have:=Q.o;omega
  have ak:D-1=(m':Int):=by have:=Q.o;omega
  have u:=U ak;have a9:D<=1000001:=He
  have bm:IntKind.i64.wrap (D-1)=D-1:=IntWalk.i64_in _ O;clear ak;have bb:q1 (m'+1)=2*q1 m'+8:=rfl;have ba:pD (m'+1)=2*pD m'+2:=rfl;have A:q1 m'<=1000000:=O
  have bh:=MO m';have bp:=DS m';have a8:¬D<1:=O
  obtain⟨r,aT⟩:∃r,r=P:=⟨_,rfl⟩
  subst aT;have aU:=Z;have aV:=ad;go_upto_region 4 with fail;clear Z ad;rcases(show r=0\/(1<=r/\r<3)\/r=3\/(4<=r/\r<7)\/r=7\/r=8\/r=9 from by omega)with rfl|⟨ar,aq⟩|rfl|⟨ar,aq⟩|rfl|rfl|rfl
  .go_wp2_with (go_at_call 76;(with_reducible refine(x9 (q:=2) (p.o.alloc _) O Up Up).mono ?_);rintro e d ⟨J,aa,ae,rfl,a,c⟩
                obtain⟨l,ah,n⟩:=km C [⟨#[116,114,117,101]⟩,⟨#[102,97,108,115,101]⟩] 5 Up 9 aa (show J<2 from ae);have aF:d.cell? (C.heap.size,J.toNat)=some (.string l):=(a.cell Ut (by have:=p.o.lt;omega)).trans (n C);have aY:C.heap.size<d.heap.size:=Xj
                obtain⟨s,W⟩:∃x,x=I+1:=⟨_,rfl⟩
                rw[<-W]at c;have f:=U c;have i:=U ((g.o.alloc p.o.lt g.o.size _).trans (a.mono Jn))
                clear a c n)
   exact Ul
  .have am:(r == 0)=false:=by simp;omega
   exact Uh
  .go_wp2_with fail
   go_ret;refine⟨_,I,rfl,?_,O,O,g.o,p.o⟩;exact Ua
  .have am:(r == 0)=false:=by simp;omega
   have au:¬r<3:=O
   have an:(r == 3)=false:=Uq
   have av:r<7:=O
   have ao:(r == 7)=false:=Uq
   have ap:(r == 8)=false:=Uq
   go_upto_region 12 with(go_at_call 39;(with_reducible refine(hR.call (D:=D-1) y.o.1 A u.o p.o O B z).mono ?_);rintro e d ⟨j,s,rfl,ag,Y,ai,a,c⟩
                          have f:=U c;have i:=U (g.o.trans (a.mono g.o.size))
                          clear a c)
   have be:¬9223372036854775807<1+j.size:=O
   have bf:¬9223372036854775807<1+j.size+1:=O
   go_region_law (first
    | (go_simp;go_at_call 76;(with_reducible refine(x9 (q:=6) f.o.drew O Up Up).mono ?_);rintro e w8 ⟨t,ab,af,rfl,a,c⟩
       obtain⟨l,ah,n⟩:=km d [⟨#[60]⟩,⟨#[60,61]⟩,⟨#[62]⟩,⟨#[62,61]⟩,⟨#[61,61]⟩,⟨#[33,61]⟩] 2 Up 9 ab (show t<6 from af);have aH:=n w8;have aJ:∀E:t.toNat<6,([.string ⟨#[60]⟩,.string ⟨#[60,61]⟩,.string ⟨#[62]⟩,.string ⟨#[62,61]⟩,.string ⟨#[61,61]⟩,.string ⟨#[33,61]⟩]:List C4)[t.toNat]'E=.string l:=fun E=>iW (n w8) E
       obtain⟨aC,X⟩:∃x,x=s+1:=⟨_,rfl⟩
       rw[<-X]at c;have H:=U c;have G:=U n;have aN:¬9223372036854775807<1+j.size:=O
       have aO:¬9223372036854775807<1+j.size+1:=O
       have aP:¬9223372036854775807<1+j.size+1+l.size:=O
       have aQ:¬9223372036854775807<1+j.size+1+l.size+1:=O
       have a1:d.heap.size<=w8.heap.size:=Vb
       have F:=C0 (dX b w.heap.size w w8) ((i.o.trans (dX.wb Zb.drew f.o.lt)).trans (a.mono i.o.size))
       clear a c n)
    | (go_simp;go_at_call 76;(with_reducible refine(x9 (q:=6) (f.o.alloc _).drew O Up Up).mono ?_);rintro e w8 ⟨t,ab,af,rfl,a,c⟩
       obtain⟨l,ah,n⟩:=km d [⟨#[60]⟩,⟨#[60,61]⟩,⟨#[62]⟩,⟨#[62,61]⟩,⟨#[61,61]⟩,⟨#[33,61]⟩] 2 Up 9 ab (show t<6 from af);have aH:=n w8;have aJ:∀E:t.toNat<6,([.string ⟨#[60]⟩,.string ⟨#[60,61]⟩,.string ⟨#[62]⟩,.string ⟨#[62,61]⟩,.string ⟨#[61,61]⟩,.string ⟨#[33,61]⟩]:List C4)[t.toNat]'E=.string l:=fun E=>iW (n w8) E
       obtain⟨aC,X⟩:∃x,x=s+1:=⟨_,rfl⟩
       rw[<-X]at c;have H:=U c;have G:=U n;have aN:¬9223372036854775807<1+j.size:=O
       have aO:¬9223372036854775807<1+j.size+1:=O
       have aP:¬9223372036854775807<1+j.size+1+l.size:=O
       have aQ:¬9223372036854775807<1+j.size+1+l.size+1:=O
       have a1:d.heap.size<=w8.heap.size:=Vb
       have F:=C0 (dX b w.heap.size w w8) (((i.o.alloc f.o.lt i.o.size (.cells #[.string ⟨#[60]⟩,.string ⟨#[60,61]⟩,.string ⟨#[62]⟩,.string ⟨#[62,61]⟩,.string ⟨#[61,61]⟩,.string ⟨#[33,61]⟩] 9)).trans (dX.wb Zb.drew (by have:=f.o.lt;rw[zA];omega))).trans (a.mono (by have:=i.o.size;show _<=(World.alloc _ _).heap.size;rw[zA];omega)));have aG:w8.cell? (d.heap.size,t.toNat)=some (.string l):=(a.cell Ja (by have:=f.o.lt;omega)).trans (G.o d);have bi:d.heap.size<w8.heap.size:=by have:=a.size;have a6:(d.alloc (.cells #[.string ⟨#[60]⟩,.string ⟨#[60,61]⟩,.string ⟨#[62]⟩,.string ⟨#[62,61]⟩,.string ⟨#[61,61]⟩,.string ⟨#[33,61]⟩] 9)).heap.size=d.heap.size+1:=zA _ _;have a5:(d.alloc (.cells #[.string ⟨#[60]⟩,.string ⟨#[60,61]⟩,.string ⟨#[62]⟩,.string ⟨#[62,61]⟩,.string ⟨#[61,61]⟩,.string ⟨#[33,61]⟩] 9)).heap.size<=w8.heap.size:=this;omega
       clear a c n)
    | (go_simp;go_at_call 39;(with_reducible refine(hR.call (D:=D-1) y.o.1 A u.o H.o O B z).mono ?_);rintro e w9 ⟨K,V,rfl,aX,aL,a0,a,c⟩
       have aI:=G.o w9;have aR:¬9223372036854775807<1+j.size+1+l.size+1+K.size:=O
       have aS:¬9223372036854775807<1+j.size+1+l.size+1+K.size+1:=O
       have L:=U c;have M:=C0 (dX b w.heap.size w w9) (F.o.trans (a.mono F.o.size));have bn:w8.heap.size<=w9.heap.size:=a.size
       first
       | (have bc:=(a.cell (k:=d.heap.size) (o:=t.toNat) O (by have:=f.o.lt;omega)).trans aG
          have bj:d.heap.size<w9.heap.size:=O)
       |skip
       clear a c)
    | (go_simp;go_at_call 39;(with_reducible refine(hR.call (D:=D-1) y.o.1 A u.o (H.o.alloc _) O B z).mono ?_);rintro e w9 ⟨K,V,rfl,aX,aL,a0,a,c⟩
       have aI:=G.o w9;have aR:¬9223372036854775807<1+j.size+1+l.size+1+K.size:=O
       have aS:¬9223372036854775807<1+j.size+1+l.size+1+K.size+1:=O
       have L:=U c;have M:=C0 (dX b w.heap.size w w9) ((F.o.alloc H.o.lt F.o.size (.cells #[.string ⟨#[60]⟩,.string ⟨#[60,61]⟩,.string ⟨#[62]⟩,.string ⟨#[62,61]⟩,.string ⟨#[61,61]⟩,.string ⟨#[33,61]⟩] 9)).trans (a.mono (by have:=F.o.size;rw[zA];omega)));have bd:w9.cell? (w8.heap.size,t.toNat)=some (.string l):=(a.cell Ut (by have:=H.o.lt;omega)).trans (G.o w8);have bk:w8.heap.size<w9.heap.size:=Xj
       clear a c))
   all_goals
    go_wp2_with fail;go_ret
    first
    | (refine⟨_,V,rfl,?_,O,O,M.o,L.o⟩
       simp only[ByteArray.size_append,zP,Dp,Du]
       omega)
    | (refine⟨_,V,rfl,?_,O,O,M.o.alloc L.o.lt M.o.size _,L.o.alloc _⟩
       simp only[ByteArray.size_append,zP,Dp,Du]
       omega)
  .go_wp2_with (first
    | (go_at_call 40;(with_reducible refine(wD.call (D:=D-1) y.o.2 A u.o p.o O B z).mono ?_);rintro e d ⟨j,s,rfl,ag,Y,ai,a,c⟩
       have f:=U c;have i:=U (g.o.trans (a.mono g.o.size))
       clear a c)
    | (go_at_call 40;(with_reducible refine(wD.call (D:=D-1) y.o.2 A u.o f.o O B z).mono ?_);rintro e a3 ⟨a2,T,rfl,aW,aK,aZ,a,c⟩
       have R:=U c;have S:=U (i.o.trans (a.mono i.o.size))
       clear a c))
   go_ret;refine⟨_,T,rfl,?_,O,O,S.o,R.o⟩;exact Ua
  .go_wp2_with (first
    | (go_at_call 40;(with_reducible refine(wD.call (D:=D-1) y.o.2 A u.o p.o O B z).mono ?_);rintro e d ⟨j,s,rfl,ag,Y,ai,a,c⟩
       have f:=U c;have i:=U (g.o.trans (a.mono g.o.size))
       clear a c)
    | (go_at_call 40;(with_reducible refine(wD.call (D:=D-1) y.o.2 A u.o f.o O B z).mono ?_);rintro e a3 ⟨a2,T,rfl,aW,aK,aZ,a,c⟩
       have R:=U c;have S:=U (i.o.trans (a.mono i.o.size))
       clear a c))
   go_ret;refine⟨_,T,rfl,?_,O,O,S.o,R.o⟩;exact Ua
  .go_wp2_with (go_at_call 39;(with_reducible refine(hR.call (D:=D-1) y.o.1 A u.o p.o O B z).mono ?_);rintro e d ⟨j,s,rfl,ag,Y,ai,a,c⟩
                have f:=U c;have i:=U (g.o.trans (a.mono g.o.size))
                clear a c)
   exact Ul
theorem WQ:∀m,hR m/\wD m:=fun m=>by
 induction m with
 |zero=>exact⟨H3 0 fun m' a=>absurd a O,wE 0 fun m' a=>absurd a O⟩
 |succ m b=>exact⟨H3 (m+1) fun m' a=>(show m=m' by omega)▸b,wE (m+1) fun m' a=>(show m=m' by omega)▸b⟩
def tS:Nat->Nat
 |0=>300
 |d+1=>300+8*tS d
def tP:Nat->Nat
 |0=>100
 |d+1=>100+2*(4*tP d+1)
theorem zdk(d:Nat):300<=tS d:=by cases d with|zero=>exact Dy _|succ d=>rw[tS];omega
theorem zdl(d:Nat):100<=tP d:=by cases d with|zero=>exact Dy _|succ d=>rw[tP];omega
theorem MP(d:Nat)(a:d<=3):tS d<=200000:=by
 exact Uo
theorem MQ(d:Nat)(a:d<=3):tP d<=200000:=by
 exact Uo
def QP(m:Nat):Prop:=m<=3->∀(b N a:Nat) (v:C4) (vs bs:C2) (D:Int) (lp:Bool) (w:C3),D=(m:Int)->eX b N v a w->a+tP m<=1000000000->vs.size=1->bs.size=1->
 Cy 77 #[(b,0),vs,bs,(D:Int),.bool lp] w (yI (tS m) (tP m) b N v a w)
def wF(m:Nat):Prop:=m<=3->∀(b N a:Nat) (v:C4) (vs bs:C2) (D:Int) (lp:Bool) (w:C3),D=(m:Int)->eX b N v a w->a+4*tP m+1<=1000000000->vs.size=1->bs.size=1->
 Cy 38 #[(b,0),vs,bs,(D:Int),.bool lp] w (yI (4*tS m) (4*tP m+1) b N v a w)
theorem QP.call(c:QP m)(d:m<=3){lp:Bool}(e:D=(m:Int))(f:eX b N v a w)(g:a+tP m<=1000000000)(i:vs.size=1)(j:bs.size=1):
 Cy 77 #[(b,0),vs,bs,(D:Int),.bool lp] w (yI (tS m) (tP m) b N v a w):=c d b N a v vs bs D lp w e f g i j
theorem wF.call(c:wF m)(d:m<=3){lp:Bool}(e:D=(m:Int))(f:eX b N v a w)(g:a+4*tP m+1<=1000000000)(i:vs.size=1)(j:bs.size=1):
 Cy 38 #[(b,0),vs,bs,(D:Int),.bool lp] w (yI (4*tS m) (4*tP m+1) b N v a w):=c d b N a v vs bs D lp w e f g i j
theorem uG(c:m<=2)(d:D=(m:Int))(e:eX b N v a w)(_:a+18<=1000000000)(_:vs.size=1)(_:bs.size=1):
 Cy 39 #[(b,0),vs,bs,(D:Int)] w (yI 72 18 b N v a w):=by
 have l:q1 m<=72:=by match m,c with|0,_=>decide|1,_=>decide|2,_=>decide
 have k:pD m<=18:=by match m,c with|0,_=>decide|1,_=>decide|2,_=>decide
 exact((WQ m).1.call O d e O O O).mono fun _ _ ⟨s,a',f,_,i,_,j,g⟩=>⟨s,a',f,O,i,O,j,g⟩
theorem lP(c:m<=2)(d:D=(m:Int))(e:eX b N v a w)(_:a+18<=1000000000)(_:vs.size=1)(_:bs.size=1):
 Cy 40 #[(b,0),vs,bs,(D:Int)] w (yI 72 18 b N v a w):=by
 have l:q1 m<=72:=by match m,c with|0,_=>decide|1,_=>decide|2,_=>decide
 have k:pD m<=18:=by match m,c with|0,_=>decide|1,_=>decide|2,_=>decide
 exact((WQ m).2.call O d e O O O).mono fun _ _ ⟨s,a',f,_,i,_,j,g⟩=>⟨s,a',f,O,i,O,j,g⟩
theorem wG(m:Nat)(t:QP m):wF m:=by
 intro l b N k v vs bs D lp w p d _ J G;have V:=MP m l;have T:=MQ m l;have y:=U d;have x:=U t;have u:=U p;clear d t p;go_enter func38,ntmps38
 go_wp2_with (go_at_call 76;(with_reducible refine(x9 (q:=5) y.o O Up Up).mono ?_);rintro e _ ⟨c,I,_,rfl,g,f⟩
              have z:=U f;have B:=U g
              clear g f)
 go_loopw [11,12] (fun K iv wr=>∃(i:Int) (s:C2) (a:Nat),K=.string s/\iv=.int .i64 i/\0<=i/\i<=c/\(s.size:Int)<=(c-i)*tS m/\k<=a/\(a:Int)<=k+1+(c-i)*tP m/\dX b w.heap.size w wr/\eX b N v a wr) (fun _ iv _=>(intOf iv).toNat)
 case atStart=>exact⟨c,_,k+1,rfl,rfl,I,Int.le_refl _,(by simp;rfl),O,Ur,B.o,z.o⟩
 case round=>
  obtain⟨i,s,a,rfl,rfl,_,_,_,F,_,r,d⟩:=hrel;have j:=U r;have n:=U d;clear r d;have L:(c-i)*tS m<=4*tS m:=Int.mul_le_mul_of_nonneg_right O O;have R:(c-i)*tP m<=4*tP m:=Int.mul_le_mul_of_nonneg_right O O;by_cases M:0<i
  .have S:(c-(i-1))*tS m=(c-i)*tS m+tS m:=by rw[show c-(i-1)=(c-i)+1 by omega,Int.add_mul,Int.one_mul]
   have P:(c-(i-1))*tP m=(c-i)*tP m+tP m:=by rw[show c-(i-1)=(c-i)+1 by omega,Int.add_mul,Int.one_mul]
   have Q:(c-(i-1))*tP m<=4*tP m:=Int.mul_le_mul_of_nonneg_right O O
   go_wp2_with (go_at_call 77;(with_reducible refine(QP.call x.o l u.o n.o O J G).mono ?_);rintro e _ ⟨_,E,rfl,_,_,_,g,f⟩
                have A:=U f;have C:=U (j.o.trans (g.mono j.o.size))
                clear g f)
   go_roundw
   case rel=>
    refine⟨i-1,_,E,rfl,rfl,O,O,?_,O,O,C.o,A.o⟩;rw[ByteArray.size_append];omega
   case measure=>simp[intOf];omega
  .have H:i=0:=by omega
   subst H;go_wp2_with fail;go_ret;exact⟨_,a,rfl,O,F,O,j.o,n.o⟩
theorem BW(m:Nat)(aF:∀m',m'+1=m->wF m'):QP m:=by
 intro aE b N aK v vs bs D lp w aC aD _ l k;have a7:=MP m aE;have a4:=MQ m aE;have a9:=zdk m;have a6:=zdl m;have aH:=U aD;have aZ:=U (dX.refl b w.heap.size w);have aG:=U aF;have aq:=U aC;clear aD aF aC;go_enter func77,ntmps77
 go_upto_region 2 with(go_at_call 76;(with_reducible refine(x9 (q:=13) aH.o O Up Up).mono ?_);rintro e r ⟨d,_,_,rfl,a,c⟩
                       obtain⟨G,aP⟩:∃x,x=aK+1:=⟨_,rfl⟩
                       rw[<-aP]at c;have g:=U c;have f:=U a
                       clear a c)
 by_cases aR:m=0
 case pos=>
  subst aR;have aO:D=0:=by have:=aq.o;simpa using this
  subst aO;rcases(show(0<=d/\d<3)\/d=3\/d=4\/d=5\/d=6\/d=7\/(8<=d/\d<10)\/(10<=d/\d<12)\/d=12 from by omega)with⟨ai,ag⟩|rfl|rfl|rfl|rfl|rfl|⟨ai,ag⟩|⟨ai,ag⟩|rfl
  .have al:d<3:=by omega
   exact Ue
  .go_wp2_with (go_at_call 40;(with_reducible refine(lP (m:=2) (D:=2) Up Up g.o O l k).mono ?_);rintro e F ⟨E,n,rfl,B,z,C,a,c⟩
                have j:=U c;have i:=U (f.o.trans (a.mono f.o.size))
                clear a c)
   exact Uj
  .go_wp2_with (go_at_call 39;(with_reducible refine(uG (m:=2) (D:=2) Up Up g.o O l k).mono ?_);rintro e F ⟨E,n,rfl,B,z,C,a,c⟩
                have j:=U c;have i:=U (f.o.trans (a.mono f.o.size))
                clear a c)
   exact Uj
  .go_wp2_with (first
    | (go_at_call 39;(with_reducible refine(uG (m:=1) (D:=1) Up Up g.o O l k).mono ?_);rintro e F ⟨E,n,rfl,B,z,C,a,c⟩
       have j:=U c;have i:=U (f.o.trans (a.mono f.o.size))
       clear a c)
    | (go_at_call 39;(with_reducible refine(uG (m:=2) (D:=2) Up Up j.o O l k).mono ?_);rintro e R ⟨ap,H,rfl,am,ah,an,a,c⟩
       have y:=U c;have p:=U (i.o.trans (a.mono i.o.size))
       clear a c))
   go_ret;refine⟨_,H,rfl,?_,O,O,p.o,y.o⟩;exact Ua
  .cases lp
   .go_wp2_with fail
    exact Uk
   exact Uc
  .go_wp2_with fail
   exact Uk
  .have al:¬d<3:=by omega
   have aa:(d == 3)=false:=Uq
   have ab:(d == 4)=false:=Uq
   have ad:(d == 5)=false:=Uq
   have ae:(d == 6)=false:=Uq
   have af:(d == 7)=false:=Uq
   have aj:d<10:=O
   exact Um
  .have al:¬d<3:=by omega
   have aa:(d == 3)=false:=Uq
   have ab:(d == 4)=false:=Uq
   have ad:(d == 5)=false:=Uq
   have ae:(d == 6)=false:=Uq
   have af:(d == 7)=false:=Uq
   have aj:¬d<10:=O
   exact Um
  exact Ub
 case neg=>
  obtain⟨m',rfl⟩:∃m',m=m'+1:=⟨m-1,O⟩
  have X:=U (aG.o m' rfl);have Y:m'<=3:=O
  have a0:(0 :Int)<D:=by have:=aq.o;omega
  have W:=U (show D-1=(m':Int)by have:=aq.o;omega);have a1:D<=4:=by have:=aq.o;omega
  have a3:tS (m'+1)=300+8*tS m':=rfl;have a2:tP (m'+1)=100+2*(4*tP m'+1):=rfl;have a8:=MP m' O;have a5:=MQ m' O;rcases(show(0<=d/\d<3)\/d=3\/d=4\/d=5\/d=6\/d=7\/(8<=d/\d<10)\/(10<=d/\d<12)\/d=12 from by omega)with⟨ai,ag⟩|rfl|rfl|rfl|rfl|rfl|⟨ai,ag⟩|⟨ai,ag⟩|rfl
  .have al:d<3:=by omega
   exact Ue
  .go_wp2_with (go_at_call 40;(with_reducible refine(lP (m:=2) (D:=2) Up Up g.o O l k).mono ?_);rintro e F ⟨E,n,rfl,B,z,C,a,c⟩
                have j:=U c;have i:=U (f.o.trans (a.mono f.o.size))
                clear a c)
   exact Uj
  .go_wp2_with (go_at_call 39;(with_reducible refine(uG (m:=2) (D:=2) Up Up g.o O l k).mono ?_);rintro e F ⟨E,n,rfl,B,z,C,a,c⟩
                have j:=U c;have i:=U (f.o.trans (a.mono f.o.size))
                clear a c)
   exact Uj
  .go_wp2_with (first
    | (go_at_call 39;(with_reducible refine(uG (m:=1) (D:=1) Up Up g.o O l k).mono ?_);rintro e F ⟨E,n,rfl,B,z,C,a,c⟩
       have j:=U c;have i:=U (f.o.trans (a.mono f.o.size))
       clear a c)
    | (go_at_call 39;(with_reducible refine(uG (m:=2) (D:=2) Up Up j.o O l k).mono ?_);rintro e R ⟨ap,H,rfl,am,ah,an,a,c⟩
       have y:=U c;have p:=U (i.o.trans (a.mono i.o.size))
       clear a c))
   go_ret;refine⟨_,H,rfl,?_,O,O,p.o,y.o⟩;exact Ua
  .cases lp
   .go_upto_if 135 with(first
     | (go_at_call 40;(with_reducible refine(lP (m:=2) (D:=2) Up Up g.o O l k).mono ?_);rintro e F ⟨E,n,rfl,B,z,C,a,c⟩
        have j:=U c;have i:=U (f.o.trans (a.mono f.o.size))
        clear a c)
     | (go_at_call 38;(with_reducible refine(wF.call (D:=D-1) X.o Y W.o j.o O l k).mono ?_);rintro e R ⟨ap,H,rfl,am,ah,an,a,c⟩
        have y:=U c;have p:=U (i.o.trans (a.mono i.o.size))
        clear a c)
     | (go_at_call 76;(with_reducible refine(x9 (q:=2) y.o O Up Up).mono ?_);rintro e aX ⟨V,aS,aT,rfl,a,c⟩
        have S:=U c;have T:=U (p.o.trans (a.mono p.o.size));obtain⟨ay,aA⟩:∃x,x=H+1:=⟨_,rfl⟩
        rw[<-aA]at S
        clear a c))
    exact Uf
   exact Uc
  .go_wp2_with (first
    | (go_at_call 39;(with_reducible refine(uG (m:=1) (D:=1) Up Up g.o O l k).mono ?_);rintro e F ⟨E,n,rfl,B,z,C,a,c⟩
       have j:=U c;have i:=U (f.o.trans (a.mono f.o.size))
       clear a c)
    | (go_at_call 40;(with_reducible refine(lP (m:=1) (D:=1) Up Up j.o O Up k).mono ?_);rintro e R ⟨ap,H,rfl,am,ah,an,a,c⟩
       have y:=U c;have p:=U (i.o.trans (a.mono i.o.size))
       clear a c)
    | (go_at_call 38;(with_reducible refine(wF.call (D:=D-1) X.o Y W.o y.o O Up Up).mono ?_);rintro e _ ⟨_,aL,rfl,_,_,_,a,c⟩
       have aI:=U c;have aJ:=U (p.o.trans (a.mono p.o.size))
       clear a c))
   go_ret;refine⟨_,aL,rfl,?_,O,O,aJ.o,aI.o⟩;exact Ua
  .have al:¬d<3:=by omega
   have aa:(d == 3)=false:=Uq
   have ab:(d == 4)=false:=Uq
   have ad:(d == 5)=false:=Uq
   have ae:(d == 6)=false:=Uq
   have af:(d == 7)=false:=Uq
   have aj:d<10:=O
   have ak:d<12:=O
   have Z:(d == 12)=false:=Uq
   go_upto_if 135 with(first
    | (go_at_call 40;(with_reducible refine(lP (m:=2) (D:=2) Up Up g.o O l k).mono ?_);rintro e F ⟨E,n,rfl,B,z,C,a,c⟩
       have j:=U c;have i:=U (f.o.trans (a.mono f.o.size))
       clear a c)
    | (go_at_call 38;(with_reducible refine(wF.call (D:=D-1) X.o Y W.o j.o O l k).mono ?_);rintro e R ⟨ap,H,rfl,am,ah,an,a,c⟩
       have y:=U c;have p:=U (i.o.trans (a.mono i.o.size))
       clear a c)
    | (go_at_call 76;(with_reducible refine(x9 (q:=2) y.o O Up Up).mono ?_);rintro e aX ⟨V,aS,aT,rfl,a,c⟩
       have S:=U c;have T:=U (p.o.trans (a.mono p.o.size));obtain⟨ay,aA⟩:∃x,x=H+1:=⟨_,rfl⟩
       rw[<-aA]at S
       clear a c))
   exact Uf
  .have al:¬d<3:=by omega
   have aa:(d == 3)=false:=Uq
   have ab:(d == 4)=false:=Uq
   have ad:(d == 5)=false:=Uq
   have ae:(d == 6)=false:=Uq
   have af:(d == 7)=false:=Uq
   have aj:¬d<10:=O
   have ak:d<12:=O
   have Z:(d == 12)=false:=Uq
   go_wp2_with (first
    | (go_at_call 40;(with_reducible refine(lP (m:=1) (D:=1) Up Up g.o O l k).mono ?_);rintro e F ⟨E,n,rfl,B,z,C,a,c⟩
       have j:=U c;have i:=U (f.o.trans (a.mono f.o.size))
       clear a c)
    | (go_at_call 38;(with_reducible refine(wF.call (D:=D-1) X.o Y W.o j.o O l k).mono ?_);rintro e R ⟨ap,H,rfl,am,ah,an,a,c⟩
       have y:=U c;have p:=U (i.o.trans (a.mono i.o.size))
       clear a c)
    | (go_at_call 76;(with_reducible refine(x9 (q:=3) (y.o.alloc _) O Up Up).mono ?_);rintro e w9 ⟨u,M,P,rfl,a,c⟩
       obtain⟨Q,av,t⟩:=km R [⟨#[52]⟩,⟨#[57]⟩,⟨#[51,48]⟩] 2 Up 9 M (show u<3 from P);have ar:w9.cell? (R.heap.size,u.toNat)=some (.string Q):=(a.cell Ut (by have:=y.o.lt;omega)).trans (t R);have au:R.heap.size<w9.heap.size:=Xj
       obtain⟨K,L⟩:∃x,x=H+1:=⟨_,rfl⟩
       rw[<-L]at c;have I:=U c;have J:=U ((p.o.alloc y.o.lt p.o.size _).trans (a.mono (by have:=p.o.size;rw[zA];omega)))
       clear a c t))
   go_ret;refine⟨_,K,rfl,?_,O,O,J.o,I.o⟩;exact Ua
  exact Ub
theorem zcj:∀m,wF m/\QP m:=fun m=>by
 induction m with
 |zero=>
   have a:=BW 0 fun m' a=>absurd a O
   exact⟨wG 0 a,a⟩
 |succ m b=>
   have a:=BW (m+1) fun m' a=>(show m=m' by omega)▸b.1
   exact⟨wG (m+1) a,a⟩
def vP(w:C3)(v:C4):Prop:=∃a n c,v=.slice a n c/\n<=9223372036854775807/\(0<n->∃b d,a=some ⟨b,d,none⟩/\b<w.heap.size/\∀k,k<n->∃z:Int,0<=z/\z<=255/\w.cell? ⟨b,d+k,none⟩=some (.int .u8 z))
theorem vP.below{w':C3}(g:vP w v)(a:Cx w w'):vP w' v:=by
 obtain⟨f,n,c,rfl,r,j⟩:=g;refine⟨f,n,c,rfl,r,fun s=>?_⟩;obtain⟨b,e,rfl,d,o⟩:=j s;refine⟨b,e,rfl,D6 d a.size,fun k q=>?_⟩;obtain⟨z,i,l,m⟩:=o k q;exact⟨z,i,l,(a.cell (p:=(b,e+k)) d).trans m⟩
