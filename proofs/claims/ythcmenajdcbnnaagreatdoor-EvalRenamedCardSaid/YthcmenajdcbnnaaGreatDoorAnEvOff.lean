import Derived.Test.YthcmenajdcbnnaaGreatDoorAnTyGlo
set_option linter.unusedSimpArgs false
set_option linter.unusedVariables false
set_option maxRecDepth 100000
namespace Go.Proofs.YthcmenajdcbnnaaGreatDoor
open Go.RowKit Tryz
theorem Ie{p:Prop}(h:p:=by
 go_wp2_with (first
  |(go_at_call 21;(with_reducible refine(xn k s p.o a.o.st).mono ?_);rintro e w2 ⟨rfl,c⟩;replace a:=U (a.o.step c);clear c)
  |(go_at_call 56;(with_reducible refine(zE a.o.st s q.o).mono ?_);rintro e _ ⟨rfl,c⟩;replace a:=U (a.o.step c);clear c))
 go_roundw
 case rel=>exact⟨k+1,rfl,O,O,a.o⟩
 case measure=>simp[intOf];omega):p:=h
theorem If{p:Prop}(h:p:=by
 rw[pP,h1,h2,h3,h4,Dl Up,Dl Up,Dl Up,Dl Up,Dl i]at a;unfold qt at a;rw[Dm g]at a;simp only[PR.bind]at a;rw[pN]at a
 exact absurd a id):p:=h
theorem Ig{p:Prop}(h:p:=by
 exact⟨rfl,a.o.did.wh a.o.2.2.1 Zr a.o.ne _ _ _ _ _⟩):p:=h
theorem Ih{p:Prop}(h:p:=by
 go_roundw
 case rel=>exact⟨k+1,rfl,O,O,d.o,a.o⟩
 case measure=>simp[intOf];omega):p:=h
theorem Ii{p:Prop}(h:p:=by
 go_ret
 exact⟨congrArg (fun n:Nat=>Ending.returned ((n:Int):Int)) q.o,rfl⟩):p:=h
variable{L n b g:Nat}{u v V:C4}{x:PR Unit}{k d:Int}{w W:C3}{l r:List dY}{dp:Bool}
structure d1 (X:Nat->Prop) (w w':C3):Prop where
 os:w'.os=w.os
 tape:w'.tape=w.tape
 output:w'.output=w.output
 size:w.heap.size<=w'.heap.size
 block:∀k,k<w.heap.size->¬X k->w'.heap[k]?=w.heap[k]?
section
variable {X Y:Nat->Prop} {w w' w2:C3}
theorem d1.refl(X:Nat->Prop)(w:C3):d1 X w w:=⟨rfl,rfl,rfl,Dy _,fun _ _ _=>rfl⟩
theorem d1.trans(a:d1 X w w')(g:d1 Y w' w2)(d:∀k,k<w.heap.size->Y k->X k):d1 X w w2:=
 ⟨g.os.trans a.os,g.tape.trans a.tape,g.output.trans a.output,Dr a.size g.size,fun k b c=>(g.block k (D6 b a.size) fun e=>c (d k b e)).trans (a.block k b c)⟩
theorem d1.mono(a:d1 X w w')(c:∀k,k<w.heap.size->X k->Y k):d1 Y w w':=⟨a.os,a.tape,a.output,a.size,fun k b e=>a.block k b fun d=>e (c k b d)⟩
theorem d1.wb(X:Nat->Prop)(a:Cx w w'):d1 X w w':=⟨a.os,a.tape,a.output,a.size,fun k b _=>a.block k b⟩
theorem d1.below(a:d1 X w w'){B:Nat}(c:B<=w.heap.size)(d:∀k,k<B->¬X k):Below B w w':=⟨a.os,a.tape,a.output,a.size,fun k b=>a.block k (D6 b c) (d k b)⟩
theorem d1.set(w:C3){g:Nat}(a:X g)(i:Nat)(u:C4):d1 X w (w.setCell (g,i) u):=
 ⟨rfl,rfl,rfl,Uu,fun k _ b=>Dx w _ u k (fun e=>b (by have e:k=g:=e;rw[e];exact a))⟩
theorem d1.alloc(X:Nat->Prop)(w:C3)(o:Obj):d1 X w (w.alloc o):=d1.wb X (Zb.alloc Zr o)
theorem d1.drew(X:Nat->Prop)(w:C3):d1 X w w.drew:=d1.wb X Zb.drew
theorem d1.grown{b:Option Nat}(a:w.grownBy w' b)(d:∀k,b=some k->X k):d1 X w w':=⟨a.os,a.tape,a.output,a.size,fun k c f=>a.block k c fun e=>f (d k e.symm)⟩
theorem d1.at{k:Nat}{o:Obj}(b:d1 X w w')(c:¬X k)(a:w.heap[k]?=some o):w'.heap[k]?=some o:=(b.block k (Array.getElem?_eq_some_iff.1 a).1 c).trans a
end
def eA(L:Nat)(v v':C4):Prop:=v'.ownBlock=v.ownBlock\/∃g,v'.ownBlock=some g/\L<=g
theorem eA.refl(L:Nat)(v:C4):eA L v v:=.inl rfl
theorem eA.trans{d:Nat}{x:C4}(a:eA L u v)(g:eA d v x)(e:L<=d):eA L u x:=by
 rcases g with g|⟨k,b,c⟩
 .rcases a with a|⟨k,b,c⟩
  .exact .inl (g.trans a)
  .exact .inr ⟨k,g.trans b,c⟩
 .exact .inr ⟨k,b,Dr e c⟩
theorem eA.mono{a:Nat}(b:eA a u v)(c:L<=a):eA L u v:=(eA.refl L u).trans b c
theorem eA.not{k:Nat}(a:eA L u v)(_:k<L)(c:u.ownBlock≠some k):v.ownBlock≠some k:=by
 rcases a with a|⟨g,b,_⟩
 .rw[a];exact c
 .rw[b];intro e;injection e with e;omega
theorem eA.old{k:Nat}(b:eA L u v)(_:k<L)(a:v.ownBlock=some k):u.ownBlock=some k:=by
 rcases b with b|⟨g,c,_⟩
 .rw[<-b];exact a
 .rw[c]at a;injection a with a;omega
theorem eA.of_at{v':C4}(a:kn w v v')(d:L<=w.heap.size):eA L v v':=by
 rcases a with a|⟨g,b,c⟩
 .exact .inl a
 .exact .inr ⟨g,b,Dr d c⟩
theorem LG{B:Nat}{e:TypeId}{i m c:Nat}{j:Option Addr}{o:List C4}(q:w.ownsRow B e i (.slice j n c) n o)(a:m<=n):w.ownsRow B e i (.slice j m c) m (o.take (m*i)):=by
 obtain⟨r,s⟩:=q;refine⟨by rw[Yc,r];exact Y6 (Nat.mul_le_mul_right _ a),?_⟩;rcases s with⟨f,l⟩|⟨g,_,p,f,l,t,u,v,x,y⟩
 .injection f with b k d
  subst b k d;exact .inl ⟨by rw[Nat.le_zero.1 a],Nat.le_zero.1 a⟩
 .injection f with b k d
  subst b d;refine .inr ⟨g,c,p,rfl,l,t,Dr a u,v,x,?_⟩;rw[<-y,List.take_take,Y6 (Nat.mul_le_mul_right _ a)]
theorem I0{l:List UInt8}(h:xQ l=true):l≠[]/\l.all kK=true/\kI 0 l<9223372036854775808:=by
 simp only[xQ,Dv,decide_eq_true_eq]at h;refine⟨fun e=>?_,h.1.1.2,h.2⟩;rw[e]at h;simp at h
theorem sL(s:C2)(w:C3)(_:s.size<=281474976710656)(f:xQ s.data.toList=true):
 Cy 57 #[s] w (Cw ((kI 0 s.data.toList:Nat):Int) w):=by
 obtain⟨g,v,u⟩:=I0 f;have z:0<s.size:=by rw[Ya];exact List.length_pos_iff.2 g
 have L:s.toList.isEmpty=false:=by rw[Yh];simpa using g
 have p:=U v;have r:=U f;have j:=U u;clear g v f u;go_enter func57,ntmps57;go_wp2
 go_loop [3,4,5] (fun n i _=>∃(k m:Nat),k<=s.size/\i=.int .i64 k/\n=.int .i64 m/\m=kI 0 (s.data.toList.take k)/\m<9223372036854775808) (fun _ i _=>s.size-(intOf i).toNat)
 case atStart=>exact⟨0,0,Dw _,rfl,rfl,by rw[Yu,uj],O⟩
 case round=>
  obtain⟨k,m,_,rfl,rfl,x,_⟩:=hrel;have d:=U x;clear x;by_cases b:k<s.size
  .obtain⟨c,a⟩:∃c:Int,(s[k].toNat:Int)=c:=⟨_,rfl⟩
   have D:=fF s k b c a;have l:=U a;have C:=Q7 b p.o;have B:48<=c:=O
   have J:c<=57:=O
   clear a C
   have y:¬(9223372036854775807-(c-48)) / 10<(m:Int):=fun y=>by
    have:=y2 s k m b d.o c l.o B y;rw[r.o]at this;cases this
   go_wp2;have G:=l.o;have F:((m*10+(s[k].toNat-48):Nat):Int)=(m:Int)*10+(c-48):=O
   have E:=lS s.data.toList (k+1);rw[hY b,uk,<-d.o]at E;have K:=j.o;go_round
   case rel=>exact⟨k+1,m*10+(s[k].toNat-48),O,by go_num,by rw[F],by rw[hY b,uk,<-d.o],O⟩
   case measure=>simp[intOf];omega
  .have e:k=s.size:=by omega
   subst e
   have q:Dk (m=kI 0 s.data.toList):=by
    unfold Dk;rw[d.o,D9 (by rw[<-Ya];exact Dy _)]
   obtain⟨c,a⟩:∃c:Int,(s[0].toNat:Int)=c:=⟨_,rfl⟩
   have D:=oX s z c a
   have t:(decide (s.size=1) || decide (c≠48))=true:=by
    rw[<-r.o,DZ s z p.o j.o];congr 1;rw[Yg];simp;omega
   have A:=U t;clear a t;by_cases H:1<s.size
   .have I:c≠48:=by
     have:=A.o;rw[decide_eq_false (show ¬s.size=1 by omega),Bool.false_or]at this;exact of_decide_eq_true this
    go_wp2;exact Ii
   .go_wp2
    exact Ii
theorem ux{tj:List dY}(c:jr b V tj x w)(f:qC x=true)(d:Int):
 Cy 160 #[(b,0),(d:Int)] w fun e w'=>e=.returned pZ/\jP b V tj w x w':=by
 have a:=U (kX.start c);have g:=U f;clear c f;go_enter func160,ntmps160;go_wp2_with (go_at_call 53;(with_reducible refine(qL a.o.st true g.o).mono ?_);rintro e _ ⟨rfl,rfl⟩);exact bodyPost_ret (v:=pZ) (by simp[results,results160,go_sem,pZ]) rfl ⟨rfl,a.o.did⟩
theorem N6{tj:List dY}{n:Nat}(f:zc b V tj r false false w)(C:0<=d/\d<=1000)(g:zt [40] r=false)(i:zt gO r=true):
 Cy 160 #[(b,0),(d:Int)] w (qp b V tj w (pP (n+1) d r) (ky w.heap.size)):=by
 obtain⟨_,_⟩:=C;have D:=f.lt;have a:=U (kX.start (x:=.ok () r) f);have k:pP (n+1) d r=.ok (.mk 2 0 1 bE []) r.tail:=by rw[pP,g,i,Dl Up,Dm rfl]
 rw[k];have l:=C0 (zU (⟨#[40]⟩:C2).data.toList (PR.ok () r)=false) g;have m:=C0 (zU (⟨#[116,114,117,101]⟩:C2).data.toList (PR.ok () r)=true) i;clear f g i k;go_enter func160,ntmps160
 go_wp2_with (first
  |(go_at_call 53;(with_reducible refine(qL a.o.st false rfl).mono ?_);rintro e j ⟨rfl,rfl⟩)
  | (go_at_call 56;(with_reducible refine(zE a.o.st _ l.o).mono ?_);rintro e j ⟨rfl,c⟩
     replace a:=U (a.o.step c);clear c
     obtain⟨⟨p,q,s,t,u⟩,B⟩:=a.o.own)
  | (go_at_call 56;(with_reducible refine(zx a.o.st _ m.o).mono ?_);rintro e j ⟨rfl,c⟩
     replace a:=C0 (kX b _ tj w (.ok () r.tail) j) (a.o.step c);clear c
     obtain⟨⟨p,q,s,t,u⟩,B⟩:=a.o.own))
 obtain⟨y,f1,z,f3,A⟩:=a.o.read (.int .i64 2) (.int .i64 0) (.int .i64 1) (.string ⟨#[]⟩) (.slice none 0 0);refine bodyPost_ret (v:=.agg #[(2:Int),(0:Int),(1:Int),.string ⟨#[]⟩,()]) (by simp[results,results160,go_sem,y,f1,z,f3,A]) rfl ?_;exact a.o.fin (rfl) (fI _ _ 2 0 1 bE Xw)
theorem I1{tj:List dY}{n:Nat}(g:zc b V tj r false false w)(E:0<=d/\d<=1000)(i:zt [40] r=false)(j:zt gO r=false)(k:zt uf r=true):
 Cy 160 #[(b,0),(d:Int)] w (qp b V tj w (pP (n+1) d r) (ky w.heap.size)):=by
 obtain⟨_,_⟩:=E;have F:=g.lt;have a:=U (kX.start (x:=.ok () r) g);have t:pP (n+1) d r=.ok (.mk 2 0 0 bE []) r.tail:=by rw[pP,i,j,k,Dl Up,Dl Up,Dm rfl]
 rw[t];have y:=C0 (zU (⟨#[40]⟩:C2).data.toList (PR.ok () r)=false) i;have z:=C0 (zU (⟨#[116,114,117,101]⟩:C2).data.toList (PR.ok () r)=false) j;have A:=C0 (zU (⟨#[102,97,108,115,101]⟩:C2).data.toList (PR.ok () r)=true) k;clear g i j k t;go_enter func160,ntmps160
 go_wp2_with (first
  |(go_at_call 53;(with_reducible refine(qL a.o.st false rfl).mono ?_);rintro e f ⟨rfl,rfl⟩)
  | (go_at_call 56;(with_reducible refine(zE a.o.st _ y.o).mono ?_);rintro e f ⟨rfl,c⟩
     replace a:=U (a.o.step c);clear c
     obtain⟨⟨l,m,p,q,s⟩,u⟩:=a.o.own)
  | (go_at_call 56;(with_reducible refine(zE a.o.st _ z.o).mono ?_);rintro e f ⟨rfl,c⟩
     replace a:=U (a.o.step c);clear c
     obtain⟨⟨l,m,p,q,s⟩,u⟩:=a.o.own)
  | (go_at_call 56;(with_reducible refine(zx a.o.st _ A.o).mono ?_);rintro e f ⟨rfl,c⟩
     replace a:=C0 (kX b _ tj w (.ok () r.tail) f) (a.o.step c);clear c
     obtain⟨⟨l,m,p,q,s⟩,u⟩:=a.o.own))
 obtain⟨B,f1,C,f3,D⟩:=a.o.read (.int .i64 2) (.int .i64 0) (.int .i64 0) (.string ⟨#[]⟩) (.slice none 0 0);refine bodyPost_ret (v:=.agg #[(2:Int),(0:Int),(0:Int),.string ⟨#[]⟩,()]) (by simp[results,results160,go_sem,B,f1,C,f3,D]) rfl ?_;exact a.o.fin (rfl) (fI _ _ 2 0 0 bE Xw)
theorem N7{tj:List dY}{n:Nat}(p:zc b V tj r false false w)(G:0<=d/\d<=1000)(q:zt [40] r=false)(s:zt gO r=false)(t:zt uf r=false)(u:zt lV r=true):
 Cy 160 #[(b,0),(d:Int)] w (qp b V tj w (pP (n+1) d r) (ky w.heap.size)):=by
 obtain⟨_,_⟩:=G;have H:=p.lt;have a:=U (kX.start (x:=.ok () r) p);have y:pP (n+1) d r=(zQ [40] r.tail).bind fun _ r=>(zQ [41] r).bind fun _ r=>.ok (.mk 8 0 0 bE []) r:=by rw[pP,q,s,t,u,Dl Up,Dl Up,Dl Up,Dm rfl]
 rw[y];have z:=C0 (zU (⟨#[40]⟩:C2).data.toList (PR.ok () r)=false) q;have A:=C0 (zU (⟨#[116,114,117,101]⟩:C2).data.toList (PR.ok () r)=false) s;have B:=C0 (zU (⟨#[102,97,108,115,101]⟩:C2).data.toList (PR.ok () r)=false) t;have C:=C0 (zU (⟨#[114,101,97,100]⟩:C2).data.toList (PR.ok () r)=true) u;clear p q s t u y;go_enter func160,ntmps160
 go_wp2_with (first
  |(go_at_call 53;(with_reducible refine(qL a.o.st false rfl).mono ?_);rintro e f ⟨rfl,rfl⟩)
  | (go_at_call 56;(with_reducible refine(zE a.o.st _ z.o).mono ?_);rintro e f ⟨rfl,c⟩
     replace a:=U (a.o.step c);clear c
     obtain⟨⟨g,i,j,k,l⟩,m⟩:=a.o.own)
  | (go_at_call 56;(with_reducible refine(zE a.o.st _ A.o).mono ?_);rintro e f ⟨rfl,c⟩
     replace a:=U (a.o.step c);clear c
     obtain⟨⟨g,i,j,k,l⟩,m⟩:=a.o.own)
  | (go_at_call 56;(with_reducible refine(zE a.o.st _ B.o).mono ?_);rintro e f ⟨rfl,c⟩
     replace a:=U (a.o.step c);clear c
     obtain⟨⟨g,i,j,k,l⟩,m⟩:=a.o.own)
  | (go_at_call 56;(with_reducible refine(zx a.o.st _ C.o).mono ?_);rintro e f ⟨rfl,c⟩
     replace a:=C0 (kX b _ tj w (.ok () r.tail) f) (a.o.step c);clear c
     obtain⟨⟨g,i,j,k,l⟩,m⟩:=a.o.own)
  | (go_at_call 58;(with_reducible refine(zh a.o.st ⟨#[40]⟩).mono ?_);rintro e f ⟨rfl,c⟩
     replace a:=C0 (kX b _ tj w (zQ [40] r.tail) f) (a.o.step c)
     clear c)
  | (go_at_call 58;(with_reducible refine(zh a.o.st ⟨#[41]⟩).mono ?_);rintro e f ⟨rfl,c⟩
     replace a:=C0 (kX b _ tj w ((zQ [40] r.tail).bind fun _ r=>zQ [41] r) f) (a.o.step c);clear c
     obtain⟨⟨g,i,j,k,l⟩,m⟩:=a.o.own))
 obtain⟨D,f1,E,f3,F⟩:=a.o.read (.int .i64 8) (.int .i64 0) (.int .i64 0) (.string ⟨#[]⟩) (.slice none 0 0);refine bodyPost_ret (v:=.agg #[(8:Int),(0:Int),(0:Int),.string ⟨#[]⟩,()]) (by simp[results,results160,go_sem,D,f1,E,f3,F]) rfl ?_;exact a.o.fin (by rw[jo];simp only[xc]) (je.bind (P:=fun _=>True) (by unfold zQ;split;trivial;exact⟨(),trivial⟩) (fun _ r _ _=>vw (fI _ _ 8 0 0 bE Xw)) (fun _ _=>⟨_,fI _ _ 8 0 0 bE Xw⟩))
theorem I2{tj:List dY}(s:CE b V tj n 1 (d+1))(i:zc b V tj r false false w)(P:0<=d/\d<=1000)(j:zt [40] r=true)(m:zH (pP (n+1) d r)):
 Cy 160 #[(b,0),(d:Int)] w (qp b V tj w (pP (n+1) d r) (ky w.heap.size)):=by
 obtain⟨_,_⟩:=P;have R:=i.lt;have c:=U (kX.start (x:=.ok () r) i);rw[pP,Dm j]at m ⊢;have H:=C0 (zU (⟨#[40]⟩:C2).data.toList (PR.ok () r)=true) j;have q:=C0 (zH ((PR.ok () r.tail).bind fun _ r=>pE n 1 (d+1) r)) (qM m);have E:=U s;clear i j m s;go_enter func160,ntmps160
 go_wp2_with (first
  |(go_at_call 53;(with_reducible refine(qL c.o.st false rfl).mono ?_);rintro e p ⟨rfl,rfl⟩)
  | (go_at_call 56;(with_reducible refine(zx c.o.st _ H.o).mono ?_);rintro e p ⟨rfl,f⟩
     replace c:=C0 (kX b _ tj w (.ok () r.tail) p) (c.o.step f);clear f
     have Q:=c.o.size)
  | (go_at_call 126;(with_reducible refine(E.o.call c.o.st q.o).mono ?_);rintro e w2 ⟨v,rfl,f,l⟩
     obtain⟨u,y,z,A,B,C,D,rfl⟩:=jC l q.o;have F:=U l;have M:=c.o.st.lt;replace c:=U (c.o.step f);have N:w2.heap.size≠b:=by have:=c.o.st.lt;omega
     clear f l)
  | (go_at_call 58;(with_reducible refine(zh (c.o.alloc _).st _).mono ?_);rintro e _ ⟨rfl,f⟩
     have t:=(zK.wb (L:=p.heap.size) (Zb.alloc Zr _)).trans (zK.did f M);have G:=U t;obtain⟨_,_⟩:=rB f.off (k:=w2.heap.size) Ur N;replace c:=U ((c.o.alloc _).step f);clear f t
     obtain⟨⟨_,_,_,_,_⟩,_⟩:=c.o.own))
 obtain⟨I,f1,J,f3,K⟩:=c.o.read (.int .i64 u) (.int .i64 y) (.int .i64 z) (.string A) (.slice B C D);refine bodyPost_ret (v:=.agg #[(u:Int),(y:Int),(z:Int),A,(B,C,D)]) (by simp[results,results160,go_sem,I,f1,J,f3,K]) rfl ?_;refine c.o.fin ?_ ((F.o.imp fun a g=>(ky.keep g G.o Zr).wh Q _ _ _ _ _).bind (fun a r _ g=>vw g) fun a g=>⟨a,g⟩);rw[jo];simp only[xc];rw[<-q8];rfl
theorem SK{tj:List dY}{n:Nat}(z:zc b V tj r false false w)(ab:0<=d/\d<=1000)(C:zt [40] r=false)(D:zt gO r=false)(E:zt uf r=false)(F:zt lV r=false)(A:f7 r=0):
 Cy 160 #[(b,0),(d:Int)] w (qp b V tj w (pP (n+1) d r) (ky w.heap.size)):=by
 obtain⟨_,_⟩:=ab;have ah:=z.lt;have a:=U (kX.start (x:=.ok () r) z);have K:=z.num A;have J:pP (n+1) d r=.ok (.mk 1 0 (kI 0 (pT r)) bE []) r.tail:=by rw[pP,C,D,E,F,Dl Up,Dl Up,Dl Up,Dl Up,Dm A]
 rw[J];have M:=C0 (zU (⟨#[40]⟩:C2).data.toList (PR.ok () r)=false) C;have N:=C0 (zU (⟨#[116,114,117,101]⟩:C2).data.toList (PR.ok () r)=false) D;have P:=C0 (zU (⟨#[102,97,108,115,101]⟩:C2).data.toList (PR.ok () r)=false) E;have Q:=C0 (zU (⟨#[114,101,97,100]⟩:C2).data.toList (PR.ok () r)=false) F;have H:=U A;have B:=U K;clear z C D E F A J K;go_enter func160,ntmps160
 go_wp2_with (first
  |(go_at_call 53;(with_reducible refine(qL a.o.st false rfl).mono ?_);rintro e i ⟨rfl,rfl⟩)
  | (go_at_call 56;(with_reducible refine(zE a.o.st _ M.o).mono ?_);rintro e i ⟨rfl,f⟩
     replace a:=U (a.o.step f);clear f
     obtain⟨⟨j,l,p,s,u⟩,y⟩:=a.o.own)
  | (go_at_call 56;(with_reducible refine(zE a.o.st _ N.o).mono ?_);rintro e i ⟨rfl,f⟩
     replace a:=U (a.o.step f);clear f
     obtain⟨⟨j,l,p,s,u⟩,y⟩:=a.o.own)
  | (go_at_call 56;(with_reducible refine(zE a.o.st _ P.o).mono ?_);rintro e i ⟨rfl,f⟩
     replace a:=U (a.o.step f);clear f
     obtain⟨⟨j,l,p,s,u⟩,y⟩:=a.o.own)
  | (go_at_call 56;(with_reducible refine(zE a.o.st _ Q.o).mono ?_);rintro e i ⟨rfl,f⟩
     replace a:=U (a.o.step f);clear f
     obtain⟨⟨j,l,p,s,u⟩,y⟩:=a.o.own))
 obtain⟨g,c,k,t,q,rfl,rfl,ad,_,_,R,S,T,W,L,ae,af⟩:=(show zc b V tj r false false i from a.o.st).tok;have ag:(k:Int)<tj.length:=O
 clear ad;rw[show t.kind=0 from H.o]at L
 go_quiet (fail)
 replace a:=U (a.o.drewN nq);clear R S T W L ae af;obtain⟨m,G⟩:∃m:Nat,kI 0 (⟨t.text.toArray⟩:C2).data.toList=m:=⟨_,rfl⟩
 have ai:m<9223372036854775808:=by rw[<-G];exact B.o.2.2
 have I:=U G;clear G
 go_wp2_with (first
  | (go_at_call 55;(with_reducible refine(gS a.o.st 0 Up H.o ⟨t.text.toArray⟩ rfl).mono ?_);rintro e w2 ⟨rfl,f⟩
     replace a:=U (a.o.step f);clear f
     obtain⟨⟨j,l,p,s,u⟩,y⟩:=a.o.own)
  |(go_at_call 57;(refine(sL ⟨t.text.toArray⟩ _ B.o.1 B.o.2.1).mono ?_);rintro e _ ⟨rfl,rfl⟩;rw[I.o]))
 have X:Ex.mk 1 0 (kI 0 (pT (t::q)):Nat) bE []=.mk 1 0 m bE []:=congrArg (fun x:Nat=>Ex.mk 1 0 x bE []) I.o;rw[X];obtain⟨Y,f1,Z,f3,aa⟩:=a.o.read (.int .i64 1) (.int .i64 0) (.int .i64 m) (.string ⟨#[]⟩) (.slice none 0 0);refine bodyPost_ret (v:=.agg #[(1:Int),(0:Int),(m:Int),.string ⟨#[]⟩,()]) (by simp[results,results160,go_sem,Y,f1,Z,f3,aa]) rfl ?_;exact a.o.fin (rfl) (fI _ _ 1 0 m bE (by unfold eF;omega))
theorem SM{tj:List dY}{n:Nat}(z:zc b V tj r false false w)(Z:0<=d/\d<=1000)(A:zt [40] r=false)(B:zt gO r=false)(C:zt uf r=false)(D:zt lV r=false)(E:f7 r≠0)(F:f7 r≠1):
 Cy 160 #[(b,0),(d:Int)] w (qp b V tj w (pP (n+1) d r) (ky w.heap.size)):=by
 obtain⟨_,_⟩:=Z;have ah:=z.lt;have a:=U (kX.start (x:=.ok () r) z);have G:pP (n+1) d r=.bad r:=by rw[pP,A,B,C,D,Dl Up,Dl Up,Dl Up,Dl Up,Dl E];unfold qt;rw[Dl F];rfl
 rw[G];have L:=C0 (zU (⟨#[40]⟩:C2).data.toList (PR.ok () r)=false) A;have M:=C0 (zU (⟨#[116,114,117,101]⟩:C2).data.toList (PR.ok () r)=false) B;have N:=C0 (zU (⟨#[102,97,108,115,101]⟩:C2).data.toList (PR.ok () r)=false) C;have P:=C0 (zU (⟨#[114,101,97,100]⟩:C2).data.toList (PR.ok () r)=false) D;have J:=U E;have K:=U F;have H:=C0 (zU (⟨#[40]⟩:C2).data.toList ((PR.bad r:PR Unit))=false) rfl;have I:=C0 (zU (⟨#[91]⟩:C2).data.toList ((PR.bad r:PR Unit))=false) rfl;clear z A B C D E F G;go_enter func160,ntmps160
 go_wp2_with (first
  |(go_at_call 53;(with_reducible refine(qL a.o.st false rfl).mono ?_);rintro e i ⟨rfl,rfl⟩)
  | (go_at_call 56;(with_reducible refine(zE a.o.st _ L.o).mono ?_);rintro e i ⟨rfl,f⟩
     replace a:=U (a.o.step f);clear f
     obtain⟨⟨j,l,m,p,u⟩,y⟩:=a.o.own)
  | (go_at_call 56;(with_reducible refine(zE a.o.st _ M.o).mono ?_);rintro e i ⟨rfl,f⟩
     replace a:=U (a.o.step f);clear f
     obtain⟨⟨j,l,m,p,u⟩,y⟩:=a.o.own)
  | (go_at_call 56;(with_reducible refine(zE a.o.st _ N.o).mono ?_);rintro e i ⟨rfl,f⟩
     replace a:=U (a.o.step f);clear f
     obtain⟨⟨j,l,m,p,u⟩,y⟩:=a.o.own)
  | (go_at_call 56;(with_reducible refine(zE a.o.st _ P.o).mono ?_);rintro e i ⟨rfl,f⟩
     replace a:=U (a.o.step f);clear f
     obtain⟨⟨j,l,m,p,u⟩,y⟩:=a.o.own))
 obtain⟨g,c,k,t,q,rfl,rfl,aa,_,_,Q,R,S,T,ab,ad,ae⟩:=(show zc b V tj r false false i from a.o.st).tok;have ag:(k:Int)<tj.length:=O
 clear aa;have af:(t.kind == 0)=false:=by have:=J.o;simpa[f7]using this
 go_quiet (fail)
 replace a:=U (a.o.drewN nq);clear Q R S T ab ad ae
 go_wp2_with (first
  | (go_at_call 55;(with_reducible refine(X4 a.o.st 1 Up K.o).mono ?_);rintro e w2 ⟨s,rfl,f⟩
     replace a:=U (a.o.step f)
     clear f)
  | (go_at_call 56;(with_reducible refine(zE a.o.st _ H.o).mono ?_);rintro e i ⟨rfl,f⟩
     replace a:=U (a.o.step f);clear f
     obtain⟨⟨j,l,m,p,u⟩,y⟩:=a.o.own)
  | (go_at_call 56;(with_reducible refine(zE a.o.st _ I.o).mono ?_);rintro e i ⟨rfl,f⟩
     replace a:=U (a.o.step f);clear f
     obtain⟨⟨j,l,m,p,u⟩,y⟩:=a.o.own))
 obtain⟨W,f1,X,f3,Y⟩:=a.o.read (.int .i64 3) (.int .i64 0) (.int .i64 0) (.string s) (.slice none 0 0);refine bodyPost_ret (v:=.agg #[(3:Int),(0:Int),(0:Int),s,()]) (by simp[results,results160,go_sem,W,f1,X,f3,Y]) rfl ?_;exact a.o.fin (rfl) (⟨_,fI _ _ 3 0 0 s Xw⟩)
theorem N8{tj:List dY}(B:zc b V tj r false false w)(ag:0<=d/\d<=1000)(C:zt [40] r=false)(D:zt gO r=false)(E:zt uf r=false)(F:zt lV r=false)(z:f7 r=1)(H:zt [40] r.tail=false)(I:zt [91] r.tail=false)(J:zH (pP (n+1) d r)):
 Cy 160 #[(b,0),(d:Int)] w (qp b V tj w (pP (n+1) d r) (ky w.heap.size)):=by
 obtain⟨_,_⟩:=ag;have an:=B.lt;have a:=U (kX.start (x:=.ok () r) B);obtain⟨s,K⟩:∃s:C2,s=⟨(pT r).toArray⟩:=⟨_,rfl⟩
 have G:f7 r≠0:=by rw[z];decide
 have A:pP (n+1) d r=pN n d s r.tail:=by rw[pP,C,D,E,F,Dl Up,Dl Up,Dl Up,Dl Up,Dl G,K];unfold qt;rw[Dm z];rfl
 cases n with
 |zero=>rw[A,pN]at J;exact absurd J id
 |succ n=>
 have L:pN (n+1) d s r.tail=.ok (.mk 3 0 0 s []) r.tail:=by rw[pN,H,I,Dl Up,Dl Up]
 rw[A,L];have S:=C0 (zU (⟨#[40]⟩:C2).data.toList (PR.ok () r)=false) C;have T:=C0 (zU (⟨#[116,114,117,101]⟩:C2).data.toList (PR.ok () r)=false) D;have W:=C0 (zU (⟨#[102,97,108,115,101]⟩:C2).data.toList (PR.ok () r)=false) E;have X:=C0 (zU (⟨#[114,101,97,100]⟩:C2).data.toList (PR.ok () r)=false) F;have P:=U G;have Q:=U z;have R:=U K;have M:=C0 (zU (⟨#[40]⟩:C2).data.toList (PR.ok () r.tail)=false) H;have N:=C0 (zU (⟨#[91]⟩:C2).data.toList (PR.ok () r.tail)=false) I;clear B C D E F G z H I A L K J;go_enter func160,ntmps160
 go_wp2_with (first
  |(go_at_call 53;(with_reducible refine(qL a.o.st false rfl).mono ?_);rintro e i ⟨rfl,rfl⟩)
  | (go_at_call 56;(with_reducible refine(zE a.o.st _ S.o).mono ?_);rintro e i ⟨rfl,f⟩
     replace a:=U (a.o.step f);clear f
     obtain⟨⟨j,l,m,p,u⟩,y⟩:=a.o.own)
  | (go_at_call 56;(with_reducible refine(zE a.o.st _ T.o).mono ?_);rintro e i ⟨rfl,f⟩
     replace a:=U (a.o.step f);clear f
     obtain⟨⟨j,l,m,p,u⟩,y⟩:=a.o.own)
  | (go_at_call 56;(with_reducible refine(zE a.o.st _ W.o).mono ?_);rintro e i ⟨rfl,f⟩
     replace a:=U (a.o.step f);clear f
     obtain⟨⟨j,l,m,p,u⟩,y⟩:=a.o.own)
  | (go_at_call 56;(with_reducible refine(zE a.o.st _ X.o).mono ?_);rintro e i ⟨rfl,f⟩
     replace a:=U (a.o.step f);clear f
     obtain⟨⟨j,l,m,p,u⟩,y⟩:=a.o.own))
 obtain⟨g,c,k,t,q,rfl,rfl,ah,_,_,Y,Z,aa,ab,ai,aj,ak⟩:=(show zc b V tj r false false i from a.o.st).tok;have am:(k:Int)<tj.length:=O
 clear ah;have al:(t.kind == 0)=false:=by have:=P.o;simpa[f7]using this
 go_quiet (fail)
 replace a:=U (a.o.drewN nq);clear Y Z aa ab ai aj ak
 go_wp2_with (first
  | (go_at_call 55;(with_reducible refine(gS a.o.st 1 Up Q.o s R.o).mono ?_);rintro e w2 ⟨rfl,f⟩
     replace a:=U (a.o.step f)
     clear f)
  | (go_at_call 56;(with_reducible refine(zE a.o.st _ M.o).mono ?_);rintro e i ⟨rfl,f⟩
     replace a:=U (a.o.step f);clear f
     obtain⟨⟨j,l,m,p,u⟩,y⟩:=a.o.own)
  | (go_at_call 56;(with_reducible refine(zE a.o.st _ N.o).mono ?_);rintro e i ⟨rfl,f⟩
     replace a:=U (a.o.step f);clear f
     obtain⟨⟨j,l,m,p,u⟩,y⟩:=a.o.own))
 obtain⟨ad,f1,ae,f3,af⟩:=a.o.read (.int .i64 3) (.int .i64 0) (.int .i64 0) (.string s) (.slice none 0 0);refine bodyPost_ret (v:=.agg #[(3:Int),(0:Int),(0:Int),s,()]) (by simp[results,results160,go_sem,ad,f1,ae,f3,af]) rfl ?_;exact a.o.fin (rfl) (fI _ _ 3 0 0 s Xw)
theorem N9{tj:List dY}(P:CA b V tj n (d+1))(B:zc b V tj r false false w)(ap:0<=d/\d<=1000)(C:zt [40] r=false)(D:zt gO r=false)(E:zt uf r=false)(F:zt lV r=false)(A:f7 r=1)(H:zt [40] r.tail=true)(J:zH (pP (n+2) d r)):
 Cy 160 #[(b,0),(d:Int)] w (qp b V tj w (pP (n+2) d r) (ky w.heap.size)):=by
 obtain⟨_,_⟩:=ap;have aA:=B.lt;have f:=U (kX.start (x:=.ok () r) B);obtain⟨s,K⟩:∃s:C2,s=⟨(pT r).toArray⟩:=⟨_,rfl⟩
 have G:f7 r≠0:=by rw[A];decide
 have M:pP (n+2) d r=pN (n+1) d s r.tail:=by rw[pP,C,D,E,F,Dl Up,Dl Up,Dl Up,Dl Up,Dl G,K];unfold qt;rw[Dm A];rfl
 have N:pN (n+1) d s r.tail=(pA n (d+1) r.tail.tail).bind fun al r=>.ok (.mk 7 0 0 s al) r:=by rw[pN,H,Dm rfl]
 rw[M,N]at J ⊢;have L:=C0 (zH ((PR.ok () r.tail.tail).bind fun _ r=>pA n (d+1) r)) (qM J);have Y:=U P;have ab:=C0 (zU (⟨#[40]⟩:C2).data.toList (PR.ok () r)=false) C;have ad:=C0 (zU (⟨#[116,114,117,101]⟩:C2).data.toList (PR.ok () r)=false) D;have ae:=C0 (zU (⟨#[102,97,108,115,101]⟩:C2).data.toList (PR.ok () r)=false) E;have af:=C0 (zU (⟨#[114,101,97,100]⟩:C2).data.toList (PR.ok () r)=false) F;have W:=U G;have X:=U A;have aa:=U K;have ag:=C0 (zU (⟨#[40]⟩:C2).data.toList (PR.ok () r.tail)=true) H;clear B C D E F G A H M N K J P;go_enter func160,ntmps160
 go_wp2_with (first
  |(go_at_call 53;(with_reducible refine(qL f.o.st false rfl).mono ?_);rintro e j ⟨rfl,rfl⟩)
  | (go_at_call 56;(with_reducible refine(zE f.o.st _ ab.o).mono ?_);rintro e j ⟨rfl,i⟩
     replace f:=U (f.o.step i);clear i
     obtain⟨⟨l,m,p,u,y⟩,z⟩:=f.o.own)
  | (go_at_call 56;(with_reducible refine(zE f.o.st _ ad.o).mono ?_);rintro e j ⟨rfl,i⟩
     replace f:=U (f.o.step i);clear i
     obtain⟨⟨l,m,p,u,y⟩,z⟩:=f.o.own)
  | (go_at_call 56;(with_reducible refine(zE f.o.st _ ae.o).mono ?_);rintro e j ⟨rfl,i⟩
     replace f:=U (f.o.step i);clear i
     obtain⟨⟨l,m,p,u,y⟩,z⟩:=f.o.own)
  | (go_at_call 56;(with_reducible refine(zE f.o.st _ af.o).mono ?_);rintro e j ⟨rfl,i⟩
     replace f:=U (f.o.step i);clear i
     obtain⟨⟨l,m,p,u,y⟩,z⟩:=f.o.own))
 obtain⟨g,c,k,t,q,rfl,rfl,aq,_,_,ah,ai,aj,ak,au,av,aw⟩:=(show zc b V tj r false false j from f.o.st).tok;have az:(k:Int)<tj.length:=O
 clear aq;have ay:(t.kind == 0)=false:=by have:=W.o;simpa[f7]using this
 go_quiet (fail)
 replace f:=U (f.o.drewN nq);clear ah ai aj ak au av aw
 go_wp2_with (first
  | (go_at_call 55;(with_reducible refine(gS f.o.st 1 Up X.o s aa.o).mono ?_);rintro e w2 ⟨rfl,i⟩
     replace f:=U (f.o.step i)
     clear i)
  | (go_at_call 56;(with_reducible refine(zx f.o.st _ ag.o).mono ?_);rintro e ax ⟨rfl,i⟩
     replace f:=C0 (kX b _ tj w (.ok () (t::q).tail.tail) ax) (f.o.step i);clear i
     have ar:=f.o.size)
  | (go_at_call 150;(with_reducible refine(Y.o.call f.o.st L.o).mono ?_);rintro e _ ⟨v,rfl,i,I⟩
     obtain⟨R,S,T,rfl⟩:=z4 I L.o;have Z:=U I;replace f:=U (f.o.step i);clear i I
     obtain⟨⟨l,m,p,u,y⟩,z⟩:=f.o.own))
 obtain⟨am,f1,an,f3,ao⟩:=f.o.read (.int .i64 7) (.int .i64 0) (.int .i64 0) (.string s) (.slice R S T);refine bodyPost_ret (v:=.agg #[(7:Int),(0:Int),(0:Int),s,(R,S,T)]) (by simp[results,results160,go_sem,am,f1,an,f3,ao]) rfl ?_;refine f.o.fin Kw (je.bind Z.o (fun a r _ Q=>?_) fun a Q=>⟨.mk 7 0 0 s a,?_⟩)
 all_goals exact⟨_,rfl,⟨Vx,Vu⟩,Q.wh ar _ _ _ _ _⟩
theorem I3{tj:List dY}(W:CE b V tj n 1 (d+1))(D:zc b V tj r false false w)(ax:0<=d/\d<=1000)(E:zt [40] r=false)(F:zt gO r=false)(G:zt uf r=false)(H:zt lV r=false)(B:f7 r=1)(J:zt [40] r.tail=false)(K:zt [91] r.tail=true)(N:zH (pP (n+2) d r)):
 Cy 160 #[(b,0),(d:Int)] w (qp b V tj w (pP (n+2) d r) (ky w.heap.size)):=by
 obtain⟨_,_⟩:=ax;have aL:=D.lt;have f:=U (kX.start (x:=.ok () r) D);obtain⟨s,P⟩:∃s:C2,s=⟨(pT r).toArray⟩:=⟨_,rfl⟩
 have I:f7 r≠0:=by rw[B];decide
 have S:pP (n+2) d r=pN (n+1) d s r.tail:=by rw[pP,E,F,G,H,Dl Up,Dl Up,Dl Up,Dl Up,Dl I,P];unfold qt;rw[Dm B];rfl
 have T:pN (n+1) d s r.tail=(pE n 1 (d+1) r.tail.tail).bind fun e r=>(zQ [93] r).bind fun _ r=>.ok (.mk 6 0 0 s [e]) r:=by rw[pN,J,K,Dl Up,Dm rfl]
 rw[S,T]at N ⊢;have R:=C0 (zH ((PR.ok () r.tail.tail).bind fun _ r=>pE n 1 (d+1) r)) (qM N);have ad:=U W;have ah:=C0 (zU (⟨#[40]⟩:C2).data.toList (PR.ok () r)=false) E;have ai:=C0 (zU (⟨#[116,114,117,101]⟩:C2).data.toList (PR.ok () r)=false) F;have aj:=C0 (zU (⟨#[102,97,108,115,101]⟩:C2).data.toList (PR.ok () r)=false) G;have ak:=C0 (zU (⟨#[114,101,97,100]⟩:C2).data.toList (PR.ok () r)=false) H;have aa:=U I;have ab:=U B;have ag:=U P;have Z:=C0 (zU (⟨#[40]⟩:C2).data.toList (PR.ok () r.tail)=false) J;have al:=C0 (zU (⟨#[91]⟩:C2).data.toList (PR.ok () r.tail)=true) K;clear D E F G H I B J K S T P N W;go_enter func160,ntmps160
 go_wp2_with (first
  |(go_at_call 53;(with_reducible refine(qL f.o.st false rfl).mono ?_);rintro e A ⟨rfl,rfl⟩)
  | (go_at_call 56;(with_reducible refine(zE f.o.st _ ah.o).mono ?_);rintro e A ⟨rfl,i⟩
     replace f:=U (f.o.step i);clear i
     obtain⟨⟨j,l,m,p,u⟩,y⟩:=f.o.own)
  | (go_at_call 56;(with_reducible refine(zE f.o.st _ ai.o).mono ?_);rintro e A ⟨rfl,i⟩
     replace f:=U (f.o.step i);clear i
     obtain⟨⟨j,l,m,p,u⟩,y⟩:=f.o.own)
  | (go_at_call 56;(with_reducible refine(zE f.o.st _ aj.o).mono ?_);rintro e A ⟨rfl,i⟩
     replace f:=U (f.o.step i);clear i
     obtain⟨⟨j,l,m,p,u⟩,y⟩:=f.o.own)
  | (go_at_call 56;(with_reducible refine(zE f.o.st _ ak.o).mono ?_);rintro e A ⟨rfl,i⟩
     replace f:=U (f.o.step i);clear i
     obtain⟨⟨j,l,m,p,u⟩,y⟩:=f.o.own))
 obtain⟨g,c,k,t,q,rfl,rfl,C,_,_,am,an,ao,ap,aG,aH,aI⟩:=(show zc b V tj r false false A from f.o.st).tok;have aK:(k:Int)<tj.length:=O
 clear C;have aJ:(t.kind == 0)=false:=by have:=aa.o;simpa[f7]using this
 go_quiet (fail)
 replace f:=U (f.o.drewN nq);clear am an ao ap aG aH aI
 go_wp2_with (first
  | (go_at_call 55;(with_reducible refine(gS f.o.st 1 Up ab.o s ag.o).mono ?_);rintro e w2 ⟨rfl,i⟩
     replace f:=U (f.o.step i)
     clear i)
  | (go_at_call 56;(with_reducible refine(zE f.o.st _ Z.o).mono ?_);rintro e _ ⟨rfl,i⟩
     replace f:=U (f.o.step i);clear i
     obtain⟨⟨j,l,m,p,u⟩,y⟩:=f.o.own)
  | (go_at_call 56;(with_reducible refine(zx f.o.st _ al.o).mono ?_);rintro e X ⟨rfl,i⟩
     replace f:=C0 (kX b _ tj w (.ok () (t::q).tail.tail) X) (f.o.step i);clear i
     have ay:=f.o.size)
  | (go_at_call 126;(with_reducible refine(ad.o.call f.o.st R.o).mono ?_);rintro e Y ⟨v,rfl,i,M⟩
     obtain⟨az,aA,aB,aC,aD,aE,aF,rfl⟩:=jC M R.o;have ae:=U M;have av:=f.o.st.lt;replace f:=U (f.o.step i);have aw:Y.heap.size≠b:=by have:=f.o.st.lt;omega
     clear i M)
  | (go_at_call 58;(with_reducible refine(zh (f.o.alloc _).st _).mono ?_);rintro e Q ⟨rfl,i⟩
     have C:=(zK.wb (L:=X.heap.size) (Zb.alloc Zr _)).trans (zK.did i av);have af:=U C;obtain⟨_,_⟩:=rB i.off (k:=Y.heap.size) Ur aw;replace f:=U ((f.o.alloc _).step i);have aM:=f.o.size;clear i C
     obtain⟨⟨j,l,m,p,u⟩,y⟩:=f.o.own))
 obtain⟨aq,f1,ar,f3,au⟩:=f.o.wu (.cells #[(az:Int),(aA:Int),(aB:Int),aC,(aD,aE,aF)] 147) (.int .i64 6) (.int .i64 0) (.int .i64 0) (.string s) (.slice (some ⟨Q.heap.size,0,none⟩) 1 1);refine bodyPost_ret (v:=.agg #[(6:Int),(0:Int),(0:Int),s,.slice (some ⟨Q.heap.size,0,none⟩) 1 1]) (by simp[results,results160,go_sem,aq,f1,ar,f3,au]) rfl ?_;refine f.o.dc ?_ ((ae.o.imp fun a z=>(show ky w.heap.size ((gF Q w.heap.size _ _ _ _ _).alloc _) (.mk 6 0 0 s [a]) _ from⟨_,rfl,⟨Vx,Vu⟩,ug ((ky.keep z af.o Zr).wh ay _ _ _ _ _) Zr (by rw[xk];omega) (xk _ _ _ _ _ _ _).symm⟩)).bind (fun a r _ z=>vw z) fun a z=>⟨_,z⟩);rw[jo];simp only[xc];rw[<-q8];rfl
def uA(a:Int):Nat->List Int
 |0=>[]
 |m+1=>a::uA (a+1) m
theorem sM:IJ=uA 1 19:=Up
theorem sN:NE=uA 20 9:=Up
def SN(lev:Int)(l:List dY)(op:Int):Bool:=decide (kL op=lev)&&zt (pV op) l
theorem o8(lev:Int)(l:List dY)(a:Int)(r:List Int):xb lev l (a::r)=if SN lev l a=true then a else xb lev l r:=by
 rw[xb];unfold SN;simp only[Dv,decide_eq_true_eq]
theorem sO{lev:Int}(b:SN lev l k=true):∀(m:Nat) (a:Int),a<=k->k<a+m->(∀j,a<=j->j<k->SN lev l j=false)->xb lev l (uA a m)=k
 |0,a,h1,h2,_=>O
 | m+1,a,h1,h2,h=>by
   rw[uA,o8];by_cases e:a=k
   .subst e
    rw[Dm b]
   .rw[h a (Int.le_refl _) O,Dl Up]
    exact sO b m (a+1) O O fun j _=>h j O
theorem o9{lev:Int}:∀(m:Nat) (a:Int),(∀j,a<=j->j<a+m->SN lev l j=false)->xb lev l (uA a m)=0
 |0,a,_=>rfl
 | m+1,a,h=>by
   rw[uA,o8,h a (Int.le_refl _) O,Dl Up];exact o9 m (a+1) fun j _ _=>h j O O
theorem sP(b:zt (pV k) l=true):∀(m:Nat) (a:Int),a<=k->k<a+m->(∀j,a<=j->j<k->zt (pV j) l=false)->xw l (uA a m)=k
 |0,a,h1,h2,_=>O
 | m+1,a,h1,h2,h=>by
   rw[uA,xw];by_cases e:a=k
   .subst e
    rw[Dm b]
   .rw[h a (Int.le_refl _) O,Dl Up]
    exact sP b m (a+1) O O fun j _=>h j O
theorem pC:∀(m:Nat) (a:Int),(∀j,a<=j->j<a+m->zt (pV j) l=false)->xw l (uA a m)=0
 |0,a,_=>rfl
 | m+1,a,h=>by
   rw[uA,xw,h a (Int.le_refl _) O,Dl Up];exact pC m (a+1) fun j _ _=>h j O O
def opX(lev:Int)(x:PR Unit):Int:=match x with | .ok _ r=>EF lev r|_=>0
def j2(lev:Int)(x:PR Unit)(op:Int):Bool:=decide (kL op=lev)&&zU (pV op) x
theorem YI{lev:Int}(d:1<=k)(_:k<=19)(b:j2 lev x k=true)(c:∀j,1<=j->j<k->j2 lev x j=false):opX lev x=k:=by
 cases x with
 |ok a r=>
   show xb lev r IJ=k;rw[sM];exact sO b 19 1 d O c
 |_=>simp[j2,zU]at b
theorem SO{lev:Int}(h:∀j,1<=j->j<20->j2 lev x j=false):opX lev x=0:=by
 cases x with
 |ok a r=>
   show xb lev r IJ=0;rw[sM];exact o9 19 1 h
 |_=>rfl
theorem n0(op l:Int)(h:kL op=l)(w:C3):Cy 105 #[(op:Int)] w (Cw (l:Int) w):=h▸rV op w
theorem xn{tj:List dY}(op:Int)(s:C2)(d:xU op=s)(c:jr b V tj x w):Cy 21 #[(op:Int)] w fun e w'=>e=.returned (.string s)/\jP b V tj w x w':=by
 subst d;exact(NB op w).mono fun _ _ ⟨f,a⟩=>⟨f,c.below a,dX.wb a c.lt⟩
theorem jl{tj:List dY}(a:jr b V tj x w)(s:C2)(v:Bool)(f:zU s.data.toList x=v):
 Cy 81 #[(b,0),s] w fun e w'=>e=.returned (.bool v)/\jP b V tj w x w':=
 (RJ a s v f).mono fun _ _ ⟨c,m,d⟩=>⟨c,d▸⟨a.drewN m,(dX.refl b _ w).drewN m⟩⟩
theorem I4{tj:List dY}(v:jr b V tj x w)(lev:Int)(o:Int)(A:opX lev x=o):
 Cy 149 #[(b,0),(lev:Int)] w fun e w'=>e=.returned (o:Int)/\jP b V tj w x w':=by
 have a:=C0 (jP b V tj w x w) ⟨v,dX.refl _ _ _⟩;have t:=U A;clear v A;go_enter func149,ntmps149;go_wp2
 go_loopw [5] (fun i wr=>∃k:Int,i=.int .i64 k/\1<=k/\k<=20/\(∀j,1<=j->j<k->j2 lev x j=false)/\jP b V tj w x wr) (fun i _=>(20-intOf i).toNat)
 case atStart=>exact⟨1,rfl,O,O,fun j n y=>O,a.o⟩
 case round=>
  obtain⟨k,rfl,E,_,z,c⟩:=hrel;have d:=U z;replace a:=U c;clear z c;by_cases F:k<=19
  .obtain⟨l,f⟩:=Cz (kL k)
   obtain⟨s,g⟩:=Cz (xU k);have q:=U f;have u:=U g;by_cases p:l=lev
   .subst p
    cases hv:zU s.data.toList x with
    |true=>
      have B:opX l x=k:=YI E F (by unfold j2 pV;rw[g,hv,decide_eq_true f];rfl) d.o;have r:=U hv;have D:=U (B.symm.trans t.o);clear f g hv B
      go_wp2_with (first
       |(go_at_call 105;(with_reducible refine(n0 k l q.o _).mono ?_);rintro e C ⟨rfl,rfl⟩)
       |(go_at_call 21;(with_reducible refine(xn k s u.o a.o.st).mono ?_);rintro e w2 ⟨rfl,c⟩;replace a:=U (a.o.after c);clear c)
       |(go_at_call 81;(with_reducible refine(jl a.o.st s true r.o).mono ?_);rintro e G ⟨rfl,c⟩;replace a:=U (a.o.after c);clear c))
      go_ret;exact⟨qK D.o,a.o⟩
    |false=>
      have m:∀j,1<=j->j<k+1->j2 l x j=false:=fun j n y=>by
       by_cases e:j=k
       .subst e
        unfold j2 pV;rw[g,hv,Bool.and_false]
       .exact d.o j n O
      replace d:=U m;have r:=U hv;clear f g hv m
      go_wp2_with (first
       |(go_at_call 105;(with_reducible refine(n0 k l q.o _).mono ?_);rintro e C ⟨rfl,rfl⟩)
       |(go_at_call 21;(with_reducible refine(xn k s u.o a.o.st).mono ?_);rintro e w2 ⟨rfl,c⟩;replace a:=U (a.o.after c);clear c)
       |(go_at_call 81;(with_reducible refine(jl a.o.st s false r.o).mono ?_);rintro e G ⟨rfl,c⟩;replace a:=U (a.o.after c);clear c))
      exact Ih
   .have H:(l == lev)=false:=by simpa using p
    have m:∀j,1<=j->j<k+1->j2 lev x j=false:=fun j n y=>by
     by_cases e:j=k
     .subst e
      unfold j2;rw[f,decide_eq_false p,Bool.false_and]
     .exact d.o j n O
    replace d:=U m;clear f g m p
    go_wp2_with (first
     |(go_at_call 105;(with_reducible refine(n0 k l q.o _).mono ?_);rintro e C ⟨rfl,rfl⟩))
    exact Ih
  .obtain rfl:k=20:=by omega
   go_wp2;go_ret;exact⟨qK (by rw[<-t.o,SO d.o]),a.o⟩
def CP(b:Nat)(V:C4)(tj:List dY)(n:Nat)(d:Int):Prop:=∀(w:C3) (x:PR Unit),jr b V tj x w->zH (x.bind fun _ r=>pP n d r)->
 Cy 160 #[(b,0),(d:Int)] w (qp b V tj w (x.bind fun _ r=>pP n d r) (ky w.heap.size))
theorem CP.call{tj:List dY}(a:CP b V tj n d)(e:jr b V tj x w)(c:zH (x.bind fun _ r=>pP n d r)):
 Cy 160 #[(b,0),(d:Int)] w (qp b V tj w (x.bind fun _ r=>pP n d r) (ky w.heap.size)):=a w x e c
def CU(b:Nat)(V:C4)(tj:List dY)(n:Nat)(d:Int):Prop:=∀(w:C3) (x:PR Unit),jr b V tj x w->zH (x.bind fun _ r=>pU n d r)->
 Cy 148 #[(b,0),(d:Int)] w (qp b V tj w (x.bind fun _ r=>pU n d r) (ky w.heap.size))
theorem CU.call{tj:List dY}(a:CU b V tj n d)(e:jr b V tj x w)(c:zH (x.bind fun _ r=>pU n d r)):
 Cy 148 #[(b,0),(d:Int)] w (qp b V tj w (x.bind fun _ r=>pU n d r) (ky w.heap.size)):=a w x e c
theorem n3(a:qC x=true)(s:List UInt8):zU s x=false:=by
 cases x with
 |ok u r=>cases a
 |_=>rfl
theorem mH{α:Type}{tj:List dY}(e:qC x=true){f:List dY->PR α}{F:C3->α->C4->Prop}(c:jP b V tj w x W)(a:α)(d:F W a v):qp b V tj w (x.bind fun _ r=>f r) F (.returned v) W:=by
 cases x with
 |ok u r=>cases e
 |bad r=>exact⟨v,rfl,c,a,d⟩
 |deep r=>exact⟨v,rfl,c,a,d⟩
 |o=>exact absurd c.st id
theorem SP{tj:List dY}(k:∀m,m<=n->CE b V tj m 1 (d+1))(l:∀m,m<=n->CA b V tj m (d+1))(c:0<=d/\d<=1000):CP b V tj (n+1) d:=by
 intro w x j s;cases ho:qC x with
 |true=>exact(ux j ho d).mono fun e w' ⟨q,p⟩=>q▸mH ho p ex0 (k1 _ _)
 |false=>
   cases x with
   |ok u r=>
     have f:zc b V tj r false false w:=j;have a:zH (pP (n+1) d r):=s;show Calls _ _ _ _ (qp b V tj w (pP (n+1) d r) _);cases h1:zt [40] r with
     |true=>exact I2 (k n Zr) f c h1 a
     |false=>
       cases h2:zt gO r with
       |true=>exact N6 f c h1 h2
       |false=>
         cases h3:zt uf r with
         |true=>exact I1 f c h1 h2 h3
         |false=>
           cases h4:zt lV r with
           |true=>exact N7 f c h1 h2 h3 h4
           |false=>
             by_cases i:f7 r=0
             .exact SK f c h1 h2 h3 h4 i
             .by_cases g:f7 r=1
              .cases h7:zt [40] r.tail with
               |true=>
                 cases n with
                 |zero=>
                   exact If
                 |succ n=>exact N9 (l n O) f c h1 h2 h3 h4 g h7 a
               |false=>
                 cases h8:zt [91] r.tail with
                 |true=>
                   cases n with
                   |zero=>
                     exact If
                   |succ n=>exact I3 (k n O) f c h1 h2 h3 h4 g h7 h8 a
                 |false=>exact N8 f c h1 h2 h3 h4 g h7 h8 a
              .exact SM f c h1 h2 h3 h4 i g
   |bad r=>cases ho
   |deep r=>cases ho
   |o=>exact absurd j id
theorem zc.deepen{tj:List dY}(h:zc b V tj r false dp w):zc b V tj r false true (w.setCell (b,3) true):=
 ⟨h.1.set 3 (.bool true),h.2.1.off ((dX.refl b _ w).setb h.lt 3 _),h.2.2⟩
theorem sQ{tj:List dY}(g:jr b V tj x w)(_:0<=d/\d<=1000)(l:qC x=true)(_:d<=100):
 Cy 148 #[(b,0),(d:Int)] w fun e w'=>e=.returned pZ/\jP b V tj w x w':=by
 have a:=U (kX.start g);have f:=U l;have u:¬100<d:=O
 clear g l;go_enter func148,ntmps148;go_wp2
 go_loopw [5] (fun i wr=>∃k:Int,i=.int .i64 k/\20<=k/\k<=29/\kX b V tj w x wr) (fun i _=>(29-intOf i).toNat)
 case atStart=>exact⟨20,rfl,O,O,a.o⟩
 case round=>
  obtain⟨k,rfl,_,_,j⟩:=hrel;replace a:=U j;clear j;by_cases y:k<=28
  .obtain⟨s,m⟩:=Cz (xU k)
   have n:=U m;have p:=U (n3 f.o s.data.toList);clear m
   go_wp2_with (first
    |(go_at_call 21;(with_reducible refine(xn k s n.o a.o.st).mono ?_);rintro e w2 ⟨rfl,c⟩;replace a:=U (a.o.step c);clear c)
    |(go_at_call 56;(with_reducible refine(zE a.o.st s p.o).mono ?_);rintro e _ ⟨rfl,c⟩;replace a:=U (a.o.step c);clear c))
   go_roundw
   case rel=>exact⟨k+1,rfl,O,O,a.o⟩
   case measure=>simp[intOf];omega
  .obtain rfl:k=29:=by omega
   go_wp2_with (go_at_call 160;(with_reducible refine(ux a.o.st f.o d).mono ?_);rintro e w2 ⟨rfl,c⟩;replace a:=U (a.o.step c);clear c;obtain⟨⟨_,_,_,_,_⟩,_⟩:=a.o.own);obtain⟨q,f1,r,f3,t⟩:=a.o.read (.int .i64 0) (.int .i64 0) (.int .i64 0) (.string ⟨#[]⟩) (.slice none 0 0);refine bodyPost_ret (v:=pZ) (by simp[results,results148,go_sem,q,f1,r,f3,t]) rfl ?_;exact Ig
theorem AJ{tj:List dY}(n:x=.bad r)(f:jr b V tj x w)(_:0<=d/\d<=1000)(l:qC x=true)(_:100<d):
 Cy 148 #[(b,0),(d:Int)] w fun e w'=>e=.returned pZ/\jP b V tj w x w':=by
 have a:=U (kX.start f);have g:=U l
 have A:w.cell? (b,2)=some (.bool true):=by
  rw[n]at f;exact(zc.cells (show zc b V tj r true false w from f)).2.2.1
 have z:=f.lt;clear f l n;go_enter func148,ntmps148;go_wp2
 go_loopw [5] (fun i wr=>∃k:Int,i=.int .i64 k/\20<=k/\k<=29/\kX b V tj w x wr) (fun i _=>(29-intOf i).toNat)
 case atStart=>exact⟨20,rfl,O,O,a.o⟩
 case round=>
  obtain⟨k,rfl,_,_,j⟩:=hrel;replace a:=U j;clear j;by_cases z:k<=28
  .obtain⟨s,m⟩:=Cz (xU k)
   have p:=U m;have q:=U (n3 g.o s.data.toList);clear m;exact Ie
  .obtain rfl:k=29:=by omega
   go_wp2_with (go_at_call 160;(with_reducible refine(ux a.o.st g.o d).mono ?_);rintro e w2 ⟨rfl,c⟩;replace a:=U (a.o.step c);clear c;obtain⟨⟨_,_,_,_,_⟩,_⟩:=a.o.own);obtain⟨t,f1,u,f3,y⟩:=a.o.read (.int .i64 0) (.int .i64 0) (.int .i64 0) (.string ⟨#[]⟩) (.slice none 0 0);refine bodyPost_ret (v:=pZ) (by simp[results,results148,go_sem,t,f1,u,f3,y]) rfl ?_;exact Ig
theorem kX.deepen{tj:List dY}(a:zc b V tj r false dp w):kX b V tj w (.deep r) ((w.alloc vC).setCell (b,3) true)/\kX b V tj w (.deep r) ((w.setCell (b,3) true).alloc vC):=by
 have f:∃x,jr b V tj x w/\zc b V tj r false dp w:=by
  cases dp with
  |false=>exact⟨.ok () r,a,a⟩
  |true=>exact⟨.deep r,a,a⟩
 obtain⟨x,g,_⟩:=f;have d:=kX.start g;have c:zc b V tj r false dp (w.alloc vC):=a.off (Zb.alloc Zr _);refine⟨d.step ⟨c.deepen,(dX.refl b _ _).setb c.lt 3 _⟩,?_⟩;have e:jP b V tj w (.deep r) (w.setCell (b,3) true):=⟨a.deepen,(dX.refl b _ _).setb a.lt 3 _⟩
 refine⟨e.alloc _,?_,a.2.1,a.lt⟩;have:=Dq (w.setCell (b,3) true) vC;rw[xH]at this;exact this
theorem k7{tj:List dY}(f:zc b V tj r false dp w)(_:0<=d/\d<=1000)(_:100<d):
 Cy 148 #[(b,0),(d:Int)] w fun e w'=>e=.returned pZ/\jP b V tj w (.deep r) w':=by
 have j:=U (kX.deepen f);obtain⟨_,_,t,u⟩:=f.cells;have f3:=f.1.frozen 3;have B:=f.lt;obtain⟨x,g⟩:∃x:PR Unit,x=.deep r:=⟨_,rfl⟩
 have C:=U g;have l:=U (show qC x=true by rw[g];rfl);rw[<-g];rw[<-g]at j;clear f g;go_enter func148,ntmps148;go_wp2;clear t u f3
 go_loopw [5] (fun i wr=>∃k:Int,i=.int .i64 k/\20<=k/\k<=29/\kX b V tj w x wr) (fun i _=>(29-intOf i).toNat)
 case atStart=>exact⟨20,rfl,O,O,by first|exact j.o.1|exact j.o.2⟩
 case round=>
  obtain⟨k,rfl,_,_,m⟩:=hrel;have a:=U m;clear m;by_cases B:k<=28
  .obtain⟨s,n⟩:=Cz (xU k)
   have p:=U n;have q:=U (n3 l.o s.data.toList);clear n;exact Ie
  .obtain rfl:k=29:=by omega
   go_wp2_with (go_at_call 160;(with_reducible refine(ux a.o.st l.o d).mono ?_);rintro e w2 ⟨rfl,c⟩;replace a:=U (a.o.step c);clear c;obtain⟨⟨_,_,_,_,_⟩,_⟩:=a.o.own);obtain⟨y,f1,z,f3,A⟩:=a.o.read (.int .i64 0) (.int .i64 0) (.int .i64 0) (.string ⟨#[]⟩) (.slice none 0 0);refine bodyPost_ret (v:=pZ) (by simp[results,results148,go_sem,y,f1,z,f3,A]) rfl ?_;exact Ig
theorem SQ(b:20<=k)(_:k<=28)(c:zt (pV k) r=true)(a:∀j,20<=j->j<k->zt (pV j) r=false):pW r=k:=by
 show xw r NE=k;rw[sN];exact sP c 9 20 b O a
theorem OA(h:∀j,20<=j->j<29->zt (pV j) r=false):pW r=0:=by
 show xw r NE=0;rw[sN];exact pC 9 20 h
theorem zn{b c d e f:C4}{T:TypeId}(a:W.heap[g]?=some (.cells #[b,c,d,e,f] T (0,0))):
 (W.cell? (g,0)=some b/\W.cell? (g,1)=some c/\W.cell? (g,2)=some d/\W.cell? (g,3)=some e/\W.cell? (g,4)=some f)/\∀o,W.frozen? ⟨g,o,none⟩=false:=by
 refine⟨⟨(Ds a 0).trans rfl,(Ds a 1).trans rfl,(Ds a 2).trans rfl,(Ds a 3).trans rfl,(Ds a 4).trans rfl⟩,fun o=>?_⟩;simp[World.frozen?,a]
theorem k8{k:Nat}(a:k≠g)(b c d e f:C4):(gF w g b c d e f).heap[k]?=w.heap[k]?:=by
 unfold gF;rw[Dx _ _ _ _ Xd,Dx _ _ _ _ Xd,Dx _ _ _ _ Xd,Dx _ _ _ _ Xd,Dx _ _ _ _ Xd]
theorem kX.writ2{tj:List dY}(a:kX b V tj w x W)(_:w.heap.size<g)(c d e f i:C4):kX b V tj w x (gF W g c d e f i):=
 ⟨a.1.wh a.2.2.1 O (by have:=a.2.2.2;omega) _ _ _ _ _,(k8 O _ _ _ _ _).trans a.2.1,a.2.2⟩
abbrev OB(W:C3)(g:Nat)(a b c d e:C4):C3:=((((W.setCell (g,0) a).setCell (g,1) b).setCell (g,2) c).setCell (g,3) d).setCell (g,4) e
theorem kX.nest{tj:List dY}(i:kX b V tj w x W)(j:w.heap.size<g)(a c d e f:C4):kX b V tj w x (OB W g a c d e f):=i.writ2 j a c d e f
theorem I5{tj:List dY}(al:CE b V tj n 1 (d+1))(an:CU b V tj n (d+1))(am:CP b V tj n d)(ah:zc b V tj r false false w)(aE:0<=d/\d<=100)(ap:zH (pU (n+1) d r)):
 Cy 148 #[(b,0),(d:Int)] w (qp b V tj w (pU (n+1) d r) (ky w.heap.size)):=by
 obtain⟨_,_⟩:=aE;have c:=U (kX.start (x:=.ok () r) ah);have aO:¬100<d:=O
 have ay:=U al;have aB:=U an;have aA:=U am;have m:=U ap;clear ah al an am ap;go_enter func148,ntmps148;go_wp2
 go_loopw [5] (fun i wr=>∃k:Int,i=.int .i64 k/\20<=k/\k<=29/\(∀j,20<=j->j<k->zt (pV j) r=false)/\kX b V tj w (.ok () r) wr) (fun i _=>(29-intOf i).toNat)
 case atStart=>exact⟨20,rfl,O,O,fun j ai aC=>O,c.o⟩
 case round=>
  obtain⟨k,rfl,aF,_,aq,ak⟩:=hrel;replace c:=U ak;have F:=U aq;clear ak aq;by_cases aG:k<=28
  .obtain⟨s,N⟩:=Cz (xU k)
   have W:=U N;cases hv:zU s.data.toList (PR.ok () r)with
   |false=>
     have ar:∀j,20<=j->j<k+1->zt (pV j) r=false:=fun j ai aC=>by
      by_cases e:j=k
      .subst e
       unfold pV;rw[N];exact hv
      .exact F.o j ai O
     replace F:=U ar;have Q:=U hv;clear N hv ar
     go_wp2_with (first
      |(go_at_call 21;(with_reducible refine(xn k s W.o c.o.st).mono ?_);rintro e w2 ⟨rfl,f⟩;replace c:=U (c.o.step f);clear f)
      |(go_at_call 56;(with_reducible refine(zE c.o.st s Q.o).mono ?_);rintro e ax ⟨rfl,f⟩;replace c:=U (c.o.step f);clear f))
     go_roundw
     case rel=>exact⟨k+1,rfl,O,O,F.o,c.o⟩
     case measure=>simp[intOf];omega
   |true=>
     have I:pW r=k:=SQ aF aG (by unfold pV;rw[N];exact hv) F.o;have ao:¬k=0:=O
     have Q:=U hv;by_cases aj:23<=k
     .have p:pU (n+1) d r=(zQ [40] r.tail).bind fun _ r=>(pE n 1 (d+1) r).bind fun e r=>(zQ [41] r).bind fun _ r=>.ok (.mk 4 k 0 bE [e]) r:=by rw[pU,Dl O,I,Dl ao,Dm aj]
      have t:=m.o;rw[<-zY]at p;rw[p]at t;have EX:=U p;replace m:=C0 (zH ((zQ [40] r.tail).bind fun _ r=>pE n 1 (d+1) r)) (qM t);clear N hv I p t F
      go_wp2_with (first
       |(go_at_call 21;(with_reducible refine(xn k s W.o c.o.st).mono ?_);rintro e w2 ⟨rfl,f⟩;replace c:=U (c.o.step f);clear f)
       | (go_at_call 56;(with_reducible refine(zx c.o.st s Q.o).mono ?_);rintro e ax ⟨rfl,f⟩
          replace c:=C0 (kX b V tj w (.ok () r.tail) ax) (c.o.step f)
          clear f)
       | (go_at_call 58;(with_reducible refine(zh c.o.st ⟨#[40]⟩).mono ?_);rintro e l ⟨rfl,f⟩
          replace c:=C0 (kX b V tj w (zQ [40] r.tail) l) (c.o.step f);have S:=c.o.size;have aD:=c.o.st.lt;have R:l.heap.size≠b:=O
          clear f)
       | (go_at_call 126;(with_reducible refine(ay.o.call (c.o.alloc vC).st m.o).mono ?_);rintro e G ⟨v,rfl,f,q⟩
          obtain⟨u,y,z,A,B,C,D,rfl⟩:=jC q m.o;have P:=U q;have H:=jM f.off (k:=l.heap.size) Ur R (Dq l vC);have T:=U H;obtain⟨⟨aI,aJ,aK,aL,aM⟩,aN⟩:=zn H;replace c:=U ((c.o.alloc vC).step f)
          clear f q H)
       | (go_at_call 58;(with_reducible refine(zh (c.o.nest S (.int .i64 u) (.int .i64 y) (.int .i64 z) (.string A) (.slice B C D)).st ⟨#[41]⟩).mono ?_);rintro e Y ⟨rfl,f⟩
          have aw:l.heap.size<G.heap.size:=(Array.getElem?_eq_some_iff.1 T.o).1;have au:=jM f.off (k:=l.heap.size) (by simp;exact aw) R (lU T.o _ _ _ _ _);have az:=U ((zK.wh (L:=(l.alloc vC).heap.size) (w:=G) (g:=l.heap.size) Ur (.int .i64 u) (.int .i64 y) (.int .i64 z) (.string A) (.slice B C D)).trans (zK.did f Uq));obtain⟨⟨_,_,_,_,_⟩,_⟩:=zn au;replace c:=U ((c.o.writ2 S (.int .i64 u) (.int .i64 y) (.int .i64 z) (.string A) (.slice B C D)).step f);obtain⟨⟨aa,ab,ad,ae,af⟩,ag⟩:=c.o.own;have aP:=c.o.size
          clear f au))
      obtain⟨J,f1,K,f3,M⟩:=c.o.wu (.cells #[(u:Int),(y:Int),(z:Int),A,(B,C,D)] 147) (.int .i64 4) (.int .i64 k) (.int .i64 0) (.string ⟨#[]⟩) (.slice (some ⟨Y.heap.size,0,none⟩) 1 1);refine bodyPost_ret (v:=.agg #[(4:Int),(k:Int),(0:Int),.string ⟨#[]⟩,.slice (some ⟨Y.heap.size,0,none⟩) 1 1]) (by simp[results,results148,go_sem,J,f1,K,f3,M]) rfl ?_;rw[EX.o];refine c.o.dc ?_ ((P.o.imp fun a E=>(show ky w.heap.size ((gF Y w.heap.size _ _ _ _ _).alloc _) (.mk 4 k 0 bE [a]) _ from⟨_,rfl,⟨Vx,Vu⟩,ug ((ky.keep E az.o Zr).wh Uq _ _ _ _ _) Zr (by rw[xk];omega) (xk _ _ _ _ _ _ _).symm⟩)).bind (fun a r _ E=>vw E) fun a E=>⟨_,E⟩);rw[jo];simp only[xc];rw[<-q8]
     .have p:pU (n+1) d r=(pU n (d+1) r.tail).bind fun e r=>.ok (.mk 4 k 0 bE [e]) r:=by rw[pU,Dl O,I,Dl ao,Dl aj]
      have t:=m.o;rw[p]at t;have EX:=U p;replace m:=C0 (zH ((PR.ok () r.tail).bind fun _ r=>pU n (d+1) r)) (qM t);clear N hv I p t F
      go_wp2_with (first
       |(go_at_call 21;(with_reducible refine(xn k s W.o c.o.st).mono ?_);rintro e w2 ⟨rfl,f⟩;replace c:=U (c.o.step f);clear f)
       | (go_at_call 56;(with_reducible refine(zx c.o.st s Q.o).mono ?_);rintro e l ⟨rfl,f⟩
          replace c:=C0 (kX b V tj w (.ok () r.tail) l) (c.o.step f);have S:=c.o.size;have aD:=c.o.st.lt;have R:l.heap.size≠b:=O
          clear f)
       | (go_at_call 148;(with_reducible refine(aB.o.call (c.o.alloc vC).st m.o).mono ?_);rintro e G ⟨v,rfl,f,q⟩
          obtain⟨u,y,z,A,B,C,D,rfl⟩:=jC q m.o;have P:=U q;have H:=jM f.off (k:=l.heap.size) Ur R (Dq l vC);have T:=U H;obtain⟨⟨aI,aJ,aK,aL,aM⟩,aN⟩:=zn H;replace c:=U ((c.o.alloc vC).step f);obtain⟨⟨aa,ab,ad,ae,af⟩,ag⟩:=c.o.own;have aw:=c.o.size
          clear f q H))
      have Z:=U (c.o.writ2 S (.int .i64 u) (.int .i64 y) (.int .i64 z) (.string A) (.slice B C D));obtain⟨J,f1,K,f3,M⟩:=Z.o.wu (.cells #[(u:Int),(y:Int),(z:Int),A,(B,C,D)] 147) (.int .i64 4) (.int .i64 k) (.int .i64 0) (.string ⟨#[]⟩) (.slice (some ⟨G.heap.size,0,none⟩) 1 1);unfold gF at J f1 K f3 M;refine bodyPost_ret (v:=.agg #[(4:Int),(k:Int),(0:Int),.string ⟨#[]⟩,.slice (some ⟨G.heap.size,0,none⟩) 1 1]) (by simp[results,results148,go_sem,J,f1,K,f3,M]) rfl ?_;rw[EX.o];have av:(gF (gF G l.heap.size (.int .i64 u) (.int .i64 y) (.int .i64 z) (.string A) (.slice B C D)) w.heap.size (.int .i64 4) (.int .i64 k) (.int .i64 0) (.string ⟨#[]⟩) (.slice (some ⟨G.heap.size,0,none⟩) 1 1)).heap.size=G.heap.size:=by rw[xk,xk]
      refine Z.o.dc Kw (je.bind P.o (fun a r _ E=>?_) fun a E=>⟨.mk 4 k 0 bE [a],?_⟩)
      all_goals exact⟨_,rfl,⟨Vx,Vu⟩,ug ((ky.keep E (zK.wh Ur _ _ _ _ _) Zr).wh Uq _ _ _ _ _) Zr (by rw[av];omega) av.symm⟩
  .obtain rfl:k=29:=by omega
   have I:pW r=0:=OA F.o;have p:pU (n+1) d r=pP n d r:=by rw[pU,Dl O,I,Dm rfl]
   have EX:=U p;have t:=m.o;rw[p]at t;replace m:=C0 (zH ((PR.ok () r).bind fun _ r=>pP n d r)) t;clear I p t F
   go_wp2_with (first
    | (go_at_call 160;(with_reducible refine(aA.o.call c.o.st m.o).mono ?_);rintro e w2 ⟨v,rfl,f,q⟩
       obtain⟨u,y,z,A,B,C,D,rfl⟩:=jC q m.o;have aH:=c.o.size;have P:=U q;replace c:=U (c.o.step f);clear f q
       obtain⟨⟨aa,ab,ad,ae,af⟩,ag⟩:=c.o.own))
   obtain⟨J,f1,K,f3,M⟩:=c.o.read (.int .i64 u) (.int .i64 y) (.int .i64 z) (.string A) (.slice B C D);refine bodyPost_ret (v:=.agg #[(u:Int),(y:Int),(z:Int),A,(B,C,D)]) (by simp[results,results148,go_sem,J,f1,K,f3,M]) rfl ?_;rw[EX.o];exact c.o.fin (X:=pP n d r) rfl (P.o.imp fun a E=>ky.wh E aH _ _ _ _ _)
theorem OC{tj:List dY}(l:d<=100->CE b V tj n 1 (d+1))(p:d<=100->CU b V tj n (d+1))(m:d<=100->CP b V tj n d)(g:0<=d/\d<=1000):CU b V tj (n+1) d:=by
 intro w x a q;by_cases i:d<=100
 .cases ho:qC x with
  |true=>exact(sQ a g ho i).mono fun e w' ⟨f,c⟩=>f▸mH ho c ex0 (k1 _ _)
  |false=>
    cases x with
    |ok u r=>exact I5 (l i) (p i) (m i) a ⟨g.1,i⟩ q
    |bad r=>cases ho
    |deep r=>cases ho
    |o=>exact absurd a id
 .have j:100<d:=by omega
  cases x with
  |ok u r=>
    have k:pU (n+1) d r=.deep r:=by rw[pU,Dm j]
    show Calls _ _ _ _ (qp b V tj w (pU (n+1) d r) _);rw[k];exact(k7 (dp:=false) a g j).mono fun e w' ⟨f,c⟩=>⟨_,f,c,ex0,k1 _ _⟩
  |bad r=>exact(AJ (r:=r) rfl a g rfl j).mono fun e w' ⟨f,c⟩=>⟨_,f,c,ex0,k1 _ _⟩
  |deep r=>exact(k7 (dp:=true) a g j).mono fun e w' ⟨f,c⟩=>⟨_,f,c,ex0,k1 _ _⟩
  |o=>exact absurd a id
