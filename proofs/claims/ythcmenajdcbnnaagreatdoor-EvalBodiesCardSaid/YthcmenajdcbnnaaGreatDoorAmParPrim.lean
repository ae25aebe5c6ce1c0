import Derived.Test.YthcmenajdcbnnaaGreatDoorAmTyGlo
set_option linter.unusedSimpArgs false
set_option linter.unusedVariables false
set_option maxRecDepth 100000
namespace Go.Proofs.YthcmenajdcbnnaaGreatDoor
open Go.RowKit Tryz
theorem Ih{p:Prop}(h:p:=by
 go_roundw
 case rel=>exact⟨k+1,rfl,O,O,a.o⟩
 case measure=>simp[intOf];omega):p:=h
theorem Ii{p:Prop}(h:p:=by
 rw[pP,h1,h2,h3,h4,Dp Uf,Dp Uf,Dp Uf,Dp Uf,Dp i]at a;unfold qr at a;rw[Dq g]at a;simp only[PR.bind]at a;rw[pN]at a
 exact absurd a id):p:=h
theorem Ij{p:Prop}(h:p:=by
 exact⟨rfl,a.o.did.wj a.o.2.2.1 Zr a.o.ne _ _ _ _ _⟩):p:=h
theorem Ik{p:Prop}(h:p:=by
 go_roundw
 case rel=>exact⟨k+1,rfl,O,O,d.o,a.o⟩
 case measure=>simp[intOf];omega):p:=h
variable{b n g:Nat}{V:C4}{x:PR Unit}{w W:C3}{r l:List fH}{d k:Int}{dp:Bool}
theorem uX{tj:List fH}(c:jk b V tj x w)(f:qD x=true)(d:Int):
 Cy 160 #[(b,0),(d:Int)] w fun e w'=>e=.returned p0/\jJ b V tj w x w':=by
 have a:=U (kM.start c);have g:=U f;clear c f;go_enter func160,ntmps160;go_wp2_with (go_at_call 53;(with_reducible refine(qL a.o.st true g.o).mono ?_);rintro e _ ⟨rfl,rfl⟩);exact bodyPost_ret (v:=p0) (by simp[results,results160,go_sem,p0]) rfl ⟨rfl,a.o.did⟩
theorem M8{tj:List fH}{n:Nat}(f:zc b V tj r false false w)(C:0<=d/\d<=1000)(g:zq [40] r=false)(i:zq hJ r=true):
 Cy 160 #[(b,0),(d:Int)] w (qk b V tj w (pP (n+1) d r) (kn w.heap.size)):=by
 obtain⟨_,_⟩:=C;have D:=f.lt;have a:=U (kM.start (x:=.ok () r) f);have k:pP (n+1) d r=.ok (.mk 2 0 1 bE []) r.tail:=by rw[pP,g,i,Dp Uf,Dq rfl]
 rw[k];have l:=C0 (zU (⟨#[40]⟩:C2).data.toList (PR.ok () r)=false) g;have m:=C0 (zU (⟨#[116,114,117,101]⟩:C2).data.toList (PR.ok () r)=true) i;clear f g i k;go_enter func160,ntmps160
 go_wp2_with (first
  |(go_at_call 53;(with_reducible refine(qL a.o.st false rfl).mono ?_);rintro e j ⟨rfl,rfl⟩)
  | (go_at_call 56;(with_reducible refine(zE a.o.st _ l.o).mono ?_);rintro e j ⟨rfl,c⟩
     replace a:=U (a.o.step c);clear c
     obtain⟨⟨p,q,s,t,u⟩,B⟩:=a.o.own)
  | (go_at_call 56;(with_reducible refine(qA a.o.st _ m.o).mono ?_);rintro e j ⟨rfl,c⟩
     replace a:=C0 (kM b _ tj w (.ok () r.tail) j) (a.o.step c);clear c
     obtain⟨⟨p,q,s,t,u⟩,B⟩:=a.o.own))
 obtain⟨y,f1,z,f3,A⟩:=a.o.read (.int .i64 2) (.int .i64 0) (.int .i64 1) (.string ⟨#[]⟩) (.slice none 0 0);refine bodyPost_ret (v:=.agg #[(2:Int),(0:Int),(1:Int),.string ⟨#[]⟩,()]) (by simp[results,results160,go_sem,y,f1,z,f3,A]) rfl ?_;exact a.o.fin (rfl) (ur _ _ 2 0 1 bE Xn)
theorem IH{tj:List fH}{n:Nat}(g:zc b V tj r false false w)(E:0<=d/\d<=1000)(i:zq [40] r=false)(j:zq hJ r=false)(k:zq uF r=true):
 Cy 160 #[(b,0),(d:Int)] w (qk b V tj w (pP (n+1) d r) (kn w.heap.size)):=by
 obtain⟨_,_⟩:=E;have F:=g.lt;have a:=U (kM.start (x:=.ok () r) g);have t:pP (n+1) d r=.ok (.mk 2 0 0 bE []) r.tail:=by rw[pP,i,j,k,Dp Uf,Dp Uf,Dq rfl]
 rw[t];have y:=C0 (zU (⟨#[40]⟩:C2).data.toList (PR.ok () r)=false) i;have z:=C0 (zU (⟨#[116,114,117,101]⟩:C2).data.toList (PR.ok () r)=false) j;have A:=C0 (zU (⟨#[102,97,108,115,101]⟩:C2).data.toList (PR.ok () r)=true) k;clear g i j k t;go_enter func160,ntmps160
 go_wp2_with (first
  |(go_at_call 53;(with_reducible refine(qL a.o.st false rfl).mono ?_);rintro e f ⟨rfl,rfl⟩)
  | (go_at_call 56;(with_reducible refine(zE a.o.st _ y.o).mono ?_);rintro e f ⟨rfl,c⟩
     replace a:=U (a.o.step c);clear c
     obtain⟨⟨l,m,p,q,s⟩,u⟩:=a.o.own)
  | (go_at_call 56;(with_reducible refine(zE a.o.st _ z.o).mono ?_);rintro e f ⟨rfl,c⟩
     replace a:=U (a.o.step c);clear c
     obtain⟨⟨l,m,p,q,s⟩,u⟩:=a.o.own)
  | (go_at_call 56;(with_reducible refine(qA a.o.st _ A.o).mono ?_);rintro e f ⟨rfl,c⟩
     replace a:=C0 (kM b _ tj w (.ok () r.tail) f) (a.o.step c);clear c
     obtain⟨⟨l,m,p,q,s⟩,u⟩:=a.o.own))
 obtain⟨B,f1,C,f3,D⟩:=a.o.read (.int .i64 2) (.int .i64 0) (.int .i64 0) (.string ⟨#[]⟩) (.slice none 0 0);refine bodyPost_ret (v:=.agg #[(2:Int),(0:Int),(0:Int),.string ⟨#[]⟩,()]) (by simp[results,results160,go_sem,B,f1,C,f3,D]) rfl ?_;exact a.o.fin (rfl) (ur _ _ 2 0 0 bE Xn)
theorem M9{tj:List fH}{n:Nat}(p:zc b V tj r false false w)(G:0<=d/\d<=1000)(q:zq [40] r=false)(s:zq hJ r=false)(t:zq uF r=false)(u:zq l7 r=true):
 Cy 160 #[(b,0),(d:Int)] w (qk b V tj w (pP (n+1) d r) (kn w.heap.size)):=by
 obtain⟨_,_⟩:=G;have H:=p.lt;have a:=U (kM.start (x:=.ok () r) p);have y:pP (n+1) d r=(zN [40] r.tail).bind fun _ r=>(zN [41] r).bind fun _ r=>.ok (.mk 8 0 0 bE []) r:=by rw[pP,q,s,t,u,Dp Uf,Dp Uf,Dp Uf,Dq rfl]
 rw[y];have z:=C0 (zU (⟨#[40]⟩:C2).data.toList (PR.ok () r)=false) q;have A:=C0 (zU (⟨#[116,114,117,101]⟩:C2).data.toList (PR.ok () r)=false) s;have B:=C0 (zU (⟨#[102,97,108,115,101]⟩:C2).data.toList (PR.ok () r)=false) t;have C:=C0 (zU (⟨#[114,101,97,100]⟩:C2).data.toList (PR.ok () r)=true) u;clear p q s t u y;go_enter func160,ntmps160
 go_wp2_with (first
  |(go_at_call 53;(with_reducible refine(qL a.o.st false rfl).mono ?_);rintro e f ⟨rfl,rfl⟩)
  | (go_at_call 56;(with_reducible refine(zE a.o.st _ z.o).mono ?_);rintro e f ⟨rfl,c⟩
     replace a:=U (a.o.step c);clear c
     obtain⟨⟨g,i,j,k,l⟩,m⟩:=a.o.own)
  | (go_at_call 56;(with_reducible refine(zE a.o.st _ A.o).mono ?_);rintro e f ⟨rfl,c⟩
     replace a:=U (a.o.step c);clear c
     obtain⟨⟨g,i,j,k,l⟩,m⟩:=a.o.own)
  | (go_at_call 56;(with_reducible refine(zE a.o.st _ B.o).mono ?_);rintro e f ⟨rfl,c⟩
     replace a:=U (a.o.step c);clear c
     obtain⟨⟨g,i,j,k,l⟩,m⟩:=a.o.own)
  | (go_at_call 56;(with_reducible refine(qA a.o.st _ C.o).mono ?_);rintro e f ⟨rfl,c⟩
     replace a:=C0 (kM b _ tj w (.ok () r.tail) f) (a.o.step c);clear c
     obtain⟨⟨g,i,j,k,l⟩,m⟩:=a.o.own)
  | (go_at_call 58;(with_reducible refine(zg a.o.st ⟨#[40]⟩).mono ?_);rintro e f ⟨rfl,c⟩
     replace a:=C0 (kM b _ tj w (zN [40] r.tail) f) (a.o.step c)
     clear c)
  | (go_at_call 58;(with_reducible refine(zg a.o.st ⟨#[41]⟩).mono ?_);rintro e f ⟨rfl,c⟩
     replace a:=C0 (kM b _ tj w ((zN [40] r.tail).bind fun _ r=>zN [41] r) f) (a.o.step c);clear c
     obtain⟨⟨g,i,j,k,l⟩,m⟩:=a.o.own))
 obtain⟨D,f1,E,f3,F⟩:=a.o.read (.int .i64 8) (.int .i64 0) (.int .i64 0) (.string ⟨#[]⟩) (.slice none 0 0);refine bodyPost_ret (v:=.agg #[(8:Int),(0:Int),(0:Int),.string ⟨#[]⟩,()]) (by simp[results,results160,go_sem,D,f1,E,f3,F]) rfl ?_;exact a.o.fin (by rw[jh];simp only[xW]) (j9.bind (P:=fun _=>True) (by unfold zN;split;trivial;exact⟨(),trivial⟩) (fun _ r _ _=>vJ (ur _ _ 8 0 0 bE Xn)) (fun _ _=>⟨_,ur _ _ 8 0 0 bE Xn⟩))
theorem II{tj:List fH}(s:CE b V tj n 1 (d+1))(i:zc b V tj r false false w)(Q:0<=d/\d<=1000)(j:zq [40] r=true)(m:zI (pP (n+1) d r)):
 Cy 160 #[(b,0),(d:Int)] w (qk b V tj w (pP (n+1) d r) (kn w.heap.size)):=by
 obtain⟨_,_⟩:=Q;have S:=i.lt;have c:=U (kM.start (x:=.ok () r) i);rw[pP,Dq j]at m ⊢;have I:=C0 (zU (⟨#[40]⟩:C2).data.toList (PR.ok () r)=true) j;have q:=C0 (zI ((PR.ok () r.tail).bind fun _ r=>pE n 1 (d+1) r)) (qM m);have F:=U s;clear i j m s;go_enter func160,ntmps160
 go_wp2_with (first
  |(go_at_call 53;(with_reducible refine(qL c.o.st false rfl).mono ?_);rintro e p ⟨rfl,rfl⟩)
  | (go_at_call 56;(with_reducible refine(qA c.o.st _ I.o).mono ?_);rintro e p ⟨rfl,f⟩
     replace c:=C0 (kM b _ tj w (.ok () r.tail) p) (c.o.step f);clear f
     have R:=c.o.size)
  | (go_at_call 126;(with_reducible refine(F.o.call c.o.st q.o).mono ?_);rintro e E ⟨v,rfl,f,l⟩
     obtain⟨u,y,z,A,B,C,D,rfl⟩:=jC l q.o;have G:=U l;have N:=c.o.st.lt;replace c:=U (c.o.step f);have P:E.heap.size≠b:=by have:=c.o.st.lt;omega
     clear f l)
  | (go_at_call 58;(with_reducible refine(zg (c.o.alloc _).st _).mono ?_);rintro e _ ⟨rfl,f⟩
     have t:=(zM.wb (L:=p.heap.size) (Zb.alloc Zr _)).trans (zM.did f N);have H:=U t;obtain⟨_,_⟩:=rA f.off (k:=E.heap.size) Uh P;replace c:=U ((c.o.alloc _).step f);clear f t
     obtain⟨⟨_,_,_,_,_⟩,_⟩:=c.o.own))
 obtain⟨J,f1,K,f3,M⟩:=c.o.read (.int .i64 u) (.int .i64 y) (.int .i64 z) (.string A) (.slice B C D);refine bodyPost_ret (v:=.agg #[(u:Int),(y:Int),(z:Int),A,(B,C,D)]) (by simp[results,results160,go_sem,J,f1,K,f3,M]) rfl ?_;refine c.o.fin ?_ ((G.o.imp fun a g=>(kn.keep g H.o Zr).wj R _ _ _ _ _).bind (fun a r _ g=>vJ g) fun a g=>⟨a,g⟩);rw[jh];simp only[xW];rw[<-q7];rfl
theorem RH{tj:List fH}{n:Nat}(z:zc b V tj r false false w)(ab:0<=d/\d<=1000)(C:zq [40] r=false)(D:zq hJ r=false)(E:zq uF r=false)(F:zq l7 r=false)(A:gV r=0):
 Cy 160 #[(b,0),(d:Int)] w (qk b V tj w (pP (n+1) d r) (kn w.heap.size)):=by
 obtain⟨_,_⟩:=ab;have ah:=z.lt;have a:=U (kM.start (x:=.ok () r) z);have K:=z.num A;have J:pP (n+1) d r=.ok (.mk 1 0 (kS 0 (pV r)) bE []) r.tail:=by rw[pP,C,D,E,F,Dp Uf,Dp Uf,Dp Uf,Dp Uf,Dq A]
 rw[J];have M:=C0 (zU (⟨#[40]⟩:C2).data.toList (PR.ok () r)=false) C;have N:=C0 (zU (⟨#[116,114,117,101]⟩:C2).data.toList (PR.ok () r)=false) D;have P:=C0 (zU (⟨#[102,97,108,115,101]⟩:C2).data.toList (PR.ok () r)=false) E;have Q:=C0 (zU (⟨#[114,101,97,100]⟩:C2).data.toList (PR.ok () r)=false) F;have H:=U A;have B:=U K;clear z C D E F A J K;go_enter func160,ntmps160
 go_wp2_with (first
  |(go_at_call 53;(with_reducible refine(qL a.o.st false rfl).mono ?_);rintro e i ⟨rfl,rfl⟩)
  | (go_at_call 56;(with_reducible refine(zE a.o.st _ M.o).mono ?_);rintro e i ⟨rfl,f⟩
     replace a:=U (a.o.step f);clear f
     obtain⟨⟨j,l,p,s,u⟩,y⟩:=a.o.own)
  | (go_at_call 56;(with_reducible refine(zE a.o.st _ N.o).mono ?_);rintro e i ⟨rfl,f⟩
     replace a:=U (a.o.step f);clear f
     obtain⟨⟨j,l,p,s,u⟩,y⟩:=a.o.own)
  | (go_at_call 56;(with_reducible refine(zE a.o.st _ P.o).mono ?_);rintro e i ⟨rfl,f⟩
     replace a:=U (a.o.step f);clear f
     obtain⟨⟨j,l,p,s,u⟩,y⟩:=a.o.own)
  | (go_at_call 56;(with_reducible refine(zE a.o.st _ Q.o).mono ?_);rintro e i ⟨rfl,f⟩
     replace a:=U (a.o.step f);clear f
     obtain⟨⟨j,l,p,s,u⟩,y⟩:=a.o.own))
 obtain⟨g,c,k,t,q,rfl,rfl,ad,_,_,R,S,T,W,L,ae,af⟩:=(show zc b V tj r false false i from a.o.st).tok;have ag:(k:Int)<tj.length:=O
 clear ad;rw[show t.kind=0 from H.o]at L
 go_quiet (fail)
 replace a:=U (a.o.drewN nq);clear R S T W L ae af;obtain⟨m,G⟩:∃m:Nat,kS 0 (⟨t.text.toArray⟩:C2).data.toList=m:=⟨_,rfl⟩
 have ai:m<9223372036854775808:=by rw[<-G];exact B.o.2.2
 have I:=U G;clear G
 go_wp2_with (first
  | (go_at_call 55;(with_reducible refine(hP a.o.st 0 Uf H.o ⟨t.text.toArray⟩ rfl).mono ?_);rintro e _ ⟨rfl,f⟩
     replace a:=U (a.o.step f);clear f
     obtain⟨⟨j,l,p,s,u⟩,y⟩:=a.o.own)
  |(go_at_call 57;(refine(sF ⟨t.text.toArray⟩ _ B.o.1 B.o.2.1).mono ?_);rintro e _ ⟨rfl,rfl⟩;rw[I.o]))
 have X:Ex.mk 1 0 (kS 0 (pV (t::q)):Nat) bE []=.mk 1 0 m bE []:=congrArg (fun x:Nat=>Ex.mk 1 0 x bE []) I.o;rw[X];obtain⟨Y,f1,Z,f3,aa⟩:=a.o.read (.int .i64 1) (.int .i64 0) (.int .i64 m) (.string ⟨#[]⟩) (.slice none 0 0);refine bodyPost_ret (v:=.agg #[(1:Int),(0:Int),(m:Int),.string ⟨#[]⟩,()]) (by simp[results,results160,go_sem,Y,f1,Z,f3,aa]) rfl ?_;exact a.o.fin (rfl) (ur _ _ 1 0 m bE (by unfold fS;omega))
theorem RI{tj:List fH}{n:Nat}(z:zc b V tj r false false w)(Z:0<=d/\d<=1000)(A:zq [40] r=false)(B:zq hJ r=false)(C:zq uF r=false)(D:zq l7 r=false)(E:gV r≠0)(F:gV r≠1):
 Cy 160 #[(b,0),(d:Int)] w (qk b V tj w (pP (n+1) d r) (kn w.heap.size)):=by
 obtain⟨_,_⟩:=Z;have ah:=z.lt;have a:=U (kM.start (x:=.ok () r) z);have G:pP (n+1) d r=.bad r:=by rw[pP,A,B,C,D,Dp Uf,Dp Uf,Dp Uf,Dp Uf,Dp E];unfold qr;rw[Dp F];rfl
 rw[G];have L:=C0 (zU (⟨#[40]⟩:C2).data.toList (PR.ok () r)=false) A;have M:=C0 (zU (⟨#[116,114,117,101]⟩:C2).data.toList (PR.ok () r)=false) B;have N:=C0 (zU (⟨#[102,97,108,115,101]⟩:C2).data.toList (PR.ok () r)=false) C;have P:=C0 (zU (⟨#[114,101,97,100]⟩:C2).data.toList (PR.ok () r)=false) D;have J:=U E;have K:=U F;have H:=C0 (zU (⟨#[40]⟩:C2).data.toList ((PR.bad r:PR Unit))=false) rfl;have I:=C0 (zU (⟨#[91]⟩:C2).data.toList ((PR.bad r:PR Unit))=false) rfl;clear z A B C D E F G;go_enter func160,ntmps160
 go_wp2_with (first
  |(go_at_call 53;(with_reducible refine(qL a.o.st false rfl).mono ?_);rintro e i ⟨rfl,rfl⟩)
  | (go_at_call 56;(with_reducible refine(zE a.o.st _ L.o).mono ?_);rintro e i ⟨rfl,f⟩
     replace a:=U (a.o.step f);clear f
     obtain⟨⟨j,l,m,p,u⟩,y⟩:=a.o.own)
  | (go_at_call 56;(with_reducible refine(zE a.o.st _ M.o).mono ?_);rintro e i ⟨rfl,f⟩
     replace a:=U (a.o.step f);clear f
     obtain⟨⟨j,l,m,p,u⟩,y⟩:=a.o.own)
  | (go_at_call 56;(with_reducible refine(zE a.o.st _ N.o).mono ?_);rintro e i ⟨rfl,f⟩
     replace a:=U (a.o.step f);clear f
     obtain⟨⟨j,l,m,p,u⟩,y⟩:=a.o.own)
  | (go_at_call 56;(with_reducible refine(zE a.o.st _ P.o).mono ?_);rintro e i ⟨rfl,f⟩
     replace a:=U (a.o.step f);clear f
     obtain⟨⟨j,l,m,p,u⟩,y⟩:=a.o.own))
 obtain⟨g,c,k,t,q,rfl,rfl,aa,_,_,Q,R,S,T,ab,ad,ae⟩:=(show zc b V tj r false false i from a.o.st).tok;have ag:(k:Int)<tj.length:=O
 clear aa;have af:(t.kind == 0)=false:=by have:=J.o;simpa[gV]using this
 go_quiet (fail)
 replace a:=U (a.o.drewN nq);clear Q R S T ab ad ae
 go_wp2_with (first
  | (go_at_call 55;(with_reducible refine(WD a.o.st 1 Uf K.o).mono ?_);rintro e _ ⟨s,rfl,f⟩
     replace a:=U (a.o.step f)
     clear f)
  | (go_at_call 56;(with_reducible refine(zE a.o.st _ H.o).mono ?_);rintro e i ⟨rfl,f⟩
     replace a:=U (a.o.step f);clear f
     obtain⟨⟨j,l,m,p,u⟩,y⟩:=a.o.own)
  | (go_at_call 56;(with_reducible refine(zE a.o.st _ I.o).mono ?_);rintro e i ⟨rfl,f⟩
     replace a:=U (a.o.step f);clear f
     obtain⟨⟨j,l,m,p,u⟩,y⟩:=a.o.own))
 obtain⟨W,f1,X,f3,Y⟩:=a.o.read (.int .i64 3) (.int .i64 0) (.int .i64 0) (.string s) (.slice none 0 0);refine bodyPost_ret (v:=.agg #[(3:Int),(0:Int),(0:Int),s,()]) (by simp[results,results160,go_sem,W,f1,X,f3,Y]) rfl ?_;exact a.o.fin (rfl) (⟨_,ur _ _ 3 0 0 s Xn⟩)
theorem NA{tj:List fH}(B:zc b V tj r false false w)(ag:0<=d/\d<=1000)(C:zq [40] r=false)(D:zq hJ r=false)(E:zq uF r=false)(F:zq l7 r=false)(z:gV r=1)(H:zq [40] r.tail=false)(I:zq [91] r.tail=false)(J:zI (pP (n+1) d r)):
 Cy 160 #[(b,0),(d:Int)] w (qk b V tj w (pP (n+1) d r) (kn w.heap.size)):=by
 obtain⟨_,_⟩:=ag;have an:=B.lt;have a:=U (kM.start (x:=.ok () r) B);obtain⟨s,K⟩:∃s:C2,s=⟨(pV r).toArray⟩:=⟨_,rfl⟩
 have G:gV r≠0:=by rw[z];decide
 have A:pP (n+1) d r=pN n d s r.tail:=by rw[pP,C,D,E,F,Dp Uf,Dp Uf,Dp Uf,Dp Uf,Dp G,K];unfold qr;rw[Dq z];rfl
 cases n with
 |zero=>rw[A,pN]at J;exact absurd J id
 |succ n=>
 have L:pN (n+1) d s r.tail=.ok (.mk 3 0 0 s []) r.tail:=by rw[pN,H,I,Dp Uf,Dp Uf]
 rw[A,L];have S:=C0 (zU (⟨#[40]⟩:C2).data.toList (PR.ok () r)=false) C;have T:=C0 (zU (⟨#[116,114,117,101]⟩:C2).data.toList (PR.ok () r)=false) D;have W:=C0 (zU (⟨#[102,97,108,115,101]⟩:C2).data.toList (PR.ok () r)=false) E;have X:=C0 (zU (⟨#[114,101,97,100]⟩:C2).data.toList (PR.ok () r)=false) F;have P:=U G;have Q:=U z;have R:=U K;have M:=C0 (zU (⟨#[40]⟩:C2).data.toList (PR.ok () r.tail)=false) H;have N:=C0 (zU (⟨#[91]⟩:C2).data.toList (PR.ok () r.tail)=false) I;clear B C D E F G z H I A L K J;go_enter func160,ntmps160
 go_wp2_with (first
  |(go_at_call 53;(with_reducible refine(qL a.o.st false rfl).mono ?_);rintro e i ⟨rfl,rfl⟩)
  | (go_at_call 56;(with_reducible refine(zE a.o.st _ S.o).mono ?_);rintro e i ⟨rfl,f⟩
     replace a:=U (a.o.step f);clear f
     obtain⟨⟨j,l,m,p,u⟩,y⟩:=a.o.own)
  | (go_at_call 56;(with_reducible refine(zE a.o.st _ T.o).mono ?_);rintro e i ⟨rfl,f⟩
     replace a:=U (a.o.step f);clear f
     obtain⟨⟨j,l,m,p,u⟩,y⟩:=a.o.own)
  | (go_at_call 56;(with_reducible refine(zE a.o.st _ W.o).mono ?_);rintro e i ⟨rfl,f⟩
     replace a:=U (a.o.step f);clear f
     obtain⟨⟨j,l,m,p,u⟩,y⟩:=a.o.own)
  | (go_at_call 56;(with_reducible refine(zE a.o.st _ X.o).mono ?_);rintro e i ⟨rfl,f⟩
     replace a:=U (a.o.step f);clear f
     obtain⟨⟨j,l,m,p,u⟩,y⟩:=a.o.own))
 obtain⟨g,c,k,t,q,rfl,rfl,ah,_,_,Y,Z,aa,ab,ai,aj,ak⟩:=(show zc b V tj r false false i from a.o.st).tok;have am:(k:Int)<tj.length:=O
 clear ah;have al:(t.kind == 0)=false:=by have:=P.o;simpa[gV]using this
 go_quiet (fail)
 replace a:=U (a.o.drewN nq);clear Y Z aa ab ai aj ak
 go_wp2_with (first
  | (go_at_call 55;(with_reducible refine(hP a.o.st 1 Uf Q.o s R.o).mono ?_);rintro e _ ⟨rfl,f⟩
     replace a:=U (a.o.step f)
     clear f)
  | (go_at_call 56;(with_reducible refine(zE a.o.st _ M.o).mono ?_);rintro e i ⟨rfl,f⟩
     replace a:=U (a.o.step f);clear f
     obtain⟨⟨j,l,m,p,u⟩,y⟩:=a.o.own)
  | (go_at_call 56;(with_reducible refine(zE a.o.st _ N.o).mono ?_);rintro e i ⟨rfl,f⟩
     replace a:=U (a.o.step f);clear f
     obtain⟨⟨j,l,m,p,u⟩,y⟩:=a.o.own))
 obtain⟨ad,f1,ae,f3,af⟩:=a.o.read (.int .i64 3) (.int .i64 0) (.int .i64 0) (.string s) (.slice none 0 0);refine bodyPost_ret (v:=.agg #[(3:Int),(0:Int),(0:Int),s,()]) (by simp[results,results160,go_sem,ad,f1,ae,f3,af]) rfl ?_;exact a.o.fin (rfl) (ur _ _ 3 0 0 s Xn)
theorem NB{tj:List fH}(P:CA b V tj n (d+1))(B:zc b V tj r false false w)(ap:0<=d/\d<=1000)(C:zq [40] r=false)(D:zq hJ r=false)(E:zq uF r=false)(F:zq l7 r=false)(A:gV r=1)(H:zq [40] r.tail=true)(J:zI (pP (n+2) d r)):
 Cy 160 #[(b,0),(d:Int)] w (qk b V tj w (pP (n+2) d r) (kn w.heap.size)):=by
 obtain⟨_,_⟩:=ap;have aA:=B.lt;have f:=U (kM.start (x:=.ok () r) B);obtain⟨s,K⟩:∃s:C2,s=⟨(pV r).toArray⟩:=⟨_,rfl⟩
 have G:gV r≠0:=by rw[A];decide
 have M:pP (n+2) d r=pN (n+1) d s r.tail:=by rw[pP,C,D,E,F,Dp Uf,Dp Uf,Dp Uf,Dp Uf,Dp G,K];unfold qr;rw[Dq A];rfl
 have N:pN (n+1) d s r.tail=(pA n (d+1) r.tail.tail).bind fun al r=>.ok (.mk 7 0 0 s al) r:=by rw[pN,H,Dq rfl]
 rw[M,N]at J ⊢;have L:=C0 (zI ((PR.ok () r.tail.tail).bind fun _ r=>pA n (d+1) r)) (qM J);have Y:=U P;have ab:=C0 (zU (⟨#[40]⟩:C2).data.toList (PR.ok () r)=false) C;have ad:=C0 (zU (⟨#[116,114,117,101]⟩:C2).data.toList (PR.ok () r)=false) D;have ae:=C0 (zU (⟨#[102,97,108,115,101]⟩:C2).data.toList (PR.ok () r)=false) E;have af:=C0 (zU (⟨#[114,101,97,100]⟩:C2).data.toList (PR.ok () r)=false) F;have W:=U G;have X:=U A;have aa:=U K;have ag:=C0 (zU (⟨#[40]⟩:C2).data.toList (PR.ok () r.tail)=true) H;clear B C D E F G A H M N K J P;go_enter func160,ntmps160
 go_wp2_with (first
  |(go_at_call 53;(with_reducible refine(qL f.o.st false rfl).mono ?_);rintro e j ⟨rfl,rfl⟩)
  | (go_at_call 56;(with_reducible refine(zE f.o.st _ ab.o).mono ?_);rintro e j ⟨rfl,i⟩
     replace f:=U (f.o.step i);clear i
     obtain⟨⟨l,m,p,u,y⟩,z⟩:=f.o.own)
  | (go_at_call 56;(with_reducible refine(zE f.o.st _ ad.o).mono ?_);rintro e j ⟨rfl,i⟩
     replace f:=U (f.o.step i);clear i
     obtain⟨⟨l,m,p,u,y⟩,z⟩:=f.o.own)
  | (go_at_call 56;(with_reducible refine(zE f.o.st _ ae.o).mono ?_);rintro e j ⟨rfl,i⟩
     replace f:=U (f.o.step i);clear i
     obtain⟨⟨l,m,p,u,y⟩,z⟩:=f.o.own)
  | (go_at_call 56;(with_reducible refine(zE f.o.st _ af.o).mono ?_);rintro e j ⟨rfl,i⟩
     replace f:=U (f.o.step i);clear i
     obtain⟨⟨l,m,p,u,y⟩,z⟩:=f.o.own))
 obtain⟨g,c,k,t,q,rfl,rfl,aq,_,_,ah,ai,aj,ak,au,av,aw⟩:=(show zc b V tj r false false j from f.o.st).tok;have az:(k:Int)<tj.length:=O
 clear aq;have ay:(t.kind == 0)=false:=by have:=W.o;simpa[gV]using this
 go_quiet (fail)
 replace f:=U (f.o.drewN nq);clear ah ai aj ak au av aw
 go_wp2_with (first
  | (go_at_call 55;(with_reducible refine(hP f.o.st 1 Uf X.o s aa.o).mono ?_);rintro e _ ⟨rfl,i⟩
     replace f:=U (f.o.step i)
     clear i)
  | (go_at_call 56;(with_reducible refine(qA f.o.st _ ag.o).mono ?_);rintro e ax ⟨rfl,i⟩
     replace f:=C0 (kM b _ tj w (.ok () (t::q).tail.tail) ax) (f.o.step i);clear i
     have ar:=f.o.size)
  | (go_at_call 150;(with_reducible refine(Y.o.call f.o.st L.o).mono ?_);rintro e _ ⟨v,rfl,i,I⟩
     obtain⟨R,S,T,rfl⟩:=z2 I L.o;have Z:=U I;replace f:=U (f.o.step i);clear i I
     obtain⟨⟨l,m,p,u,y⟩,z⟩:=f.o.own))
 obtain⟨am,f1,an,f3,ao⟩:=f.o.read (.int .i64 7) (.int .i64 0) (.int .i64 0) (.string s) (.slice R S T);refine bodyPost_ret (v:=.agg #[(7:Int),(0:Int),(0:Int),s,(R,S,T)]) (by simp[results,results160,go_sem,am,f1,an,f3,ao]) rfl ?_;refine f.o.fin Kn (j9.bind Z.o (fun a r _ Q=>?_) fun a Q=>⟨.mk 7 0 0 s a,?_⟩)
 all_goals exact⟨_,rfl,⟨Vl,Vj⟩,Q.wj ar _ _ _ _ _⟩
theorem IJ{tj:List fH}(W:CE b V tj n 1 (d+1))(D:zc b V tj r false false w)(ax:0<=d/\d<=1000)(E:zq [40] r=false)(F:zq hJ r=false)(G:zq uF r=false)(H:zq l7 r=false)(B:gV r=1)(J:zq [40] r.tail=false)(K:zq [91] r.tail=true)(N:zI (pP (n+2) d r)):
 Cy 160 #[(b,0),(d:Int)] w (qk b V tj w (pP (n+2) d r) (kn w.heap.size)):=by
 obtain⟨_,_⟩:=ax;have aL:=D.lt;have f:=U (kM.start (x:=.ok () r) D);obtain⟨s,P⟩:∃s:C2,s=⟨(pV r).toArray⟩:=⟨_,rfl⟩
 have I:gV r≠0:=by rw[B];decide
 have S:pP (n+2) d r=pN (n+1) d s r.tail:=by rw[pP,E,F,G,H,Dp Uf,Dp Uf,Dp Uf,Dp Uf,Dp I,P];unfold qr;rw[Dq B];rfl
 have T:pN (n+1) d s r.tail=(pE n 1 (d+1) r.tail.tail).bind fun e r=>(zN [93] r).bind fun _ r=>.ok (.mk 6 0 0 s [e]) r:=by rw[pN,J,K,Dp Uf,Dq rfl]
 rw[S,T]at N ⊢;have R:=C0 (zI ((PR.ok () r.tail.tail).bind fun _ r=>pE n 1 (d+1) r)) (qM N);have ad:=U W;have ah:=C0 (zU (⟨#[40]⟩:C2).data.toList (PR.ok () r)=false) E;have ai:=C0 (zU (⟨#[116,114,117,101]⟩:C2).data.toList (PR.ok () r)=false) F;have aj:=C0 (zU (⟨#[102,97,108,115,101]⟩:C2).data.toList (PR.ok () r)=false) G;have ak:=C0 (zU (⟨#[114,101,97,100]⟩:C2).data.toList (PR.ok () r)=false) H;have aa:=U I;have ab:=U B;have ag:=U P;have Z:=C0 (zU (⟨#[40]⟩:C2).data.toList (PR.ok () r.tail)=false) J;have al:=C0 (zU (⟨#[91]⟩:C2).data.toList (PR.ok () r.tail)=true) K;clear D E F G H I B J K S T P N W;go_enter func160,ntmps160
 go_wp2_with (first
  |(go_at_call 53;(with_reducible refine(qL f.o.st false rfl).mono ?_);rintro e A ⟨rfl,rfl⟩)
  | (go_at_call 56;(with_reducible refine(zE f.o.st _ ah.o).mono ?_);rintro e A ⟨rfl,i⟩
     replace f:=U (f.o.step i);clear i
     obtain⟨⟨j,l,m,p,u⟩,y⟩:=f.o.own)
  | (go_at_call 56;(with_reducible refine(zE f.o.st _ ai.o).mono ?_);rintro e A ⟨rfl,i⟩
     replace f:=U (f.o.step i);clear i
     obtain⟨⟨j,l,m,p,u⟩,y⟩:=f.o.own)
  | (go_at_call 56;(with_reducible refine(zE f.o.st _ aj.o).mono ?_);rintro e A ⟨rfl,i⟩
     replace f:=U (f.o.step i);clear i
     obtain⟨⟨j,l,m,p,u⟩,y⟩:=f.o.own)
  | (go_at_call 56;(with_reducible refine(zE f.o.st _ ak.o).mono ?_);rintro e A ⟨rfl,i⟩
     replace f:=U (f.o.step i);clear i
     obtain⟨⟨j,l,m,p,u⟩,y⟩:=f.o.own))
 obtain⟨g,c,k,t,q,rfl,rfl,C,_,_,am,an,ao,ap,aG,aH,aI⟩:=(show zc b V tj r false false A from f.o.st).tok;have aK:(k:Int)<tj.length:=O
 clear C;have aJ:(t.kind == 0)=false:=by have:=aa.o;simpa[gV]using this
 go_quiet (fail)
 replace f:=U (f.o.drewN nq);clear am an ao ap aG aH aI
 go_wp2_with (first
  | (go_at_call 55;(with_reducible refine(hP f.o.st 1 Uf ab.o s ag.o).mono ?_);rintro e _ ⟨rfl,i⟩
     replace f:=U (f.o.step i)
     clear i)
  | (go_at_call 56;(with_reducible refine(zE f.o.st _ Z.o).mono ?_);rintro e _ ⟨rfl,i⟩
     replace f:=U (f.o.step i);clear i
     obtain⟨⟨j,l,m,p,u⟩,y⟩:=f.o.own)
  | (go_at_call 56;(with_reducible refine(qA f.o.st _ al.o).mono ?_);rintro e X ⟨rfl,i⟩
     replace f:=C0 (kM b _ tj w (.ok () (t::q).tail.tail) X) (f.o.step i);clear i
     have ay:=f.o.size)
  | (go_at_call 126;(with_reducible refine(ad.o.call f.o.st R.o).mono ?_);rintro e Y ⟨v,rfl,i,M⟩
     obtain⟨az,aA,aB,aC,aD,aE,aF,rfl⟩:=jC M R.o;have ae:=U M;have av:=f.o.st.lt;replace f:=U (f.o.step i);have aw:Y.heap.size≠b:=by have:=f.o.st.lt;omega
     clear i M)
  | (go_at_call 58;(with_reducible refine(zg (f.o.alloc _).st _).mono ?_);rintro e Q ⟨rfl,i⟩
     have C:=(zM.wb (L:=X.heap.size) (Zb.alloc Zr _)).trans (zM.did i av);have af:=U C;obtain⟨_,_⟩:=rA i.off (k:=Y.heap.size) Uh aw;replace f:=U ((f.o.alloc _).step i);have aM:=f.o.size;clear i C
     obtain⟨⟨j,l,m,p,u⟩,y⟩:=f.o.own))
 obtain⟨aq,f1,ar,f3,au⟩:=f.o.wv (.cells #[(az:Int),(aA:Int),(aB:Int),aC,(aD,aE,aF)] 147) (.int .i64 6) (.int .i64 0) (.int .i64 0) (.string s) (.slice (some ⟨Q.heap.size,0,none⟩) 1 1);refine bodyPost_ret (v:=.agg #[(6:Int),(0:Int),(0:Int),s,.slice (some ⟨Q.heap.size,0,none⟩) 1 1]) (by simp[results,results160,go_sem,aq,f1,ar,f3,au]) rfl ?_;refine f.o.de ?_ ((ae.o.imp fun a z=>(show kn w.heap.size ((g2 Q w.heap.size _ _ _ _ _).alloc _) (.mk 6 0 0 s [a]) _ from⟨_,rfl,⟨Vl,Vj⟩,uG ((kn.keep z af.o Zr).wj ay _ _ _ _ _) Zr (by rw[xd];omega) (xd _ _ _ _ _ _ _).symm⟩)).bind (fun a r _ z=>vJ z) fun a z=>⟨_,z⟩);rw[jh];simp only[xW];rw[<-q7];rfl
def vQ(a:Int):Nat->List Int
 |0=>[]
 |m+1=>a::vQ (a+1) m
theorem sG:H0=vQ 1 19:=Uf
theorem sH:MK=vQ 20 9:=Uf
def RJ(lev:Int)(l:List fH)(op:Int):Bool:=decide (kD op=lev)&&zq (pW op) l
theorem pF(lev:Int)(l:List fH)(a:Int)(r:List Int):xV lev l (a::r)=if RJ lev l a=true then a else xV lev l r:=by
 rw[xV];unfold RJ;simp only[D2,decide_eq_true_eq]
theorem sI{lev:Int}(b:RJ lev l k=true):∀(m:Nat) (a:Int),a<=k->k<a+m->(∀j,a<=j->j<k->RJ lev l j=false)->xV lev l (vQ a m)=k
 |0,a,h1,h2,_=>O
 | m+1,a,h1,h2,h=>by
   rw[vQ,pF];by_cases e:a=k
   .subst e
    rw[Dq b]
   .rw[h a (Int.le_refl _) O,Dp Uf]
    exact sI b m (a+1) O O fun j _=>h j O
theorem pG{lev:Int}:∀(m:Nat) (a:Int),(∀j,a<=j->j<a+m->RJ lev l j=false)->xV lev l (vQ a m)=0
 |0,a,_=>rfl
 | m+1,a,h=>by
   rw[vQ,pF,h a (Int.le_refl _) O,Dp Uf];exact pG m (a+1) fun j _ _=>h j O O
theorem sJ(b:zq (pW k) l=true):∀(m:Nat) (a:Int),a<=k->k<a+m->(∀j,a<=j->j<k->zq (pW j) l=false)->xo l (vQ a m)=k
 |0,a,h1,h2,_=>O
 | m+1,a,h1,h2,h=>by
   rw[vQ,xo];by_cases e:a=k
   .subst e
    rw[Dq b]
   .rw[h a (Int.le_refl _) O,Dp Uf]
    exact sJ b m (a+1) O O fun j _=>h j O
theorem pH:∀(m:Nat) (a:Int),(∀j,a<=j->j<a+m->zq (pW j) l=false)->xo l (vQ a m)=0
 |0,a,_=>rfl
 | m+1,a,h=>by
   rw[vQ,xo,h a (Int.le_refl _) O,Dp Uf];exact pH m (a+1) fun j _ _=>h j O O
def ZH(lev:Int)(x:PR Unit):Int:=match x with | .ok _ r=>EE lev r|_=>0
def lE(lev:Int)(x:PR Unit)(op:Int):Bool:=decide (kD op=lev)&&zU (pW op) x
theorem WP{lev:Int}(d:1<=k)(_:k<=19)(b:lE lev x k=true)(c:∀j,1<=j->j<k->lE lev x j=false):ZH lev x=k:=by
 cases x with
 |ok a r=>
   show xV lev r H0=k;rw[sG];exact sI b 19 1 d O c
 |_=>simp[lE,zU]at b
theorem RK{lev:Int}(h:∀j,1<=j->j<20->lE lev x j=false):ZH lev x=0:=by
 cases x with
 |ok a r=>
   show xV lev r H0=0;rw[sG];exact pG 19 1 h
 |_=>rfl
theorem oF(op l:Int)(h:kD op=l)(w:C3):Cy 105 #[(op:Int)] w (Cw (l:Int) w):=h▸rS op w
theorem xh{tj:List fH}(op:Int)(s:C2)(d:xN op=s)(c:jk b V tj x w):Cy 21 #[(op:Int)] w fun e w'=>e=.returned (.string s)/\jJ b V tj w x w':=by
 subst d;exact(MH op w).mono fun _ _ ⟨f,a⟩=>⟨f,c.below a,fI.wb a c.lt⟩
theorem jf{tj:List fH}(a:jk b V tj x w)(s:C2)(v:Bool)(f:zU s.data.toList x=v):
 Cy 81 #[(b,0),s] w fun e w'=>e=.returned (.bool v)/\jJ b V tj w x w':=
 (QR a s v f).mono fun _ _ ⟨c,m,d⟩=>⟨c,d▸⟨a.drewN m,(fI.refl b _ w).drewN m⟩⟩
theorem IK{tj:List fH}(v:jk b V tj x w)(lev:Int)(o:Int)(A:ZH lev x=o):
 Cy 149 #[(b,0),(lev:Int)] w fun e w'=>e=.returned (o:Int)/\jJ b V tj w x w':=by
 have a:=C0 (jJ b V tj w x w) ⟨v,fI.refl _ _ _⟩;have t:=U A;clear v A;go_enter func149,ntmps149;go_wp2
 go_loopw [5] (fun i wr=>∃k:Int,i=.int .i64 k/\1<=k/\k<=20/\(∀j,1<=j->j<k->lE lev x j=false)/\jJ b V tj w x wr) (fun i _=>(20-intOf i).toNat)
 case atStart=>exact⟨1,rfl,O,O,fun j n y=>O,a.o⟩
 case round=>
  obtain⟨k,rfl,E,_,z,c⟩:=hrel;have d:=U z;replace a:=U c;clear z c;by_cases F:k<=19
  .obtain⟨l,f⟩:=Cz (kD k)
   obtain⟨s,g⟩:=Cz (xN k);have q:=U f;have u:=U g;by_cases p:l=lev
   .subst p
    cases hv:zU s.data.toList x with
    |true=>
      have B:ZH l x=k:=WP E F (by unfold lE pW;rw[g,hv,decide_eq_true f];rfl) d.o;have r:=U hv;have D:=U (B.symm.trans t.o);clear f g hv B
      go_wp2_with (first
       |(go_at_call 105;(with_reducible refine(oF k l q.o _).mono ?_);rintro e C ⟨rfl,rfl⟩)
       |(go_at_call 21;(with_reducible refine(xh k s u.o a.o.st).mono ?_);rintro e G ⟨rfl,c⟩;replace a:=U (a.o.after c);clear c)
       |(go_at_call 81;(with_reducible refine(jf a.o.st s true r.o).mono ?_);rintro e H ⟨rfl,c⟩;replace a:=U (a.o.after c);clear c))
      go_ret;exact⟨qK D.o,a.o⟩
    |false=>
      have m:∀j,1<=j->j<k+1->lE l x j=false:=fun j n y=>by
       by_cases e:j=k
       .subst e
        unfold lE pW;rw[g,hv,Bool.and_false]
       .exact d.o j n O
      replace d:=U m;have r:=U hv;clear f g hv m
      go_wp2_with (first
       |(go_at_call 105;(with_reducible refine(oF k l q.o _).mono ?_);rintro e C ⟨rfl,rfl⟩)
       |(go_at_call 21;(with_reducible refine(xh k s u.o a.o.st).mono ?_);rintro e G ⟨rfl,c⟩;replace a:=U (a.o.after c);clear c)
       |(go_at_call 81;(with_reducible refine(jf a.o.st s false r.o).mono ?_);rintro e H ⟨rfl,c⟩;replace a:=U (a.o.after c);clear c))
      exact Ik
   .have I:(l == lev)=false:=by simpa using p
    have m:∀j,1<=j->j<k+1->lE lev x j=false:=fun j n y=>by
     by_cases e:j=k
     .subst e
      unfold lE;rw[f,decide_eq_false p,Bool.false_and]
     .exact d.o j n O
    replace d:=U m;clear f g m p
    go_wp2_with (first
     |(go_at_call 105;(with_reducible refine(oF k l q.o _).mono ?_);rintro e C ⟨rfl,rfl⟩))
    exact Ik
  .obtain rfl:k=20:=by omega
   go_wp2;go_ret;exact⟨qK (by rw[<-t.o,RK d.o]),a.o⟩
def CP(b:Nat)(V:C4)(tj:List fH)(n:Nat)(d:Int):Prop:=∀(w:C3) (x:PR Unit),jk b V tj x w->zI (x.bind fun _ r=>pP n d r)->
 Cy 160 #[(b,0),(d:Int)] w (qk b V tj w (x.bind fun _ r=>pP n d r) (kn w.heap.size))
theorem CP.call{tj:List fH}(a:CP b V tj n d)(e:jk b V tj x w)(c:zI (x.bind fun _ r=>pP n d r)):
 Cy 160 #[(b,0),(d:Int)] w (qk b V tj w (x.bind fun _ r=>pP n d r) (kn w.heap.size)):=a w x e c
def CU(b:Nat)(V:C4)(tj:List fH)(n:Nat)(d:Int):Prop:=∀(w:C3) (x:PR Unit),jk b V tj x w->zI (x.bind fun _ r=>pU n d r)->
 Cy 148 #[(b,0),(d:Int)] w (qk b V tj w (x.bind fun _ r=>pU n d r) (kn w.heap.size))
theorem CU.call{tj:List fH}(a:CU b V tj n d)(e:jk b V tj x w)(c:zI (x.bind fun _ r=>pU n d r)):
 Cy 148 #[(b,0),(d:Int)] w (qk b V tj w (x.bind fun _ r=>pU n d r) (kn w.heap.size)):=a w x e c
theorem oG(a:qD x=true)(s:List UInt8):zU s x=false:=by
 cases x with
 |ok _ r=>cases a
 |_=>rfl
theorem mO{α:Type}{tj:List fH}(e:qD x=true){f:List fH->PR α}{F:C3->α->C4->Prop}{v:C4}(c:jJ b V tj w x W)(a:α)(d:F W a v):qk b V tj w (x.bind fun _ r=>f r) F (.returned v) W:=by
 cases x with
 |ok _ r=>cases e
 |bad r=>exact⟨v,rfl,c,a,d⟩
 |deep r=>exact⟨v,rfl,c,a,d⟩
 |o=>exact absurd c.st id
theorem RL{tj:List fH}(k:∀m,m<=n->CE b V tj m 1 (d+1))(l:∀m,m<=n->CA b V tj m (d+1))(c:0<=d/\d<=1000):CP b V tj (n+1) d:=by
 intro w x j s;cases ho:qD x with
 |true=>exact(uX j ho d).mono fun e w' ⟨q,p⟩=>q▸mO ho p Z2 (lK _ _)
 |false=>
   cases x with
   |ok _ r=>
     have f:zc b V tj r false false w:=j;have a:zI (pP (n+1) d r):=s;show Calls _ _ _ _ (qk b V tj w (pP (n+1) d r) _);cases h1:zq [40] r with
     |true=>exact II (k n Zr) f c h1 a
     |false=>
       cases h2:zq hJ r with
       |true=>exact M8 f c h1 h2
       |false=>
         cases h3:zq uF r with
         |true=>exact IH f c h1 h2 h3
         |false=>
           cases h4:zq l7 r with
           |true=>exact M9 f c h1 h2 h3 h4
           |false=>
             by_cases i:gV r=0
             .exact RH f c h1 h2 h3 h4 i
             .by_cases g:gV r=1
              .cases h7:zq [40] r.tail with
               |true=>
                 cases n with
                 |zero=>
                   exact Ii
                 |succ n=>exact NB (l n O) f c h1 h2 h3 h4 g h7 a
               |false=>
                 cases h8:zq [91] r.tail with
                 |true=>
                   cases n with
                   |zero=>
                     exact Ii
                   |succ n=>exact IJ (k n O) f c h1 h2 h3 h4 g h7 h8 a
                 |false=>exact NA f c h1 h2 h3 h4 g h7 h8 a
              .exact RI f c h1 h2 h3 h4 i g
   |bad r=>cases ho
   |deep r=>cases ho
   |o=>exact absurd j id
theorem zc.deepen{tj:List fH}(h:zc b V tj r false dp w):zc b V tj r false true (w.setCell (b,3) true):=
 ⟨h.1.set 3 (.bool true),h.2.1.off ((fI.refl b _ w).wt h.lt 3 _),h.2.2⟩
theorem sK{tj:List fH}(g:jk b V tj x w)(_:0<=d/\d<=1000)(l:qD x=true)(_:d<=100):
 Cy 148 #[(b,0),(d:Int)] w fun e w'=>e=.returned p0/\jJ b V tj w x w':=by
 have a:=U (kM.start g);have f:=U l;have y:¬100<d:=O
 clear g l;go_enter func148,ntmps148;go_wp2
 go_loopw [5] (fun i wr=>∃k:Int,i=.int .i64 k/\20<=k/\k<=29/\kM b V tj w x wr) (fun i _=>(29-intOf i).toNat)
 case atStart=>exact⟨20,rfl,O,O,a.o⟩
 case round=>
  obtain⟨k,rfl,_,_,j⟩:=hrel;replace a:=U j;clear j;by_cases z:k<=28
  .obtain⟨s,m⟩:=Cz (xN k)
   have n:=U m;have p:=U (oG f.o s.data.toList);clear m
   go_wp2_with (first
    |(go_at_call 21;(with_reducible refine(xh k s n.o a.o.st).mono ?_);rintro e u ⟨rfl,c⟩;replace a:=U (a.o.step c);clear c)
    |(go_at_call 56;(with_reducible refine(zE a.o.st s p.o).mono ?_);rintro e _ ⟨rfl,c⟩;replace a:=U (a.o.step c);clear c))
   exact Ih
  .obtain rfl:k=29:=by omega
   go_wp2_with (go_at_call 160;(with_reducible refine(uX a.o.st f.o d).mono ?_);rintro e u ⟨rfl,c⟩;replace a:=U (a.o.step c);clear c;obtain⟨⟨_,_,_,_,_⟩,_⟩:=a.o.own);obtain⟨q,f1,r,f3,t⟩:=a.o.read (.int .i64 0) (.int .i64 0) (.int .i64 0) (.string ⟨#[]⟩) (.slice none 0 0);refine bodyPost_ret (v:=p0) (by simp[results,results148,go_sem,q,f1,r,f3,t]) rfl ?_;exact Ij
theorem AG{tj:List fH}(n:x=.bad r)(f:jk b V tj x w)(_:0<=d/\d<=1000)(l:qD x=true)(_:100<d):
 Cy 148 #[(b,0),(d:Int)] w fun e w'=>e=.returned p0/\jJ b V tj w x w':=by
 have a:=U (kM.start f);have g:=U l
 have B:w.cell? (b,2)=some (.bool true):=by
  rw[n]at f;exact(zc.cells (show zc b V tj r true false w from f)).2.2.1
 have z:=f.lt;clear f l n;go_enter func148,ntmps148;go_wp2
 go_loopw [5] (fun i wr=>∃k:Int,i=.int .i64 k/\20<=k/\k<=29/\kM b V tj w x wr) (fun i _=>(29-intOf i).toNat)
 case atStart=>exact⟨20,rfl,O,O,a.o⟩
 case round=>
  obtain⟨k,rfl,_,_,j⟩:=hrel;replace a:=U j;clear j;by_cases z:k<=28
  .obtain⟨s,m⟩:=Cz (xN k)
   have p:=U m;have q:=U (oG g.o s.data.toList);clear m
   go_wp2_with (first
    |(go_at_call 21;(with_reducible refine(xh k s p.o a.o.st).mono ?_);rintro e A ⟨rfl,c⟩;replace a:=U (a.o.step c);clear c)
    |(go_at_call 56;(with_reducible refine(zE a.o.st s q.o).mono ?_);rintro e _ ⟨rfl,c⟩;replace a:=U (a.o.step c);clear c))
   exact Ih
  .obtain rfl:k=29:=by omega
   go_wp2_with (go_at_call 160;(with_reducible refine(uX a.o.st g.o d).mono ?_);rintro e A ⟨rfl,c⟩;replace a:=U (a.o.step c);clear c;obtain⟨⟨_,_,_,_,_⟩,_⟩:=a.o.own);obtain⟨t,f1,u,f3,y⟩:=a.o.read (.int .i64 0) (.int .i64 0) (.int .i64 0) (.string ⟨#[]⟩) (.slice none 0 0);refine bodyPost_ret (v:=p0) (by simp[results,results148,go_sem,t,f1,u,f3,y]) rfl ?_;exact Ij
theorem kM.deepen{tj:List fH}(a:zc b V tj r false dp w):kM b V tj w (.deep r) ((w.alloc yl).setCell (b,3) true)/\kM b V tj w (.deep r) ((w.setCell (b,3) true).alloc yl):=by
 have f:∃x,jk b V tj x w/\zc b V tj r false dp w:=by
  cases dp with
  |false=>exact⟨.ok () r,a,a⟩
  |true=>exact⟨.deep r,a,a⟩
 obtain⟨x,g,_⟩:=f;have d:=kM.start g;have c:zc b V tj r false dp (w.alloc yl):=a.off (Zb.alloc Zr _);refine⟨d.step ⟨c.deepen,(fI.refl b _ _).wt c.lt 3 _⟩,?_⟩;have e:jJ b V tj w (.deep r) (w.setCell (b,3) true):=⟨a.deepen,(fI.refl b _ _).wt a.lt 3 _⟩
 refine⟨e.alloc _,?_,a.2.1,a.lt⟩;have:=Ds (w.setCell (b,3) true) yl;rw[xA]at this;exact this
theorem lN{tj:List fH}(f:zc b V tj r false dp w)(_:0<=d/\d<=1000)(_:100<d):
 Cy 148 #[(b,0),(d:Int)] w fun e w'=>e=.returned p0/\jJ b V tj w (.deep r) w':=by
 have j:=U (kM.deepen f);obtain⟨_,_,t,u⟩:=f.cells;have f3:=f.1.frozen 3;have B:=f.lt;obtain⟨x,g⟩:∃x:PR Unit,x=.deep r:=⟨_,rfl⟩
 have D:=U g;have l:=U (show qD x=true by rw[g];rfl);rw[<-g];rw[<-g]at j;clear f g;go_enter func148,ntmps148;go_wp2;clear t u f3
 go_loopw [5] (fun i wr=>∃k:Int,i=.int .i64 k/\20<=k/\k<=29/\kM b V tj w x wr) (fun i _=>(29-intOf i).toNat)
 case atStart=>exact⟨20,rfl,O,O,by first|exact j.o.1|exact j.o.2⟩
 case round=>
  obtain⟨k,rfl,_,_,m⟩:=hrel;have a:=U m;clear m;by_cases B:k<=28
  .obtain⟨s,n⟩:=Cz (xN k)
   have p:=U n;have q:=U (oG l.o s.data.toList);clear n
   go_wp2_with (first
    |(go_at_call 21;(with_reducible refine(xh k s p.o a.o.st).mono ?_);rintro e C ⟨rfl,c⟩;replace a:=U (a.o.step c);clear c)
    |(go_at_call 56;(with_reducible refine(zE a.o.st s q.o).mono ?_);rintro e _ ⟨rfl,c⟩;replace a:=U (a.o.step c);clear c))
   exact Ih
  .obtain rfl:k=29:=by omega
   go_wp2_with (go_at_call 160;(with_reducible refine(uX a.o.st l.o d).mono ?_);rintro e C ⟨rfl,c⟩;replace a:=U (a.o.step c);clear c;obtain⟨⟨_,_,_,_,_⟩,_⟩:=a.o.own);obtain⟨y,f1,z,f3,A⟩:=a.o.read (.int .i64 0) (.int .i64 0) (.int .i64 0) (.string ⟨#[]⟩) (.slice none 0 0);refine bodyPost_ret (v:=p0) (by simp[results,results148,go_sem,y,f1,z,f3,A]) rfl ?_;exact Ij
theorem RM(b:20<=k)(_:k<=28)(c:zq (pW k) r=true)(a:∀j,20<=j->j<k->zq (pW j) r=false):pX r=k:=by
 show xo r MK=k;rw[sH];exact sJ c 9 20 b O a
theorem NC(h:∀j,20<=j->j<29->zq (pW j) r=false):pX r=0:=by
 show xo r MK=0;rw[sH];exact pH 9 20 h
theorem zh{b c d e f:C4}{T:TypeId}(a:W.heap[g]?=some (.cells #[b,c,d,e,f] T (0,0))):
 (W.cell? (g,0)=some b/\W.cell? (g,1)=some c/\W.cell? (g,2)=some d/\W.cell? (g,3)=some e/\W.cell? (g,4)=some f)/\∀o,W.frozen? ⟨g,o,none⟩=false:=by
 refine⟨⟨(Du a 0).trans rfl,(Du a 1).trans rfl,(Du a 2).trans rfl,(Du a 3).trans rfl,(Du a 4).trans rfl⟩,fun o=>?_⟩;simp[World.frozen?,a]
theorem lO{k:Nat}(a:k≠g)(b c d e f:C4):(g2 w g b c d e f).heap[k]?=w.heap[k]?:=by
 unfold g2;rw[Dw _ _ _ _ Ut,Dw _ _ _ _ Ut,Dw _ _ _ _ Ut,Dw _ _ _ _ Ut,Dw _ _ _ _ Ut]
theorem kM.writ2{tj:List fH}(a:kM b V tj w x W)(_:w.heap.size<g)(c d e f i:C4):kM b V tj w x (g2 W g c d e f i):=
 ⟨a.1.wj a.2.2.1 O (by have:=a.2.2.2;omega) _ _ _ _ _,(lO O _ _ _ _ _).trans a.2.1,a.2.2⟩
abbrev ND(W:C3)(g:Nat)(a b c d e:C4):C3:=((((W.setCell (g,0) a).setCell (g,1) b).setCell (g,2) c).setCell (g,3) d).setCell (g,4) e
theorem kM.nest{tj:List fH}(i:kM b V tj w x W)(j:w.heap.size<g)(a c d e f:C4):kM b V tj w x (ND W g a c d e f):=i.writ2 j a c d e f
theorem IL{tj:List fH}(am:CE b V tj n 1 (d+1))(ao:CU b V tj n (d+1))(an:CP b V tj n d)(ai:zc b V tj r false false w)(aF:0<=d/\d<=100)(aq:zI (pU (n+1) d r)):
 Cy 148 #[(b,0),(d:Int)] w (qk b V tj w (pU (n+1) d r) (kn w.heap.size)):=by
 obtain⟨_,_⟩:=aF;have c:=U (kM.start (x:=.ok () r) ai);have aP:¬100<d:=O
 have az:=U am;have aC:=U ao;have aB:=U an;have m:=U aq;clear ai am ao an aq;go_enter func148,ntmps148;go_wp2
 go_loopw [5] (fun i wr=>∃k:Int,i=.int .i64 k/\20<=k/\k<=29/\(∀j,20<=j->j<k->zq (pW j) r=false)/\kM b V tj w (.ok () r) wr) (fun i _=>(29-intOf i).toNat)
 case atStart=>exact⟨20,rfl,O,O,fun j aj aD=>O,c.o⟩
 case round=>
  obtain⟨k,rfl,aG,_,ar,al⟩:=hrel;replace c:=U al;have F:=U ar;clear al ar;by_cases aH:k<=28
  .obtain⟨s,N⟩:=Cz (xN k)
   have W:=U N;cases hv:zU s.data.toList (PR.ok () r)with
   |false=>
     have au:∀j,20<=j->j<k+1->zq (pW j) r=false:=fun j aj aD=>by
      by_cases e:j=k
      .subst e
       unfold pW;rw[N];exact hv
      .exact F.o j aj O
     replace F:=U au;have Q:=U hv;clear N hv au
     go_wp2_with (first
      |(go_at_call 21;(with_reducible refine(xh k s W.o c.o.st).mono ?_);rintro e Y ⟨rfl,f⟩;replace c:=U (c.o.step f);clear f)
      |(go_at_call 56;(with_reducible refine(zE c.o.st s Q.o).mono ?_);rintro e ay ⟨rfl,f⟩;replace c:=U (c.o.step f);clear f))
     go_roundw
     case rel=>exact⟨k+1,rfl,O,O,F.o,c.o⟩
     case measure=>simp[intOf];omega
   |true=>
     have I:pX r=k:=RM aG aH (by unfold pW;rw[N];exact hv) F.o;have ap:¬k=0:=O
     have Q:=U hv;by_cases ak:23<=k
     .have p:pU (n+1) d r=(zN [40] r.tail).bind fun _ r=>(pE n 1 (d+1) r).bind fun e r=>(zN [41] r).bind fun _ r=>.ok (.mk 4 k 0 bE [e]) r:=by rw[pU,Dp O,I,Dp ap,Dq ak]
      have t:=m.o;rw[<-zb]at p;rw[p]at t;have EX:=U p;replace m:=C0 (zI ((zN [40] r.tail).bind fun _ r=>pE n 1 (d+1) r)) (qM t);clear N hv I p t F
      go_wp2_with (first
       |(go_at_call 21;(with_reducible refine(xh k s W.o c.o.st).mono ?_);rintro e Y ⟨rfl,f⟩;replace c:=U (c.o.step f);clear f)
       | (go_at_call 56;(with_reducible refine(qA c.o.st s Q.o).mono ?_);rintro e ay ⟨rfl,f⟩
          replace c:=C0 (kM b V tj w (.ok () r.tail) ay) (c.o.step f)
          clear f)
       | (go_at_call 58;(with_reducible refine(zg c.o.st ⟨#[40]⟩).mono ?_);rintro e l ⟨rfl,f⟩
          replace c:=C0 (kM b V tj w (zN [40] r.tail) l) (c.o.step f);have S:=c.o.size;have aE:=c.o.st.lt;have R:l.heap.size≠b:=O
          clear f)
       | (go_at_call 126;(with_reducible refine(az.o.call (c.o.alloc yl).st m.o).mono ?_);rintro e G ⟨v,rfl,f,q⟩
          obtain⟨u,y,z,A,B,C,D,rfl⟩:=jC q m.o;have P:=U q;have H:=jH f.off (k:=l.heap.size) Uh R (Ds l yl);have T:=U H;obtain⟨⟨aJ,aK,aL,aM,aN⟩,aO⟩:=zh H;replace c:=U ((c.o.alloc yl).step f)
          clear f q H)
       | (go_at_call 58;(with_reducible refine(zg (c.o.nest S (.int .i64 u) (.int .i64 y) (.int .i64 z) (.string A) (.slice B C D)).st ⟨#[41]⟩).mono ?_);rintro e Z ⟨rfl,f⟩
          have ax:l.heap.size<G.heap.size:=(Array.getElem?_eq_some_iff.1 T.o).1;have av:=jH f.off (k:=l.heap.size) (by simp;exact ax) R (l6 T.o _ _ _ _ _);have aA:=U ((zM.wj (L:=(l.alloc yl).heap.size) (w:=G) (g:=l.heap.size) Uh (.int .i64 u) (.int .i64 y) (.int .i64 z) (.string A) (.slice B C D)).trans (zM.did f Ug));obtain⟨⟨_,_,_,_,_⟩,_⟩:=zh av;replace c:=U ((c.o.writ2 S (.int .i64 u) (.int .i64 y) (.int .i64 z) (.string A) (.slice B C D)).step f);obtain⟨⟨ab,ad,ae,af,ag⟩,ah⟩:=c.o.own;have aQ:=c.o.size
          clear f av))
      obtain⟨J,f1,K,f3,M⟩:=c.o.wv (.cells #[(u:Int),(y:Int),(z:Int),A,(B,C,D)] 147) (.int .i64 4) (.int .i64 k) (.int .i64 0) (.string ⟨#[]⟩) (.slice (some ⟨Z.heap.size,0,none⟩) 1 1);refine bodyPost_ret (v:=.agg #[(4:Int),(k:Int),(0:Int),.string ⟨#[]⟩,.slice (some ⟨Z.heap.size,0,none⟩) 1 1]) (by simp[results,results148,go_sem,J,f1,K,f3,M]) rfl ?_;rw[EX.o];refine c.o.de ?_ ((P.o.imp fun a E=>(show kn w.heap.size ((g2 Z w.heap.size _ _ _ _ _).alloc _) (.mk 4 k 0 bE [a]) _ from⟨_,rfl,⟨Vl,Vj⟩,uG ((kn.keep E aA.o Zr).wj Ug _ _ _ _ _) Zr (by rw[xd];omega) (xd _ _ _ _ _ _ _).symm⟩)).bind (fun a r _ E=>vJ E) fun a E=>⟨_,E⟩);rw[jh];simp only[xW];rw[<-q7]
     .have p:pU (n+1) d r=(pU n (d+1) r.tail).bind fun e r=>.ok (.mk 4 k 0 bE [e]) r:=by rw[pU,Dp O,I,Dp ap,Dp ak]
      have t:=m.o;rw[p]at t;have EX:=U p;replace m:=C0 (zI ((PR.ok () r.tail).bind fun _ r=>pU n (d+1) r)) (qM t);clear N hv I p t F
      go_wp2_with (first
       |(go_at_call 21;(with_reducible refine(xh k s W.o c.o.st).mono ?_);rintro e Y ⟨rfl,f⟩;replace c:=U (c.o.step f);clear f)
       | (go_at_call 56;(with_reducible refine(qA c.o.st s Q.o).mono ?_);rintro e l ⟨rfl,f⟩
          replace c:=C0 (kM b V tj w (.ok () r.tail) l) (c.o.step f);have S:=c.o.size;have aE:=c.o.st.lt;have R:l.heap.size≠b:=O
          clear f)
       | (go_at_call 148;(with_reducible refine(aC.o.call (c.o.alloc yl).st m.o).mono ?_);rintro e G ⟨v,rfl,f,q⟩
          obtain⟨u,y,z,A,B,C,D,rfl⟩:=jC q m.o;have P:=U q;have H:=jH f.off (k:=l.heap.size) Uh R (Ds l yl);have T:=U H;obtain⟨⟨aJ,aK,aL,aM,aN⟩,aO⟩:=zh H;replace c:=U ((c.o.alloc yl).step f);obtain⟨⟨ab,ad,ae,af,ag⟩,ah⟩:=c.o.own;have ax:=c.o.size
          clear f q H))
      have aa:=U (c.o.writ2 S (.int .i64 u) (.int .i64 y) (.int .i64 z) (.string A) (.slice B C D));obtain⟨J,f1,K,f3,M⟩:=aa.o.wv (.cells #[(u:Int),(y:Int),(z:Int),A,(B,C,D)] 147) (.int .i64 4) (.int .i64 k) (.int .i64 0) (.string ⟨#[]⟩) (.slice (some ⟨G.heap.size,0,none⟩) 1 1);unfold g2 at J f1 K f3 M;refine bodyPost_ret (v:=.agg #[(4:Int),(k:Int),(0:Int),.string ⟨#[]⟩,.slice (some ⟨G.heap.size,0,none⟩) 1 1]) (by simp[results,results148,go_sem,J,f1,K,f3,M]) rfl ?_;rw[EX.o];have aw:(g2 (g2 G l.heap.size (.int .i64 u) (.int .i64 y) (.int .i64 z) (.string A) (.slice B C D)) w.heap.size (.int .i64 4) (.int .i64 k) (.int .i64 0) (.string ⟨#[]⟩) (.slice (some ⟨G.heap.size,0,none⟩) 1 1)).heap.size=G.heap.size:=by rw[xd,xd]
      refine aa.o.de Kn (j9.bind P.o (fun a r _ E=>?_) fun a E=>⟨.mk 4 k 0 bE [a],?_⟩)
      all_goals exact⟨_,rfl,⟨Vl,Vj⟩,uG ((kn.keep E (zM.wj Uh _ _ _ _ _) Zr).wj Ug _ _ _ _ _) Zr (by rw[aw];omega) aw.symm⟩
  .obtain rfl:k=29:=by omega
   have I:pX r=0:=NC F.o;have p:pU (n+1) d r=pP n d r:=by rw[pU,Dp O,I,Dq rfl]
   have EX:=U p;have t:=m.o;rw[p]at t;replace m:=C0 (zI ((PR.ok () r).bind fun _ r=>pP n d r)) t;clear I p t F
   go_wp2_with (first
    | (go_at_call 160;(with_reducible refine(aB.o.call c.o.st m.o).mono ?_);rintro e Y ⟨v,rfl,f,q⟩
       obtain⟨u,y,z,A,B,C,D,rfl⟩:=jC q m.o;have aI:=c.o.size;have P:=U q;replace c:=U (c.o.step f);clear f q
       obtain⟨⟨ab,ad,ae,af,ag⟩,ah⟩:=c.o.own))
   obtain⟨J,f1,K,f3,M⟩:=c.o.read (.int .i64 u) (.int .i64 y) (.int .i64 z) (.string A) (.slice B C D);refine bodyPost_ret (v:=.agg #[(u:Int),(y:Int),(z:Int),A,(B,C,D)]) (by simp[results,results148,go_sem,J,f1,K,f3,M]) rfl ?_;rw[EX.o];exact c.o.fin (X:=pP n d r) rfl (P.o.imp fun a E=>kn.wj E aI _ _ _ _ _)
theorem NE{tj:List fH}(l:d<=100->CE b V tj n 1 (d+1))(p:d<=100->CU b V tj n (d+1))(m:d<=100->CP b V tj n d)(g:0<=d/\d<=1000):CU b V tj (n+1) d:=by
 intro w x a q;by_cases i:d<=100
 .cases ho:qD x with
  |true=>exact(sK a g ho i).mono fun e w' ⟨f,c⟩=>f▸mO ho c Z2 (lK _ _)
  |false=>
    cases x with
    |ok s r=>exact IL (l i) (p i) (m i) a ⟨g.1,i⟩ q
    |bad r=>cases ho
    |deep r=>cases ho
    |o=>exact absurd a id
 .have j:100<d:=by omega
  cases x with
  |ok s r=>
    have k:pU (n+1) d r=.deep r:=by rw[pU,Dq j]
    show Calls _ _ _ _ (qk b V tj w (pU (n+1) d r) _);rw[k];exact(lN (dp:=false) a g j).mono fun e w' ⟨f,c⟩=>⟨_,f,c,Z2,lK _ _⟩
  |bad r=>exact(AG (r:=r) rfl a g rfl j).mono fun e w' ⟨f,c⟩=>⟨_,f,c,Z2,lK _ _⟩
  |deep r=>exact(lN (dp:=true) a g j).mono fun e w' ⟨f,c⟩=>⟨_,f,c,Z2,lK _ _⟩
  |o=>exact absurd a id
