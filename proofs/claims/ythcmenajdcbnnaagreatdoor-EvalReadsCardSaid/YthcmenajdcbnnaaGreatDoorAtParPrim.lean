import Derived.Test.YthcmenajdcbnnaaGreatDoorAtParNums
set_option linter.unusedSimpArgs false
set_option linter.unusedVariables false
set_option maxRecDepth 100000
/- The document's parser: what has no operator, way by way. (By tools/gen_parprim.py.) -/
namespace Go.Proofs.YthcmenajdcbnnaaGreatDoor
open Lib (hid)
open Go.RowKit
theorem Om{p:Prop}(h:p:=by
 rw[pP,h1,h2,h3,h4,if_neg I8,if_neg I8,if_neg I8,if_neg I8,if_neg i]at a;unfold want at a;rw[if_pos h]at a;simp only[PR.bind]at a;rw[pN]at a;exact absurd a id):p:=h
theorem On{p:Prop}(h:p:=by
 go_roundw
 case rel=>exact⟨k+1,rfl,I7,I7,a.out⟩
 case measure=>simp[intOf];omega):p:=h
theorem Oo{p:Prop}(h:p:=by
 go_roundw
 case rel=>exact⟨k+1,rfl,I7,I7,d.out,a.out⟩
 case measure=>simp[intOf];omega):p:=h
theorem vS{b:Nat}{V:Value}{all:List Tok}{x:PR Unit}{w:World}(c:jI b V all x w)(g:zl x=true)(d:Int):
 Calls Tryz.prog 160 #[.pointer (some ⟨b,0,none⟩),.int .i64 d] w fun e w'=>e=.returned ex0V/\qd b V all w x w':=by
 have a:=hid (je.start c);have h:=hid g;clear c g;go_enter Tryz.func160,Tryz.ntmps160;go_wp2_with (go_at_call 53;(with_reducible refine(zt a.out.st true h.out).mono ?_);rintro e i ⟨rfl,rfl⟩);exact bodyPost_ret (v:=ex0V) (by simp[results,Tryz.results160,go_sem,ex0V]) rfl ⟨rfl,a.out.did⟩
theorem prim_true{b:Nat}{V:Value}{all r:List Tok}{w:World}{n:Nat}{d:Int}(g:zW b V all r false false w)(C:0<=d/\d<=1000)(h:ze [40] r=false)(i:ze uh r=true):
 Calls Tryz.prog 160 #[.pointer (some ⟨b,0,none⟩),.int .i64 d] w (qM b V all w (pP (n+1) d r) (jx w.heap.size)):=by
 obtain⟨D,E⟩:=C;have F:=g.lt;have a:=hid (je.start (x:=.ok () r) g);have k:pP (n+1) d r=.ok (.mk 2 0 1 bE []) r.tail:=by rw[pP,h,i,if_neg I8,if_pos rfl]
 rw[k];have l:=hid (show zS (⟨#[40]⟩:ByteArray).data.toList (PR.ok () r)=false from h);have m:=hid (show zS (⟨#[116,114,117,101]⟩:ByteArray).data.toList (PR.ok () r)=true from i);clear g h i k;go_enter Tryz.func160,Tryz.ntmps160
 go_wp2_with (first
  | (go_at_call 53;(with_reducible refine(zt a.out.st false rfl).mono ?_);rintro e j ⟨rfl,rfl⟩)
  | (go_at_call 56;(with_reducible refine(zD a.out.st _ l.out).mono ?_);rintro e j ⟨rfl,c⟩
     replace a:=hid (a.out.step c);clear c
     obtain⟨⟨o,p,q,t,u⟩,B⟩:=a.out.own)
  | (go_at_call 56;(with_reducible refine(zi a.out.st _ m.out).mono ?_);rintro e j ⟨rfl,c⟩
     replace a:=hid (show je b _ all w (.ok () r.tail) j from a.out.step c);clear c
     obtain⟨⟨o,p,q,t,u⟩,B⟩:=a.out.own))
 obtain⟨y,f1,z,f3,A⟩:=a.out.read (.int .i64 2) (.int .i64 0) (.int .i64 1) (.string ⟨#[]⟩) (.slice none 0 0);refine bodyPost_ret (v:=.agg #[.int .i64 2,.int .i64 0,.int .i64 1,.string ⟨#[]⟩,.slice none 0 0]) (by simp[results,Tryz.results160,go_sem,y,f1,z,f3,A]) rfl ?_;exact a.out.fin (rfl) (vx _ _ 2 0 1 bE IA)
theorem prim_false{b:Nat}{V:Value}{all r:List Tok}{w:World}{n:Nat}{d:Int}(h:zW b V all r false false w)(E:0<=d/\d<=1000)(i:ze [40] r=false)(j:ze uh r=false)(k:ze vE r=true):
 Calls Tryz.prog 160 #[.pointer (some ⟨b,0,none⟩),.int .i64 d] w (qM b V all w (pP (n+1) d r) (jx w.heap.size)):=by
 obtain⟨F,G⟩:=E;have H:=h.lt;have a:=hid (je.start (x:=.ok () r) h);have t:pP (n+1) d r=.ok (.mk 2 0 0 bE []) r.tail:=by rw[pP,i,j,k,if_neg I8,if_neg I8,if_pos rfl]
 rw[t];have y:=hid (show zS (⟨#[40]⟩:ByteArray).data.toList (PR.ok () r)=false from i);have z:=hid (show zS (⟨#[116,114,117,101]⟩:ByteArray).data.toList (PR.ok () r)=false from j);have A:=hid (show zS (⟨#[102,97,108,115,101]⟩:ByteArray).data.toList (PR.ok () r)=true from k);clear h i j k t;go_enter Tryz.func160,Tryz.ntmps160
 go_wp2_with (first
  | (go_at_call 53;(with_reducible refine(zt a.out.st false rfl).mono ?_);rintro e g ⟨rfl,rfl⟩)
  | (go_at_call 56;(with_reducible refine(zD a.out.st _ y.out).mono ?_);rintro e g ⟨rfl,c⟩
     replace a:=hid (a.out.step c);clear c
     obtain⟨⟨l,m,o,p,q⟩,u⟩:=a.out.own)
  | (go_at_call 56;(with_reducible refine(zD a.out.st _ z.out).mono ?_);rintro e g ⟨rfl,c⟩
     replace a:=hid (a.out.step c);clear c
     obtain⟨⟨l,m,o,p,q⟩,u⟩:=a.out.own)
  | (go_at_call 56;(with_reducible refine(zi a.out.st _ A.out).mono ?_);rintro e g ⟨rfl,c⟩
     replace a:=hid (show je b _ all w (.ok () r.tail) g from a.out.step c);clear c
     obtain⟨⟨l,m,o,p,q⟩,u⟩:=a.out.own))
 obtain⟨B,f1,C,f3,D⟩:=a.out.read (.int .i64 2) (.int .i64 0) (.int .i64 0) (.string ⟨#[]⟩) (.slice none 0 0);refine bodyPost_ret (v:=.agg #[.int .i64 2,.int .i64 0,.int .i64 0,.string ⟨#[]⟩,.slice none 0 0]) (by simp[results,Tryz.results160,go_sem,B,f1,C,f3,D]) rfl ?_;exact a.out.fin (rfl) (vx _ _ 2 0 0 bE IA)
theorem prim_read{b:Nat}{V:Value}{all r:List Tok}{w:World}{n:Nat}{d:Int}(o:zW b V all r false false w)(G:0<=d/\d<=1000)(p:ze [40] r=false)(q:ze uh r=false)(t:ze vE r=false)(u:ze sRead r=true):
 Calls Tryz.prog 160 #[.pointer (some ⟨b,0,none⟩),.int .i64 d] w (qM b V all w (pP (n+1) d r) (jx w.heap.size)):=by
 obtain⟨H,I⟩:=G;have J:=o.lt;have a:=hid (je.start (x:=.ok () r) o);have y:pP (n+1) d r=(zN [40] r.tail).bind fun _ r=>(zN [41] r).bind fun _ r=>.ok (.mk 8 0 0 bE []) r:=by rw[pP,p,q,t,u,if_neg I8,if_neg I8,if_neg I8,if_pos rfl]
 rw[y];have z:=hid (show zS (⟨#[40]⟩:ByteArray).data.toList (PR.ok () r)=false from p);have A:=hid (show zS (⟨#[116,114,117,101]⟩:ByteArray).data.toList (PR.ok () r)=false from q);have B:=hid (show zS (⟨#[102,97,108,115,101]⟩:ByteArray).data.toList (PR.ok () r)=false from t);have C:=hid (show zS (⟨#[114,101,97,100]⟩:ByteArray).data.toList (PR.ok () r)=true from u);clear o p q t u y;go_enter Tryz.func160,Tryz.ntmps160
 go_wp2_with (first
  | (go_at_call 53;(with_reducible refine(zt a.out.st false rfl).mono ?_);rintro e g ⟨rfl,rfl⟩)
  | (go_at_call 56;(with_reducible refine(zD a.out.st _ z.out).mono ?_);rintro e g ⟨rfl,c⟩
     replace a:=hid (a.out.step c);clear c
     obtain⟨⟨h,i,j,k,l⟩,m⟩:=a.out.own)
  | (go_at_call 56;(with_reducible refine(zD a.out.st _ A.out).mono ?_);rintro e g ⟨rfl,c⟩
     replace a:=hid (a.out.step c);clear c
     obtain⟨⟨h,i,j,k,l⟩,m⟩:=a.out.own)
  | (go_at_call 56;(with_reducible refine(zD a.out.st _ B.out).mono ?_);rintro e g ⟨rfl,c⟩
     replace a:=hid (a.out.step c);clear c
     obtain⟨⟨h,i,j,k,l⟩,m⟩:=a.out.own)
  | (go_at_call 56;(with_reducible refine(zi a.out.st _ C.out).mono ?_);rintro e g ⟨rfl,c⟩
     replace a:=hid (show je b _ all w (.ok () r.tail) g from a.out.step c);clear c
     obtain⟨⟨h,i,j,k,l⟩,m⟩:=a.out.own)
  | (go_at_call 58;(with_reducible refine(zY a.out.st ⟨#[40]⟩).mono ?_);rintro e g ⟨rfl,c⟩
     replace a:=hid (show je b _ all w (zN [40] r.tail) g from a.out.step c)
     clear c)
  | (go_at_call 58;(with_reducible refine(zY a.out.st ⟨#[41]⟩).mono ?_);rintro e g ⟨rfl,c⟩
     replace a:=hid (show je b _ all w ((zN [40] r.tail).bind fun _ r=>zN [41] r) g from a.out.step c);clear c
     obtain⟨⟨h,i,j,k,l⟩,m⟩:=a.out.own))
 obtain⟨D,f1,E,f3,F⟩:=a.out.read (.int .i64 8) (.int .i64 0) (.int .i64 0) (.string ⟨#[]⟩) (.slice none 0 0);refine bodyPost_ret (v:=.agg #[.int .i64 8,.int .i64 0,.int .i64 0,.string ⟨#[]⟩,.slice none 0 0]) (by simp[results,Tryz.results160,go_sem,D,f1,E,f3,F]) rfl ?_;exact a.out.fin (by rw[jE];simp only[ki]) (qy.bind (P:=fun _=>True) (by unfold zN;split;trivial;exact⟨(),trivial⟩) (fun _ r _ _=>yd (vx _ _ 8 0 0 bE IA)) (fun _ _=>⟨_,vx _ _ 8 0 0 bE IA⟩))
theorem prim_paren{b:Nat}{V:Value}{all r:List Tok}{w:World}{n:Nat}{d:Int}(q:CE b V all n 1 (d+1))(i:zW b V all r false false w)(P:0<=d/\d<=1000)(j:ze [40] r=true)(m:zG (pP (n+1) d r)):
 Calls Tryz.prog 160 #[.pointer (some ⟨b,0,none⟩),.int .i64 d] w (qM b V all w (pP (n+1) d r) (jx w.heap.size)):=by
 obtain⟨Y,Z⟩:=P;have aa:=i.lt;have c:=hid (je.start (x:=.ok () r) i);rw[pP,if_pos j]at m ⊢;have I:=hid (show zS (⟨#[40]⟩:ByteArray).data.toList (PR.ok () r)=true from j);have p:=hid (show zG ((PR.ok () r.tail).bind fun _ r=>pE n 1 (d+1) r)from zu m);have F:=hid q;clear i j m q;go_enter Tryz.func160,Tryz.ntmps160
 go_wp2_with (first
  | (go_at_call 53;(with_reducible refine(zt c.out.st false rfl).mono ?_);rintro e o ⟨rfl,rfl⟩)
  | (go_at_call 56;(with_reducible refine(zi c.out.st _ I.out).mono ?_);rintro e o ⟨rfl,g⟩
     replace c:=hid (show je b _ all w (.ok () r.tail) o from c.out.step g);clear g
     have Q:=c.out.size)
  | (go_at_call 126;(with_reducible refine(F.out.call c.out.st p.out).mono ?_);rintro e E ⟨v,rfl,g,l⟩
     obtain⟨u,y,z,A,B,C,D,rfl⟩:=qX l p.out;have G:=hid l;have N:=c.out.st.lt;replace c:=hid (c.out.step g);have O:E.heap.size≠b:=by have:=c.out.st.lt;omega
     clear g l)
  | (go_at_call 58;(with_reducible refine(zY (c.out.alloc _).st _).mono ?_);rintro e ae ⟨rfl,g⟩
     have t:=(zK.of_below (L:=o.heap.size) (Zb.alloc Zr _)).trans (zK.did g N);have H:=hid t;obtain⟨ab,ad⟩:=off_own g.off (k:=E.heap.size) Ia O;replace c:=hid ((c.out.alloc _).step g);clear g t
     obtain⟨⟨R,S,T,U,W⟩,X⟩:=c.out.own))
 obtain⟨J,f1,K,f3,M⟩:=c.out.read (.int .i64 u) (.int .i64 y) (.int .i64 z) (.string A) (.slice B C D);refine bodyPost_ret (v:=.agg #[.int .i64 u,.int .i64 y,.int .i64 z,.string A,.slice B C D]) (by simp[results,Tryz.results160,go_sem,J,f1,K,f3,M]) rfl ?_;refine c.out.fin ?_ ((G.out.imp fun a h=>(jx.keep h H.out Zr).writ Q _ _ _ _ _).bind (fun a r _ h=>yd h) fun a h=>⟨a,h⟩);rw[jE];simp only[ki];rw[<-bind_un];rfl
theorem prim_num{b:Nat}{V:Value}{all r:List Tok}{w:World}{n:Nat}{d:Int}(z:zW b V all r false false w)(Z:0<=d/\d<=1000)(C:ze [40] r=false)(D:ze uh r=false)(E:ze vE r=false)(F:ze sRead r=false)(A:uO r=0):
 Calls Tryz.prog 160 #[.pointer (some ⟨b,0,none⟩),.int .i64 d] w (qM b V all w (pP (n+1) d r) (jx w.heap.size)):=by
 obtain⟨ae,af⟩:=Z;have aj:=z.lt;have a:=hid (je.start (x:=.ok () r) z);have K:=z.num A;have J:pP (n+1) d r=.ok (.mk 1 0 (jj 0 (hdT r)) bE []) r.tail:=by rw[pP,C,D,E,F,if_neg I8,if_neg I8,if_neg I8,if_neg I8,if_pos A]
 rw[J];have M:=hid (show zS (⟨#[40]⟩:ByteArray).data.toList (PR.ok () r)=false from C);have N:=hid (show zS (⟨#[116,114,117,101]⟩:ByteArray).data.toList (PR.ok () r)=false from D);have O:=hid (show zS (⟨#[102,97,108,115,101]⟩:ByteArray).data.toList (PR.ok () r)=false from E);have P:=hid (show zS (⟨#[114,101,97,100]⟩:ByteArray).data.toList (PR.ok () r)=false from F);have H:=hid A;have B:=hid K;clear z C D E F A J K;go_enter Tryz.func160,Tryz.ntmps160
 go_wp2_with (first
  | (go_at_call 53;(with_reducible refine(zt a.out.st false rfl).mono ?_);rintro e i ⟨rfl,rfl⟩)
  | (go_at_call 56;(with_reducible refine(zD a.out.st _ M.out).mono ?_);rintro e i ⟨rfl,h⟩
     replace a:=hid (a.out.step h);clear h
     obtain⟨⟨j,l,o,p,u⟩,y⟩:=a.out.own)
  | (go_at_call 56;(with_reducible refine(zD a.out.st _ N.out).mono ?_);rintro e i ⟨rfl,h⟩
     replace a:=hid (a.out.step h);clear h
     obtain⟨⟨j,l,o,p,u⟩,y⟩:=a.out.own)
  | (go_at_call 56;(with_reducible refine(zD a.out.st _ O.out).mono ?_);rintro e i ⟨rfl,h⟩
     replace a:=hid (a.out.step h);clear h
     obtain⟨⟨j,l,o,p,u⟩,y⟩:=a.out.own)
  | (go_at_call 56;(with_reducible refine(zD a.out.st _ P.out).mono ?_);rintro e i ⟨rfl,h⟩
     replace a:=hid (a.out.step h);clear h
     obtain⟨⟨j,l,o,p,u⟩,y⟩:=a.out.own))
 obtain⟨g,c,k,t,q,rfl,rfl,aa,ag,ai,Q,R,S,T,L,ab,ad⟩:=(show zW b V all r false false i from a.out.st).tok;have ah:(k:Int)<all.length:=I7
 clear aa;rw[show t.kind=0 from H.out]at L
 go_quiet (fail)
 replace a:=hid (a.out.drewN nq);clear Q R S T L ab ad;obtain⟨m,G⟩:∃m:Nat,jj 0 (⟨t.text.toArray⟩:ByteArray).data.toList=m:=⟨_,rfl⟩
 have ak:m<9223372036854775808:=by rw[<-G];exact B.out.2.2
 have I:=hid G;clear G
 go_wp2_with (first
  | (go_at_call 55;(with_reducible refine(uo a.out.st 0 I8 H.out ⟨t.text.toArray⟩ rfl).mono ?_);rintro e al ⟨rfl,h⟩
     replace a:=hid (a.out.step h);clear h
     obtain⟨⟨j,l,o,p,u⟩,y⟩:=a.out.own)
  | (go_at_call 57;(refine(rvalue_num ⟨t.text.toArray⟩ _ B.out.1 B.out.2.1).mono ?_);rintro e am ⟨rfl,rfl⟩;rw[I.out]))
 have U:Ex.mk 1 0 (jj 0 (hdT (t::q)):Nat) bE []=.mk 1 0 m bE []:=congrArg (fun x:Nat=>Ex.mk 1 0 x bE []) I.out;rw[U];obtain⟨W,f1,X,f3,Y⟩:=a.out.read (.int .i64 1) (.int .i64 0) (.int .i64 m) (.string ⟨#[]⟩) (.slice none 0 0);refine bodyPost_ret (v:=.agg #[.int .i64 1,.int .i64 0,.int .i64 m,.string ⟨#[]⟩,.slice none 0 0]) (by simp[results,Tryz.results160,go_sem,W,f1,X,f3,Y]) rfl ?_;exact a.out.fin (rfl) (vx _ _ 1 0 m bE (by unfold i64R;omega))
theorem prim_bad{b:Nat}{V:Value}{all r:List Tok}{w:World}{n:Nat}{d:Int}(y:zW b V all r false false w)(W:0<=d/\d<=1000)(z:ze [40] r=false)(A:ze uh r=false)(B:ze vE r=false)(C:ze sRead r=false)(D:uO r≠0)(E:uO r≠1):
 Calls Tryz.prog 160 #[.pointer (some ⟨b,0,none⟩),.int .i64 d] w (qM b V all w (pP (n+1) d r) (jx w.heap.size)):=by
 obtain⟨ab,ad⟩:=W;have ai:=y.lt;have a:=hid (je.start (x:=.ok () r) y);have F:pP (n+1) d r=.bad r:=by rw[pP,z,A,B,C,if_neg I8,if_neg I8,if_neg I8,if_neg I8,if_neg D];unfold want;rw[if_neg E];rfl
 rw[F];have K:=hid (show zS (⟨#[40]⟩:ByteArray).data.toList (PR.ok () r)=false from z);have L:=hid (show zS (⟨#[116,114,117,101]⟩:ByteArray).data.toList (PR.ok () r)=false from A);have M:=hid (show zS (⟨#[102,97,108,115,101]⟩:ByteArray).data.toList (PR.ok () r)=false from B);have N:=hid (show zS (⟨#[114,101,97,100]⟩:ByteArray).data.toList (PR.ok () r)=false from C);have I:=hid D;have J:=hid E;have G:=hid (show zS (⟨#[40]⟩:ByteArray).data.toList ((PR.bad r:PR Unit))=false from rfl);have H:=hid (show zS (⟨#[91]⟩:ByteArray).data.toList ((PR.bad r:PR Unit))=false from rfl);clear y z A B C D E F;go_enter Tryz.func160,Tryz.ntmps160
 go_wp2_with (first
  | (go_at_call 53;(with_reducible refine(zt a.out.st false rfl).mono ?_);rintro e i ⟨rfl,rfl⟩)
  | (go_at_call 56;(with_reducible refine(zD a.out.st _ K.out).mono ?_);rintro e i ⟨rfl,h⟩
     replace a:=hid (a.out.step h);clear h
     obtain⟨⟨j,l,m,o,p⟩,u⟩:=a.out.own)
  | (go_at_call 56;(with_reducible refine(zD a.out.st _ L.out).mono ?_);rintro e i ⟨rfl,h⟩
     replace a:=hid (a.out.step h);clear h
     obtain⟨⟨j,l,m,o,p⟩,u⟩:=a.out.own)
  | (go_at_call 56;(with_reducible refine(zD a.out.st _ M.out).mono ?_);rintro e i ⟨rfl,h⟩
     replace a:=hid (a.out.step h);clear h
     obtain⟨⟨j,l,m,o,p⟩,u⟩:=a.out.own)
  | (go_at_call 56;(with_reducible refine(zD a.out.st _ N.out).mono ?_);rintro e i ⟨rfl,h⟩
     replace a:=hid (a.out.step h);clear h
     obtain⟨⟨j,l,m,o,p⟩,u⟩:=a.out.own))
 obtain⟨g,c,k,t,q,rfl,rfl,X,af,ah,O,P,Q,R,Y,Z,aa⟩:=(show zW b V all r false false i from a.out.st).tok;have ag:(k:Int)<all.length:=I7
 clear X;have ae:(t.kind == 0)=false:=by have:=I.out;simpa[uO]using this
 go_quiet (fail)
 replace a:=hid (a.out.drewN nq);clear O P Q R Y Z aa
 go_wp2_with (first
  | (go_at_call 55;(with_reducible refine(text_no a.out.st 1 I8 J.out).mono ?_);rintro e aj ⟨s,rfl,h⟩
     replace a:=hid (a.out.step h)
     clear h)
  | (go_at_call 56;(with_reducible refine(zD a.out.st _ G.out).mono ?_);rintro e i ⟨rfl,h⟩
     replace a:=hid (a.out.step h);clear h
     obtain⟨⟨j,l,m,o,p⟩,u⟩:=a.out.own)
  | (go_at_call 56;(with_reducible refine(zD a.out.st _ H.out).mono ?_);rintro e i ⟨rfl,h⟩
     replace a:=hid (a.out.step h);clear h
     obtain⟨⟨j,l,m,o,p⟩,u⟩:=a.out.own))
 obtain⟨S,f1,T,f3,U⟩:=a.out.read (.int .i64 3) (.int .i64 0) (.int .i64 0) (.string s) (.slice none 0 0);refine bodyPost_ret (v:=.agg #[.int .i64 3,.int .i64 0,.int .i64 0,.string s,.slice none 0 0]) (by simp[results,Tryz.results160,go_sem,S,f1,T,f3,U]) rfl ?_;exact a.out.fin (rfl) (⟨_,vx _ _ 3 0 0 s IA⟩)
theorem prim_name{b:Nat}{V:Value}{all r:List Tok}{w:World}{n:Nat}{d:Int}(A:zW b V all r false false w)(ad:0<=d/\d<=1000)(B:ze [40] r=false)(C:ze uh r=false)(D:ze vE r=false)(E:ze sRead r=false)(y:uO r=1)(G:ze [40] r.tail=false)(H:ze [91] r.tail=false)(I:zG (pP (n+1) d r)):
 Calls Tryz.prog 160 #[.pointer (some ⟨b,0,none⟩),.int .i64 d] w (qM b V all w (pP (n+1) d r) (jx w.heap.size)):=by
 obtain⟨ai,aj⟩:=ad;have ao:=A.lt;have a:=hid (je.start (x:=.ok () r) A);obtain⟨s,J⟩:∃s:ByteArray,s=⟨(hdT r).toArray⟩:=⟨_,rfl⟩
 have F:uO r≠0:=by rw[y];decide
 have z:pP (n+1) d r=pN n d s r.tail:=by rw[pP,B,C,D,E,if_neg I8,if_neg I8,if_neg I8,if_neg I8,if_neg F,J];unfold want;rw[if_pos y];rfl
 cases n with
 | zero=>rw[z,pN]at I;exact absurd I id
 | succ n=>
 have K:pN (n+1) d s r.tail=.ok (.mk 3 0 0 s []) r.tail:=by rw[pN,G,H,if_neg I8,if_neg I8]
 rw[z,K];have Q:=hid (show zS (⟨#[40]⟩:ByteArray).data.toList (PR.ok () r)=false from B);have R:=hid (show zS (⟨#[116,114,117,101]⟩:ByteArray).data.toList (PR.ok () r)=false from C);have S:=hid (show zS (⟨#[102,97,108,115,101]⟩:ByteArray).data.toList (PR.ok () r)=false from D);have T:=hid (show zS (⟨#[114,101,97,100]⟩:ByteArray).data.toList (PR.ok () r)=false from E);have N:=hid F;have O:=hid y;have P:=hid J;have L:=hid (show zS (⟨#[40]⟩:ByteArray).data.toList (PR.ok () r.tail)=false from G);have M:=hid (show zS (⟨#[91]⟩:ByteArray).data.toList (PR.ok () r.tail)=false from H);clear A B C D E F y G H z K J I;go_enter Tryz.func160,Tryz.ntmps160
 go_wp2_with (first
  | (go_at_call 53;(with_reducible refine(zt a.out.st false rfl).mono ?_);rintro e i ⟨rfl,rfl⟩)
  | (go_at_call 56;(with_reducible refine(zD a.out.st _ Q.out).mono ?_);rintro e i ⟨rfl,h⟩
     replace a:=hid (a.out.step h);clear h
     obtain⟨⟨j,l,m,o,p⟩,u⟩:=a.out.own)
  | (go_at_call 56;(with_reducible refine(zD a.out.st _ R.out).mono ?_);rintro e i ⟨rfl,h⟩
     replace a:=hid (a.out.step h);clear h
     obtain⟨⟨j,l,m,o,p⟩,u⟩:=a.out.own)
  | (go_at_call 56;(with_reducible refine(zD a.out.st _ S.out).mono ?_);rintro e i ⟨rfl,h⟩
     replace a:=hid (a.out.step h);clear h
     obtain⟨⟨j,l,m,o,p⟩,u⟩:=a.out.own)
  | (go_at_call 56;(with_reducible refine(zD a.out.st _ T.out).mono ?_);rintro e i ⟨rfl,h⟩
     replace a:=hid (a.out.step h);clear h
     obtain⟨⟨j,l,m,o,p⟩,u⟩:=a.out.own))
 obtain⟨g,c,k,t,q,rfl,rfl,ae,al,an,U,W,X,Y,af,ag,ah⟩:=(show zW b V all r false false i from a.out.st).tok;have am:(k:Int)<all.length:=I7
 clear ae;have ak:(t.kind == 0)=false:=by have:=N.out;simpa[uO]using this
 go_quiet (fail)
 replace a:=hid (a.out.drewN nq);clear U W X Y af ag ah
 go_wp2_with (first
  | (go_at_call 55;(with_reducible refine(uo a.out.st 1 I8 O.out s P.out).mono ?_);rintro e ap ⟨rfl,h⟩
     replace a:=hid (a.out.step h)
     clear h)
  | (go_at_call 56;(with_reducible refine(zD a.out.st _ L.out).mono ?_);rintro e i ⟨rfl,h⟩
     replace a:=hid (a.out.step h);clear h
     obtain⟨⟨j,l,m,o,p⟩,u⟩:=a.out.own)
  | (go_at_call 56;(with_reducible refine(zD a.out.st _ M.out).mono ?_);rintro e i ⟨rfl,h⟩
     replace a:=hid (a.out.step h);clear h
     obtain⟨⟨j,l,m,o,p⟩,u⟩:=a.out.own))
 obtain⟨Z,f1,aa,f3,ab⟩:=a.out.read (.int .i64 3) (.int .i64 0) (.int .i64 0) (.string s) (.slice none 0 0);refine bodyPost_ret (v:=.agg #[.int .i64 3,.int .i64 0,.int .i64 0,.string s,.slice none 0 0]) (by simp[results,Tryz.results160,go_sem,Z,f1,aa,f3,ab]) rfl ?_;exact a.out.fin (rfl) (vx _ _ 3 0 0 s IA)
theorem prim_call{b:Nat}{V:Value}{all r:List Tok}{w:World}{n:Nat}{d:Int}(N:CA b V all n (d+1))(A:zW b V all r false false w)(am:0<=d/\d<=1000)(B:ze [40] r=false)(C:ze uh r=false)(D:ze vE r=false)(E:ze sRead r=false)(z:uO r=1)(G:ze [40] r.tail=true)(I:zG (pP (n+2) d r)):
 Calls Tryz.prog 160 #[.pointer (some ⟨b,0,none⟩),.int .i64 d] w (qM b V all w (pP (n+2) d r) (jx w.heap.size)):=by
 obtain⟨av,aw⟩:=am;have aB:=A.lt;have h:=hid (je.start (x:=.ok () r) A);obtain⟨s,J⟩:∃s:ByteArray,s=⟨(hdT r).toArray⟩:=⟨_,rfl⟩
 have F:uO r≠0:=by rw[z];decide
 have L:pP (n+2) d r=pN (n+1) d s r.tail:=by rw[pP,B,C,D,E,if_neg I8,if_neg I8,if_neg I8,if_neg I8,if_neg F,J];unfold want;rw[if_pos z];rfl
 have M:pN (n+1) d s r.tail=(pA n (d+1) r.tail.tail).bind fun ai r=>.ok (.mk 7 0 0 s ai) r:=by rw[pN,G,if_pos rfl]
 rw[L,M]at I ⊢;have K:=hid (show zG ((PR.ok () r.tail.tail).bind fun _ r=>pA n (d+1) r)from zu I);have U:=hid N;have Y:=hid (show zS (⟨#[40]⟩:ByteArray).data.toList (PR.ok () r)=false from B);have Z:=hid (show zS (⟨#[116,114,117,101]⟩:ByteArray).data.toList (PR.ok () r)=false from C);have aa:=hid (show zS (⟨#[102,97,108,115,101]⟩:ByteArray).data.toList (PR.ok () r)=false from D);have ab:=hid (show zS (⟨#[114,101,97,100]⟩:ByteArray).data.toList (PR.ok () r)=false from E);have S:=hid F;have T:=hid z;have X:=hid J;have ad:=hid (show zS (⟨#[40]⟩:ByteArray).data.toList (PR.ok () r.tail)=true from G);clear A B C D E F z G L M J I N;go_enter Tryz.func160,Tryz.ntmps160
 go_wp2_with (first
  | (go_at_call 53;(with_reducible refine(zt h.out.st false rfl).mono ?_);rintro e j ⟨rfl,rfl⟩)
  | (go_at_call 56;(with_reducible refine(zD h.out.st _ Y.out).mono ?_);rintro e j ⟨rfl,i⟩
     replace h:=hid (h.out.step i);clear i
     obtain⟨⟨l,m,o,p,u⟩,y⟩:=h.out.own)
  | (go_at_call 56;(with_reducible refine(zD h.out.st _ Z.out).mono ?_);rintro e j ⟨rfl,i⟩
     replace h:=hid (h.out.step i);clear i
     obtain⟨⟨l,m,o,p,u⟩,y⟩:=h.out.own)
  | (go_at_call 56;(with_reducible refine(zD h.out.st _ aa.out).mono ?_);rintro e j ⟨rfl,i⟩
     replace h:=hid (h.out.step i);clear i
     obtain⟨⟨l,m,o,p,u⟩,y⟩:=h.out.own)
  | (go_at_call 56;(with_reducible refine(zD h.out.st _ ab.out).mono ?_);rintro e j ⟨rfl,i⟩
     replace h:=hid (h.out.step i);clear i
     obtain⟨⟨l,m,o,p,u⟩,y⟩:=h.out.own))
 obtain⟨g,c,k,t,q,rfl,rfl,an,ay,aA,ae,af,ag,ah,ap,aq,ar⟩:=(show zW b V all r false false j from h.out.st).tok;have az:(k:Int)<all.length:=I7
 clear an;have ax:(t.kind == 0)=false:=by have:=S.out;simpa[uO]using this
 go_quiet (fail)
 replace h:=hid (h.out.drewN nq);clear ae af ag ah ap aq ar
 go_wp2_with (first
  | (go_at_call 55;(with_reducible refine(uo h.out.st 1 I8 T.out s X.out).mono ?_);rintro e aC ⟨rfl,i⟩
     replace h:=hid (h.out.step i)
     clear i)
  | (go_at_call 56;(with_reducible refine(zi h.out.st _ ad.out).mono ?_);rintro e au ⟨rfl,i⟩
     replace h:=hid (show je b _ all w (.ok () (t::q).tail.tail) au from h.out.step i);clear i
     have ao:=h.out.size)
  | (go_at_call 150;(with_reducible refine(U.out.call h.out.st K.out).mono ?_);rintro e aD ⟨v,rfl,i,H⟩
     obtain⟨P,Q,R,rfl⟩:=got_forms H K.out;have W:=hid H;replace h:=hid (h.out.step i);clear i H
     obtain⟨⟨l,m,o,p,u⟩,y⟩:=h.out.own))
 obtain⟨aj,f1,ak,f3,al⟩:=h.out.read (.int .i64 7) (.int .i64 0) (.int .i64 0) (.string s) (.slice P Q R);refine bodyPost_ret (v:=.agg #[.int .i64 7,.int .i64 0,.int .i64 0,.string s,.slice P Q R]) (by simp[results,Tryz.results160,go_sem,aj,f1,ak,f3,al]) rfl ?_;refine h.out.fin Qo (qy.bind W.out (fun a r _ O=>?_) fun a O=>⟨.mk 7 0 0 s a,?_⟩)
 all_goals exact⟨_,rfl,⟨IY,IW⟩,O.writ ao _ _ _ _ _⟩
theorem prim_index{b:Nat}{V:Value}{all r:List Tok}{w:World}{n:Nat}{d:Int}(S:CE b V all n 1 (d+1))(C:zW b V all r false false w)(au:0<=d/\d<=1000)(D:ze [40] r=false)(E:ze uh r=false)(F:ze vE r=false)(G:ze sRead r=false)(A:uO r=1)(I:ze [40] r.tail=false)(J:ze [91] r.tail=true)(M:zG (pP (n+2) d r)):
 Calls Tryz.prog 160 #[.pointer (some ⟨b,0,none⟩),.int .i64 d] w (qM b V all w (pP (n+2) d r) (jx w.heap.size)):=by
 obtain⟨aG,aH⟩:=au;have aM:=C.lt;have h:=hid (je.start (x:=.ok () r) C);obtain⟨s,N⟩:∃s:ByteArray,s=⟨(hdT r).toArray⟩:=⟨_,rfl⟩
 have H:uO r≠0:=by rw[A];decide
 have Q:pP (n+2) d r=pN (n+1) d s r.tail:=by rw[pP,D,E,F,G,if_neg I8,if_neg I8,if_neg I8,if_neg I8,if_neg H,N];unfold want;rw[if_pos A];rfl
 have R:pN (n+1) d s r.tail=(pE n 1 (d+1) r.tail.tail).bind fun e r=>(zN [93] r).bind fun _ r=>.ok (.mk 6 0 0 s [e]) r:=by rw[pN,I,J,if_neg I8,if_pos rfl]
 rw[Q,R]at M ⊢;have P:=hid (show zG ((PR.ok () r.tail.tail).bind fun _ r=>pE n 1 (d+1) r)from zu M);have Z:=hid S;have ae:=hid (show zS (⟨#[40]⟩:ByteArray).data.toList (PR.ok () r)=false from D);have af:=hid (show zS (⟨#[116,114,117,101]⟩:ByteArray).data.toList (PR.ok () r)=false from E);have ag:=hid (show zS (⟨#[102,97,108,115,101]⟩:ByteArray).data.toList (PR.ok () r)=false from F);have ah:=hid (show zS (⟨#[114,101,97,100]⟩:ByteArray).data.toList (PR.ok () r)=false from G);have X:=hid H;have Y:=hid A;have ad:=hid N;have W:=hid (show zS (⟨#[40]⟩:ByteArray).data.toList (PR.ok () r.tail)=false from I);have ai:=hid (show zS (⟨#[91]⟩:ByteArray).data.toList (PR.ok () r.tail)=true from J);clear C D E F G H A I J Q R N M S;go_enter Tryz.func160,Tryz.ntmps160
 go_wp2_with (first
  | (go_at_call 53;(with_reducible refine(zt h.out.st false rfl).mono ?_);rintro e z ⟨rfl,rfl⟩)
  | (go_at_call 56;(with_reducible refine(zD h.out.st _ ae.out).mono ?_);rintro e z ⟨rfl,i⟩
     replace h:=hid (h.out.step i);clear i
     obtain⟨⟨j,l,m,o,p⟩,u⟩:=h.out.own)
  | (go_at_call 56;(with_reducible refine(zD h.out.st _ af.out).mono ?_);rintro e z ⟨rfl,i⟩
     replace h:=hid (h.out.step i);clear i
     obtain⟨⟨j,l,m,o,p⟩,u⟩:=h.out.own)
  | (go_at_call 56;(with_reducible refine(zD h.out.st _ ag.out).mono ?_);rintro e z ⟨rfl,i⟩
     replace h:=hid (h.out.step i);clear i
     obtain⟨⟨j,l,m,o,p⟩,u⟩:=h.out.own)
  | (go_at_call 56;(with_reducible refine(zD h.out.st _ ah.out).mono ?_);rintro e z ⟨rfl,i⟩
     replace h:=hid (h.out.step i);clear i
     obtain⟨⟨j,l,m,o,p⟩,u⟩:=h.out.own))
 obtain⟨g,c,k,t,q,rfl,rfl,B,aJ,aL,aj,ak,al,am,aD,aE,aF⟩:=(show zW b V all r false false z from h.out.st).tok;have aK:(k:Int)<all.length:=I7
 clear B;have aI:(t.kind == 0)=false:=by have:=X.out;simpa[uO]using this
 go_quiet (fail)
 replace h:=hid (h.out.drewN nq);clear aj ak al am aD aE aF
 go_wp2_with (first
  | (go_at_call 55;(with_reducible refine(uo h.out.st 1 I8 Y.out s ad.out).mono ?_);rintro e aQ ⟨rfl,i⟩
     replace h:=hid (h.out.step i)
     clear i)
  | (go_at_call 56;(with_reducible refine(zD h.out.st _ W.out).mono ?_);rintro e aR ⟨rfl,i⟩
     replace h:=hid (h.out.step i);clear i
     obtain⟨⟨j,l,m,o,p⟩,u⟩:=h.out.own)
  | (go_at_call 56;(with_reducible refine(zi h.out.st _ ai.out).mono ?_);rintro e T ⟨rfl,i⟩
     replace h:=hid (show je b _ all w (.ok () (t::q).tail.tail) T from h.out.step i);clear i
     have av:=h.out.size)
  | (go_at_call 126;(with_reducible refine(Z.out.call h.out.st P.out).mono ?_);rintro e U ⟨v,rfl,i,K⟩
     obtain⟨aw,ax,ay,az,aA,aB,aC,rfl⟩:=qX K P.out;have aa:=hid K;have aq:=h.out.st.lt;replace h:=hid (h.out.step i);have ar:U.heap.size≠b:=by have:=h.out.st.lt;omega
     clear i K)
  | (go_at_call 58;(with_reducible refine(zY (h.out.alloc _).st _).mono ?_);rintro e O ⟨rfl,i⟩
     have B:=(zK.of_below (L:=T.heap.size) (Zb.alloc Zr _)).trans (zK.did i aq);have ab:=hid B;obtain⟨aO,aP⟩:=off_own i.off (k:=U.heap.size) Ia ar;replace h:=hid ((h.out.alloc _).step i);have aN:=h.out.size;clear i B
     obtain⟨⟨j,l,m,o,p⟩,u⟩:=h.out.own))
 obtain⟨an,f1,ao,f3,ap⟩:=h.out.reada (.cells #[.int .i64 aw,.int .i64 ax,.int .i64 ay,.string az,.slice aA aB aC] 147) (.int .i64 6) (.int .i64 0) (.int .i64 0) (.string s) (.slice (some ⟨O.heap.size,0,none⟩) 1 1);refine bodyPost_ret (v:=.agg #[.int .i64 6,.int .i64 0,.int .i64 0,.string s,.slice (some ⟨O.heap.size,0,none⟩) 1 1]) (by simp[results,Tryz.results160,go_sem,an,f1,ao,f3,ap]) rfl ?_;refine h.out.fina ?_ ((aa.out.imp fun a y=>(show jx w.heap.size ((writ O w.heap.size _ _ _ _ _).alloc _) (.mk 6 0 0 s [a]) _ from⟨_,rfl,⟨IY,IW⟩,vG ((jx.keep y ab.out Zr).writ av _ _ _ _ _) Zr (by rw[kq];omega) (kq _ _ _ _ _ _ _).symm⟩)).bind (fun a r _ y=>yd y) fun a y=>⟨_,y⟩);rw[jE];simp only[ki];rw[<-bind_un];rfl
def ye(a:Int):Nat->List Int
 | 0=>[]
 | m+1=>a::ye (a+1) m
theorem twos_range:twos=ye 1 19:=I8
theorem ones_range:ones=ye 20 9:=I8
def opIs(lev:Int)(l:List Tok)(op:Int):Bool:=decide (jZ op=lev) && ze (sgT op) l
theorem opFrom_cons(lev:Int)(l:List Tok)(a:Int)(r:List Int):kg lev l (a::r)=if opIs lev l a=true then a else kg lev l r:=by
 rw[kg];unfold opIs;simp only[Bool.and_eq_true,decide_eq_true_eq]
theorem opFrom_hit{lev:Int}{l:List Tok}{k:Int}(b:opIs lev l k=true):∀(m:Nat) (a:Int),a<=k->k<a+m->(∀j,a<=j->j<k->opIs lev l j=false)->kg lev l (ye a m)=k
 | 0,a,h1,h2,_=>I7
 | m+1,a,h1,h2,h=>by
   rw[ye,opFrom_cons];by_cases e:a=k
   .subst e
    rw[if_pos b]
   .rw[h a (Int.le_refl _) I7,if_neg I8]
    exact opFrom_hit b m (a+1) I7 I7 fun j c=>h j I7
theorem opFrom_none{lev:Int}{l:List Tok}:∀(m:Nat) (a:Int),(∀j,a<=j->j<a+m->opIs lev l j=false)->kg lev l (ye a m)=0
 | 0,a,_=>rfl
 | m+1,a,h=>by
   rw[ye,opFrom_cons,h a (Int.le_refl _) I7,if_neg I8];exact opFrom_none m (a+1) fun j b c=>h j I7 I7
theorem unFrom_hit{l:List Tok}{k:Int}(b:ze (sgT k) l=true):∀(m:Nat) (a:Int),a<=k->k<a+m->(∀j,a<=j->j<k->ze (sgT j) l=false)->xD l (ye a m)=k
 | 0,a,h1,h2,_=>I7
 | m+1,a,h1,h2,h=>by
   rw[ye,xD];by_cases e:a=k
   .subst e
    rw[if_pos b]
   .rw[h a (Int.le_refl _) I7,if_neg I8]
    exact unFrom_hit b m (a+1) I7 I7 fun j c=>h j I7
theorem unFrom_none{l:List Tok}:∀(m:Nat) (a:Int),(∀j,a<=j->j<a+m->ze (sgT j) l=false)->xD l (ye a m)=0
 | 0,a,_=>rfl
 | m+1,a,h=>by
   rw[ye,xD,h a (Int.le_refl _) I7,if_neg I8];exact unFrom_none m (a+1) fun j b c=>h j I7 I7
def opX(lev:Int)(x:PR Unit):Int:=match x with | .ok _ r=>opAt lev r|_=>0
def opIsX(lev:Int)(x:PR Unit)(op:Int):Bool:=decide (jZ op=lev) && zS (sgT op) x
theorem opX_hit{lev k:Int}{x:PR Unit}(d:1<=k)(e:k<=19)(b:opIsX lev x k=true)(c:∀j,1<=j->j<k->opIsX lev x j=false):opX lev x=k:=by
 cases x with
 | ok a r=>
   show kg lev r twos=k;rw[twos_range];exact opFrom_hit b 19 1 d I7 c
 | _=>simp[opIsX,zS]at b
theorem opX_none{lev:Int}{x:PR Unit}(b:∀j,1<=j->j<20->opIsX lev x j=false):opX lev x=0:=by
 cases x with
 | ok a r=>
   show kg lev r twos=0;rw[twos_range];exact opFrom_none 19 1 b
 | _=>rfl
theorem rlevel_is(op l:Int)(a:jZ op=l)(w:World):Calls Tryz.prog 105 #[.int .i64 op] w fun e w'=>e=.returned (.int .i64 l)/\w=w':=a ▸ rlevel_any op w
theorem ks{b:Nat}{V:Value}{all:List Tok}{x:PR Unit}{w:World}(op:Int)(s:ByteArray)(d:jh op=s)(c:jI b V all x w):Calls Tryz.prog 21 #[.int .i64 op] w fun e w'=>e=.returned (.string s)/\qd b V all w x w':=by
 subst d;exact(rsign_any op w).mono fun _ _ ⟨g,a⟩=>⟨g,c.below a,OffB.of_below a c.lt⟩
theorem jB{b:Nat}{V:Value}{all:List Tok}{x:PR Unit}{w:World}(a:jI b V all x w)(s:ByteArray)(v:Bool)(g:zS s.data.toList x=v):
 Calls Tryz.prog 81 #[.pointer (some ⟨b,0,none⟩),.string s] w fun e w'=>e=.returned (.bool v)/\qd b V all w x w':=
 (is_is a s v g).mono fun _ _ ⟨c,m,d⟩=>⟨c,d ▸ ⟨a.drewN m,(OffB.refl b _ w).drewN m⟩⟩
theorem op_any{b:Nat}{V:Value}{all:List Tok}{x:PR Unit}{w:World}(y:jI b V all x w)(lev:Int)(o:Int)(B:opX lev x=o):
 Calls Tryz.prog 149 #[.pointer (some ⟨b,0,none⟩),.int .i64 lev] w fun e w'=>e=.returned (.int .i64 o)/\qd b V all w x w':=by
 have a:=hid (show qd b V all w x w from⟨y,OffB.refl _ _ _⟩);have u:=hid B;clear y B;go_enter Tryz.func149,Tryz.ntmps149;go_wp2
 go_loopw [5] (fun i wr=>∃k:Int,i=.int .i64 k/\1<=k/\k<=20/\(∀j,1<=j->j<k->opIsX lev x j=false)/\qd b V all w x wr) (fun i _=>(20-intOf i).toNat)
 case atStart=>exact⟨1,rfl,I7,I7,fun j p z=>I7,a.out⟩
 case round=>
  obtain⟨k,rfl,F,J,A,c⟩:=hrel;have d:=hid A;replace a:=hid c;clear A c;by_cases G:k<=19
  .obtain⟨l,g⟩:∃l,jZ k=l:=⟨_,rfl⟩
   obtain⟨s,h⟩:∃s,jh k=s:=⟨_,rfl⟩
   have r:=hid g;have v:=hid h;by_cases q:l=lev
   .subst q
    cases hv:zS s.data.toList x with
    | true=>
      have C:opX l x=k:=opX_hit F G (by unfold opIsX sgT;rw[h,hv,decide_eq_true g];rfl) d.out;have t:=hid hv;have E:=hid (C.symm.trans u.out);clear g h hv C
      go_wp2_with (first
       | (go_at_call 105;(with_reducible refine(rlevel_is k l r.out _).mono ?_);rintro e D ⟨rfl,rfl⟩)
       | (go_at_call 21;(with_reducible refine(ks k s v.out a.out.st).mono ?_);rintro e H ⟨rfl,c⟩;replace a:=hid (a.out.after c);clear c)
       | (go_at_call 81;(with_reducible refine(jB a.out.st s true t.out).mono ?_);rintro e I ⟨rfl,c⟩;replace a:=hid (a.out.after c);clear c))
      go_ret;exact⟨jY E.out,a.out⟩
    | false=>
      have m:∀j,1<=j->j<k+1->opIsX l x j=false:=fun j p z=>by
       by_cases e:j=k
       .subst e
        unfold opIsX sgT;rw[h,hv,Bool.and_false]
       .exact d.out j p I7
      replace d:=hid m;have t:=hid hv;clear g h hv m
      go_wp2_with (first
       | (go_at_call 105;(with_reducible refine(rlevel_is k l r.out _).mono ?_);rintro e D ⟨rfl,rfl⟩)
       | (go_at_call 21;(with_reducible refine(ks k s v.out a.out.st).mono ?_);rintro e H ⟨rfl,c⟩;replace a:=hid (a.out.after c);clear c)
       | (go_at_call 81;(with_reducible refine(jB a.out.st s false t.out).mono ?_);rintro e I ⟨rfl,c⟩;replace a:=hid (a.out.after c);clear c))
      exact Oo
   .have K:(l == lev)=false:=by simpa using q
    have m:∀j,1<=j->j<k+1->opIsX lev x j=false:=fun j p z=>by
     by_cases e:j=k
     .subst e
      unfold opIsX;rw[g,decide_eq_false q,Bool.false_and]
     .exact d.out j p I7
    replace d:=hid m;clear g h m q
    go_wp2_with (first
     | (go_at_call 105;(with_reducible refine(rlevel_is k l r.out _).mono ?_);rintro e D ⟨rfl,rfl⟩))
    exact Oo
  .obtain rfl:k=20:=by omega
   go_wp2;go_ret;exact⟨jY (by rw[<-u.out,opX_none d.out]),a.out⟩
def CP(b:Nat)(V:Value)(all:List Tok)(n:Nat)(d:Int):Prop:=∀(w:World) (x:PR Unit),jI b V all x w->zG (x.bind fun _ r=>pP n d r)->
 Calls Tryz.prog 160 #[.pointer (some ⟨b,0,none⟩),.int .i64 d] w (qM b V all w (x.bind fun _ r=>pP n d r) (jx w.heap.size))
theorem CP.call{b:Nat}{V:Value}{all:List Tok}{n:Nat}{d:Int}(a:CP b V all n d){w:World}{x:PR Unit}(e:jI b V all x w)(c:zG (x.bind fun _ r=>pP n d r)):
 Calls Tryz.prog 160 #[.pointer (some ⟨b,0,none⟩),.int .i64 d] w (qM b V all w (x.bind fun _ r=>pP n d r) (jx w.heap.size)):=a w x e c
def CU(b:Nat)(V:Value)(all:List Tok)(n:Nat)(d:Int):Prop:=∀(w:World) (x:PR Unit),jI b V all x w->zG (x.bind fun _ r=>pU n d r)->
 Calls Tryz.prog 148 #[.pointer (some ⟨b,0,none⟩),.int .i64 d] w (qM b V all w (x.bind fun _ r=>pU n d r) (jx w.heap.size))
theorem CU.call{b:Nat}{V:Value}{all:List Tok}{n:Nat}{d:Int}(a:CU b V all n d){w:World}{x:PR Unit}(e:jI b V all x w)(c:zG (x.bind fun _ r=>pU n d r)):
 Calls Tryz.prog 148 #[.pointer (some ⟨b,0,none⟩),.int .i64 d] w (qM b V all w (x.bind fun _ r=>pU n d r) (jx w.heap.size)):=a w x e c
theorem isAt_over{x:PR Unit}(a:zl x=true)(s:List UInt8):zS s x=false:=by
 cases x with
 | ok u r=>cases a
 | _=>rfl
theorem un_over{α:Type}{b:Nat}{V:Value}{all:List Tok}{w W:World}{x:PR Unit}(e:zl x=true){f:List Tok->PR α}{F:World->α->Value->Prop}{v:Value}(c:qd b V all w x W)(a:α)(d:F W a v):qM b V all w (x.bind fun _ r=>f r) F (.returned v) W:=by
 cases x with
 | ok u r=>cases e
 | bad r=>exact⟨v,rfl,c,a,d⟩
 | deep r=>exact⟨v,rfl,c,a,d⟩
 | out=>exact absurd c.st id
theorem prim_any{b:Nat}{V:Value}{all:List Tok}{n:Nat}{d:Int}(k:∀m,m<=n->CE b V all m 1 (d+1))(l:∀m,m<=n->CA b V all m (d+1))(c:0<=d/\d<=1000):CP b V all (n+1) d:=by
 intro w x j q;cases ho:zl x with
 | true=>exact(vS j ho d).mono fun e w' ⟨p,o⟩=>p ▸ un_over ho o ex0 (ex0_fr _ _)
 | false=>
   cases x with
   | ok u r=>
     have g:zW b V all r false false w:=j;have a:zG (pP (n+1) d r):=q;show Calls _ _ _ _ (qM b V all w (pP (n+1) d r) _);cases h1:ze [40] r with
     | true=>exact prim_paren (k n Zr) g c h1 a
     | false=>
       cases h2:ze uh r with
       | true=>exact prim_true g c h1 h2
       | false=>
         cases h3:ze vE r with
         | true=>exact prim_false g c h1 h2 h3
         | false=>
           cases h4:ze sRead r with
           | true=>exact prim_read g c h1 h2 h3 h4
           | false=>
             by_cases i:uO r=0
             .exact prim_num g c h1 h2 h3 h4 i
             .by_cases h:uO r=1
              .cases h7:ze [40] r.tail with
               | true=>
                 cases n with
                 | zero=>
                   exact Om
                 | succ n=>exact prim_call (l n I7) g c h1 h2 h3 h4 h h7 a
               | false=>
                 cases h8:ze [91] r.tail with
                 | true=>
                   cases n with
                   | zero=>
                     exact Om
                   | succ n=>exact prim_index (k n I7) g c h1 h2 h3 h4 h h7 h8 a
                 | false=>exact prim_name g c h1 h2 h3 h4 h h7 h8 a
              .exact prim_bad g c h1 h2 h3 h4 i h
   | bad r=>cases ho
   | deep r=>cases ho
   | out=>exact absurd j id
theorem zW.deepen{b:Nat}{V:Value}{all r:List Tok}{dp:Bool}{w:World}(a:zW b V all r false dp w):zW b V all r false true (w.setCell ⟨b,3,none⟩ (.bool true)):=
 ⟨a.1.set 3 (.bool true),a.2.1.off ((OffB.refl b _ w).setb a.lt 3 _),a.2.2⟩
theorem unary_none{b:Nat}{V:Value}{all:List Tok}{x:PR Unit}{w:World}{d:Int}(h:jI b V all x w)(E:0<=d/\d<=1000)(l:zl x=true)(F:d<=100):
 Calls Tryz.prog 148 #[.pointer (some ⟨b,0,none⟩),.int .i64 d] w fun e w'=>e=.returned ex0V/\qd b V all w x w':=by
 have a:=hid (je.start h);have g:=hid l;have G:¬100<d:=I7
 clear h l;go_enter Tryz.func148,Tryz.ntmps148;go_wp2
 go_loopw [5] (fun i wr=>∃k:Int,i=.int .i64 k/\20<=k/\k<=29/\je b V all w x wr) (fun i _=>(29-intOf i).toNat)
 case atStart=>exact⟨20,rfl,I7,I7,a.out⟩
 case round=>
  obtain⟨k,rfl,H,I,j⟩:=hrel;replace a:=hid j;clear j;by_cases J:k<=28
  .obtain⟨s,m⟩:∃s,jh k=s:=⟨_,rfl⟩
   have o:=hid m;have p:=hid (isAt_over g.out s.data.toList);clear m
   go_wp2_with (first
    | (go_at_call 21;(with_reducible refine(ks k s o.out a.out.st).mono ?_);rintro e u ⟨rfl,c⟩;replace a:=hid (a.out.step c);clear c)
    | (go_at_call 56;(with_reducible refine(zD a.out.st s p.out).mono ?_);rintro e K ⟨rfl,c⟩;replace a:=hid (a.out.step c);clear c))
   exact On
  .obtain rfl:k=29:=by omega
   go_wp2_with (go_at_call 160;(with_reducible refine(vS a.out.st g.out d).mono ?_);rintro e u ⟨rfl,c⟩;replace a:=hid (a.out.step c);clear c;obtain⟨⟨y,z,A,B,C⟩,D⟩:=a.out.own);obtain⟨q,f1,r,f3,t⟩:=a.out.read (.int .i64 0) (.int .i64 0) (.int .i64 0) (.string ⟨#[]⟩) (.slice none 0 0);refine bodyPost_ret (v:=ex0V) (by simp[results,Tryz.results148,go_sem,q,f1,r,f3,t]) rfl ?_;exact⟨rfl,a.out.did.writ a.out.2.2.1 Zr a.out.ne _ _ _ _ _⟩
theorem unary_bad{b:Nat}{V:Value}{all r:List Tok}{x:PR Unit}{w:World}{d:Int}(o:x=.bad r)(g:jI b V all x w)(I:0<=d/\d<=1000)(l:zl x=true)(J:100<d):
 Calls Tryz.prog 148 #[.pointer (some ⟨b,0,none⟩),.int .i64 d] w fun e w'=>e=.returned ex0V/\qd b V all w x w':=by
 have a:=hid (je.start g);have h:=hid l
 have B:w.cell? ⟨b,2,none⟩=some (.bool true):=by
  rw[o]at g;exact(zW.cells (show zW b V all r true false w from g)).2.2.1
 have z:=g.lt;clear g l o;go_enter Tryz.func148,Tryz.ntmps148;go_wp2
 go_loopw [5] (fun i wr=>∃k:Int,i=.int .i64 k/\20<=k/\k<=29/\je b V all w x wr) (fun i _=>(29-intOf i).toNat)
 case atStart=>exact⟨20,rfl,I7,I7,a.out⟩
 case round=>
  obtain⟨k,rfl,K,L,j⟩:=hrel;replace a:=hid j;clear j;by_cases z:k<=28
  .obtain⟨s,m⟩:∃s,jh k=s:=⟨_,rfl⟩
   have p:=hid m;have q:=hid (isAt_over h.out s.data.toList);clear m
   go_wp2_with (first
    | (go_at_call 21;(with_reducible refine(ks k s p.out a.out.st).mono ?_);rintro e A ⟨rfl,c⟩;replace a:=hid (a.out.step c);clear c)
    | (go_at_call 56;(with_reducible refine(zD a.out.st s q.out).mono ?_);rintro e M ⟨rfl,c⟩;replace a:=hid (a.out.step c);clear c))
   exact On
  .obtain rfl:k=29:=by omega
   go_wp2_with (go_at_call 160;(with_reducible refine(vS a.out.st h.out d).mono ?_);rintro e A ⟨rfl,c⟩;replace a:=hid (a.out.step c);clear c;obtain⟨⟨C,D,E,F,G⟩,H⟩:=a.out.own);obtain⟨t,f1,u,f3,y⟩:=a.out.read (.int .i64 0) (.int .i64 0) (.int .i64 0) (.string ⟨#[]⟩) (.slice none 0 0);refine bodyPost_ret (v:=ex0V) (by simp[results,Tryz.results148,go_sem,t,f1,u,f3,y]) rfl ?_;exact⟨rfl,a.out.did.writ a.out.2.2.1 Zr a.out.ne _ _ _ _ _⟩
theorem je.deepen{b:Nat}{V:Value}{all r:List Tok}{dp:Bool}{w:World}(a:zW b V all r false dp w):je b V all w (.deep r) ((w.alloc yB).setCell ⟨b,3,none⟩ (.bool true))/\je b V all w (.deep r) ((w.setCell ⟨b,3,none⟩ (.bool true)).alloc yB):=by
 have g:∃x,jI b V all x w/\zW b V all r false dp w:=by
  cases dp with
  | false=>exact⟨.ok () r,a,a⟩
  | true=>exact⟨.deep r,a,a⟩
 obtain⟨x,h,_⟩:=g;have d:=je.start h;have c:zW b V all r false dp (w.alloc yB):=a.off (Zb.alloc Zr _);refine⟨d.step ⟨c.deepen,(OffB.refl b _ _).setb c.lt 3 _⟩,?_⟩;have e:qd b V all w (.deep r) (w.setCell ⟨b,3,none⟩ (.bool true)):=⟨a.deepen,(OffB.refl b _ _).setb a.lt 3 _⟩
 refine⟨e.alloc _,?_,a.2.1,a.lt⟩;have:=heap_alloc_new (w.setCell ⟨b,3,none⟩ (.bool true)) yB;rw[kL]at this;exact this
theorem unary_deep{b:Nat}{V:Value}{all r:List Tok}{dp:Bool}{w:World}{d:Int}(g:zW b V all r false dp w)(K:0<=d/\d<=1000)(L:100<d):
 Calls Tryz.prog 148 #[.pointer (some ⟨b,0,none⟩),.int .i64 d] w fun e w'=>e=.returned ex0V/\qd b V all w (.deep r) w':=by
 have j:=hid (je.deepen g);obtain⟨_,_,t,u⟩:=g.cells;have f3:=g.1.frozen 3;have B:=g.lt;obtain⟨x,h⟩:∃x:PR Unit,x=.deep r:=⟨_,rfl⟩
 have D:=hid h;have l:=hid (show zl x=true by rw[h];rfl);rw[<-h];rw[<-h]at j;clear g h;go_enter Tryz.func148,Tryz.ntmps148;go_wp2;clear t u f3
 go_loopw [5] (fun i wr=>∃k:Int,i=.int .i64 k/\20<=k/\k<=29/\je b V all w x wr) (fun i _=>(29-intOf i).toNat)
 case atStart=>exact⟨20,rfl,I7,I7,by first|exact j.out.1|exact j.out.2⟩
 case round=>
  obtain⟨k,rfl,M,N,m⟩:=hrel;have a:=hid m;clear m;by_cases B:k<=28
  .obtain⟨s,o⟩:∃s,jh k=s:=⟨_,rfl⟩
   have p:=hid o;have q:=hid (isAt_over l.out s.data.toList);clear o
   go_wp2_with (first
    | (go_at_call 21;(with_reducible refine(ks k s p.out a.out.st).mono ?_);rintro e C ⟨rfl,c⟩;replace a:=hid (a.out.step c);clear c)
    | (go_at_call 56;(with_reducible refine(zD a.out.st s q.out).mono ?_);rintro e O ⟨rfl,c⟩;replace a:=hid (a.out.step c);clear c))
   exact On
  .obtain rfl:k=29:=by omega
   go_wp2_with (go_at_call 160;(with_reducible refine(vS a.out.st l.out d).mono ?_);rintro e C ⟨rfl,c⟩;replace a:=hid (a.out.step c);clear c;obtain⟨⟨E,F,G,H,I⟩,J⟩:=a.out.own);obtain⟨y,f1,z,f3,A⟩:=a.out.read (.int .i64 0) (.int .i64 0) (.int .i64 0) (.string ⟨#[]⟩) (.slice none 0 0);refine bodyPost_ret (v:=ex0V) (by simp[results,Tryz.results148,go_sem,y,f1,z,f3,A]) rfl ?_;exact⟨rfl,a.out.did.writ a.out.2.2.1 Zr a.out.ne _ _ _ _ _⟩
theorem unAt_hit{k:Int}{r:List Tok}(b:20<=k)(d:k<=28)(c:ze (sgT k) r=true)(a:∀j,20<=j->j<k->ze (sgT j) r=false):unAt r=k:=by
 show xD r ones=k;rw[ones_range];exact unFrom_hit c 9 20 b I7 a
theorem unAt_none{r:List Tok}(a:∀j,20<=j->j<29->ze (sgT j) r=false):unAt r=0:=by
 show xD r ones=0;rw[ones_range];exact unFrom_none 9 20 a
theorem zP{W:World}{g:Nat}{b c d e h:Value}{T:TypeId}(a:W.heap[g]? =some (.cells #[b,c,d,e,h] T (0,0))):
 (W.cell? ⟨g,0,none⟩=some b/\W.cell? ⟨g,1,none⟩=some c/\W.cell? ⟨g,2,none⟩=some d/\W.cell? ⟨g,3,none⟩=some e/\W.cell? ⟨g,4,none⟩=some h)/\∀o,W.frozen? ⟨g,o,none⟩=false:=by
 refine⟨⟨(Lib.cell_of_heap a 0).trans rfl,(Lib.cell_of_heap a 1).trans rfl,(Lib.cell_of_heap a 2).trans rfl,(Lib.cell_of_heap a 3).trans rfl,(Lib.cell_of_heap a 4).trans rfl⟩,fun o=>?_⟩;simp[World.frozen?,a]
theorem writ_other{w:World}{g k:Nat}(a:k≠g)(b c d e h:Value):(writ w g b c d e h).heap[k]? =w.heap[k]?:=by
 unfold writ;rw[Below.heap_setCell _ _ _ _ Ik,Below.heap_setCell _ _ _ _ Ik,Below.heap_setCell _ _ _ _ Ik,Below.heap_setCell _ _ _ _ Ik,Below.heap_setCell _ _ _ _ Ik]
theorem je.writ2{b g:Nat}{V:Value}{all:List Tok}{w W:World}{x:PR Unit}(a:je b V all w x W)(j:w.heap.size<g)(c d e h i:Value):je b V all w x (writ W g c d e h i):=
 ⟨a.1.writ a.2.2.1 I7 Ql _ _ _ _ _,(writ_other I7 _ _ _ _ _).trans a.2.1,a.2.2⟩
abbrev nest(W:World)(g:Nat)(a b c d e:Value):World:=((((W.setCell ⟨g,0,none⟩ a).setCell ⟨g,1,none⟩ b).setCell ⟨g,2,none⟩ c).setCell ⟨g,3,none⟩ d).setCell ⟨g,4,none⟩ e
theorem je.nest{b g:Nat}{V:Value}{all:List Tok}{w W:World}{x:PR Unit}(i:je b V all w x W)(j:w.heap.size<g)(a c d e h:Value):je b V all w x (nest W g a c d e h):=i.writ2 j a c d e h
theorem unary_live{b:Nat}{V:Value}{all r:List Tok}{w:World}{n:Nat}{d:Int}(hE:CE b V all n 1 (d+1))(hU:CU b V all n (d+1))(hP:CP b V all n d)(h:zW b V all r false false w)(hd:0<=d/\d<=100)(hn:zG (pU (n+1) d r)):
 Calls Tryz.prog 148 #[.pointer (some ⟨b,0,none⟩),.int .i64 d] w (qM b V all w (pU (n+1) d r) (jx w.heap.size)):=by
 obtain⟨aG,aH⟩:=hd;have c:=hid (je.start (x:=.ok () r) h);have aI:¬100<d:=I7
 have HE:=hid hE;have HU:=hid hU;have HP:=hid hP;have y:=hid hn;clear h hE hU hP hn;go_enter Tryz.func148,Tryz.ntmps148;go_wp2
 go_loopw [5] (fun i wr=>∃k:Int,i=.int .i64 k/\20<=k/\k<=29/\(∀j,20<=j->j<k->ze (sgT j) r=false)/\je b V all w (.ok () r) wr) (fun i _=>(29-intOf i).toNat)
 case atStart=>exact⟨20,rfl,I7,I7,fun j h1 h2=>I7,c.out⟩
 case round=>
  obtain⟨k,rfl,af,aJ,W,hC⟩:=hrel;replace c:=hid hC;have o:=hid W;clear hC W;by_cases ag:k<=28
  .obtain⟨s,Q⟩:∃s,jh k=s:=⟨_,rfl⟩
   have HS:=hid Q;cases hv:zS s.data.toList (PR.ok () r)with
   | false=>
     have K:∀j,20<=j->j<k+1->ze (sgT j) r=false:=fun j h1 h2=>by
      by_cases e:j=k
      .subst e
       unfold sgT;rw[Q];exact hv
      .exact o.out j h1 I7
     replace o:=hid K;have HV:=hid hv;clear Q hv K
     go_wp2_with (first
      | (go_at_call 21;(with_reducible refine(ks k s HS.out c.out.st).mono ?_);rintro e w2 ⟨rfl,l⟩;replace c:=hid (c.out.step l);clear l)
      | (go_at_call 56;(with_reducible refine(zD c.out.st s HV.out).mono ?_);rintro e w3 ⟨rfl,l⟩;replace c:=hid (c.out.step l);clear l))
     go_roundw
     case rel=>exact⟨k+1,rfl,I7,I7,o.out,c.out⟩
     case measure=>simp[intOf];omega
   | true=>
     have q:unAt r=k:=unAt_hit af ag (by unfold sgT;rw[Q];exact hv) o.out;have U:¬k=0:=I7
     have HV:=hid hv;by_cases T:23<=k
     .have z:pU (n+1) d r=(zN [40] r.tail).bind fun _ r=>(pE n 1 (d+1) r).bind fun e r=>(zN [41] r).bind fun _ r=>.ok (.mk 4 k 0 bE [e]) r:=by rw[pU,if_neg I7,q,if_neg U,if_pos T]
      have m:=y.out;rw[<-zV]at z;rw[z]at m;have EX:=hid z;replace y:=hid (show zG ((zN [40] r.tail).bind fun _ r=>pE n 1 (d+1) r)from zu m);clear Q hv q z m o
      go_wp2_with (first
       | (go_at_call 21;(with_reducible refine(ks k s HS.out c.out.st).mono ?_);rintro e w2 ⟨rfl,l⟩;replace c:=hid (c.out.step l);clear l)
       | (go_at_call 56;(with_reducible refine(zi c.out.st s HV.out).mono ?_);rintro e w3 ⟨rfl,l⟩
          replace c:=hid (show je b V all w (.ok () r.tail) w3 from c.out.step l)
          clear l)
       | (go_at_call 58;(with_reducible refine(zY c.out.st ⟨#[40]⟩).mono ?_);rintro e u ⟨rfl,l⟩
          replace c:=hid (show je b V all w (zN [40] r.tail) u from c.out.step l);have J:=c.out.size;have ae:=c.out.st.lt;have t:u.heap.size≠b:=I7
          clear l)
       | (go_at_call 126;(with_reducible refine(HE.out.call (c.out.alloc yB).st y.out).mono ?_);rintro e M ⟨v,rfl,l,A⟩
          obtain⟨B,C,D,E,F,G,H,rfl⟩:=qX A y.out;have S:=hid A;have p:=q9 l.off (k:=u.heap.size) Ia t (heap_alloc_new u yB);have HR:=hid p;obtain⟨⟨p0,p1,p2,p3,p4⟩,pz⟩:=zP p;replace c:=hid ((c.out.alloc yB).step l)
          clear l A p)
       | (go_at_call 58;(with_reducible refine(zY (c.out.nest J (.int .i64 B) (.int .i64 C) (.int .i64 D) (.string E) (.slice F G H)).st ⟨#[41]⟩).mono ?_);rintro e w6 ⟨rfl,l⟩
          have Z:u.heap.size<M.heap.size:=(Array.getElem?_eq_some_iff.1 HR.out).1;have Y:=q9 l.off (k:=u.heap.size) (by simp;exact Z) t (writ_row HR.out _ _ _ _ _);have HK:=hid ((zK.writ (L:=(u.alloc yB).heap.size) (w:=M) (g:=u.heap.size) Ia (.int .i64 B) (.int .i64 C) (.int .i64 D) (.string E) (.slice F G H)).trans (zK.did l I9));obtain⟨⟨s0,s1,s2,s3,s4⟩,sz⟩:=zP Y;replace c:=hid ((c.out.writ2 J (.int .i64 B) (.int .i64 C) (.int .i64 D) (.string E) (.slice F G H)).step l);obtain⟨⟨c0,c1,c2,c3,c4⟩,fz⟩:=c.out.own;have aK:=c.out.size
          clear l Y))
      obtain⟨N,f1,O,f3,P⟩:=c.out.reada (.cells #[.int .i64 B,.int .i64 C,.int .i64 D,.string E,.slice F G H] 147) (.int .i64 4) (.int .i64 k) (.int .i64 0) (.string ⟨#[]⟩) (.slice (some ⟨w6.heap.size,0,none⟩) 1 1);refine bodyPost_ret (v:=.agg #[.int .i64 4,.int .i64 k,.int .i64 0,.string ⟨#[]⟩,.slice (some ⟨w6.heap.size,0,none⟩) 1 1]) (by simp[results,Tryz.results148,go_sem,N,f1,O,f3,P]) rfl ?_;rw[EX.out];refine c.out.fina ?_ ((S.out.imp fun a I=>(show jx w.heap.size ((writ w6 w.heap.size _ _ _ _ _).alloc _) (.mk 4 k 0 bE [a]) _ from⟨_,rfl,⟨IY,IW⟩,vG ((jx.keep I HK.out Zr).writ I9 _ _ _ _ _) Zr (by rw[kq];omega) (kq _ _ _ _ _ _ _).symm⟩)).bind (fun a r _ I=>yd I) fun a I=>⟨_,I⟩);rw[jE];simp only[ki];rw[<-bind_un]
     .have z:pU (n+1) d r=(pU n (d+1) r.tail).bind fun e r=>.ok (.mk 4 k 0 bE [e]) r:=by rw[pU,if_neg I7,q,if_neg U,if_neg T]
      have m:=y.out;rw[z]at m;have EX:=hid z;replace y:=hid (show zG ((PR.ok () r.tail).bind fun _ r=>pU n (d+1) r)from zu m);clear Q hv q z m o
      go_wp2_with (first
       | (go_at_call 21;(with_reducible refine(ks k s HS.out c.out.st).mono ?_);rintro e w2 ⟨rfl,l⟩;replace c:=hid (c.out.step l);clear l)
       | (go_at_call 56;(with_reducible refine(zi c.out.st s HV.out).mono ?_);rintro e u ⟨rfl,l⟩
          replace c:=hid (show je b V all w (.ok () r.tail) u from c.out.step l);have J:=c.out.size;have ae:=c.out.st.lt;have t:u.heap.size≠b:=I7
          clear l)
       | (go_at_call 148;(with_reducible refine(HU.out.call (c.out.alloc yB).st y.out).mono ?_);rintro e M ⟨v,rfl,l,A⟩
          obtain⟨B,C,D,E,F,G,H,rfl⟩:=qX A y.out;have S:=hid A;have p:=q9 l.off (k:=u.heap.size) Ia t (heap_alloc_new u yB);have HR:=hid p;obtain⟨⟨p0,p1,p2,p3,p4⟩,pz⟩:=zP p;replace c:=hid ((c.out.alloc yB).step l);obtain⟨⟨c0,c1,c2,c3,c4⟩,fz⟩:=c.out.own;have Z:=c.out.size
          clear l A p))
      have R:=hid (c.out.writ2 J (.int .i64 B) (.int .i64 C) (.int .i64 D) (.string E) (.slice F G H));obtain⟨N,f1,O,f3,P⟩:=R.out.reada (.cells #[.int .i64 B,.int .i64 C,.int .i64 D,.string E,.slice F G H] 147) (.int .i64 4) (.int .i64 k) (.int .i64 0) (.string ⟨#[]⟩) (.slice (some ⟨M.heap.size,0,none⟩) 1 1);unfold writ at N f1 O f3 P;refine bodyPost_ret (v:=.agg #[.int .i64 4,.int .i64 k,.int .i64 0,.string ⟨#[]⟩,.slice (some ⟨M.heap.size,0,none⟩) 1 1]) (by simp[results,Tryz.results148,go_sem,N,f1,O,f3,P]) rfl ?_;rw[EX.out];have hz:(writ (writ M u.heap.size (.int .i64 B) (.int .i64 C) (.int .i64 D) (.string E) (.slice F G H)) w.heap.size (.int .i64 4) (.int .i64 k) (.int .i64 0) (.string ⟨#[]⟩) (.slice (some ⟨M.heap.size,0,none⟩) 1 1)).heap.size=M.heap.size:=by rw[kq,kq]
      refine R.out.fina Qo (qy.bind S.out (fun a r _ I=>?_) fun a I=>⟨.mk 4 k 0 bE [a],?_⟩)
      all_goals exact⟨_,rfl,⟨IY,IW⟩,vG ((jx.keep I (zK.writ Ia _ _ _ _ _) Zr).writ I9 _ _ _ _ _) Zr (by rw[hz];omega) hz.symm⟩
  .obtain rfl:k=29:=by omega
   have q:unAt r=0:=unAt_none o.out;have z:pU (n+1) d r=pP n d r:=by rw[pU,if_neg I7,q,if_pos rfl]
   have EX:=hid z;have m:=y.out;rw[z]at m;replace y:=hid (show zG ((PR.ok () r).bind fun _ r=>pP n d r)from m);clear q z m o
   go_wp2_with (first
    | (go_at_call 160;(with_reducible refine(HP.out.call c.out.st y.out).mono ?_);rintro e w2 ⟨v,rfl,l,A⟩
       obtain⟨B,C,D,E,F,G,H,rfl⟩:=qX A y.out;have ah:=c.out.size;have S:=hid A;replace c:=hid (c.out.step l);clear l A
       obtain⟨⟨c0,c1,c2,c3,c4⟩,fz⟩:=c.out.own))
   obtain⟨N,f1,O,f3,P⟩:=c.out.read (.int .i64 B) (.int .i64 C) (.int .i64 D) (.string E) (.slice F G H);refine bodyPost_ret (v:=.agg #[.int .i64 B,.int .i64 C,.int .i64 D,.string E,.slice F G H]) (by simp[results,Tryz.results148,go_sem,N,f1,O,f3,P]) rfl ?_;rw[EX.out];exact c.out.fin (X:=pP n d r) rfl (S.out.imp fun a I=>jx.writ I ah _ _ _ _ _)
theorem unary_any{b:Nat}{V:Value}{all:List Tok}{n:Nat}{d:Int}(l:d<=100->CE b V all n 1 (d+1))(o:d<=100->CU b V all n (d+1))(m:d<=100->CP b V all n d)(h:0<=d/\d<=1000):CU b V all (n+1) d:=by
 intro w x a p;by_cases i:d<=100
 .cases ho:zl x with
  | true=>exact(unary_none a h ho i).mono fun e w' ⟨g,c⟩=>g ▸ un_over ho c ex0 (ex0_fr _ _)
  | false=>
    cases x with
    | ok u r=>exact unary_live (l i) (o i) (m i) a ⟨h.1,i⟩ p
    | bad r=>cases ho
    | deep r=>cases ho
    | out=>exact absurd a id
 .have j:100<d:=by omega
  cases x with
  | ok u r=>
    have k:pU (n+1) d r=.deep r:=by rw[pU,if_pos j]
    show Calls _ _ _ _ (qM b V all w (pU (n+1) d r) _);rw[k];exact(unary_deep (dp:=false) a h j).mono fun e w' ⟨g,c⟩=>⟨_,g,c,ex0,ex0_fr _ _⟩
  | bad r=>exact(unary_bad (r:=r) rfl a h rfl j).mono fun e w' ⟨g,c⟩=>⟨_,g,c,ex0,ex0_fr _ _⟩
  | deep r=>exact(unary_deep (dp:=true) a h j).mono fun e w' ⟨g,c⟩=>⟨_,g,c,ex0,ex0_fr _ _⟩
  | out=>exact absurd a id
end Go.Proofs.YthcmenajdcbnnaaGreatDoor
