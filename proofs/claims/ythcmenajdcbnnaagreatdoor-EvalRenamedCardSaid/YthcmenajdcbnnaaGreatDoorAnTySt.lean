import Derived.Test.YthcmenajdcbnnaaGreatDoorAnTyPl
set_option linter.unusedSimpArgs false
set_option linter.unusedVariables false
set_option maxRecDepth 100000
set_option maxHeartbeats 99000000
namespace Go.Proofs.YthcmenajdcbnnaaGreatDoor
open Go.RowKit Tryz
theorem Oy{p:Prop}(h:p:=by
 have s:=U a;have i:=U (hE.below a);have z:=U (hE.below a.drew);have g:=U ((a.block b c).trans hb);have x:=U ((a.drew.block b c).trans hb);have j:=U (hl.below (a.mono hE.hB) Zr);have A:=U (hl.below (a.drew.mono hE.hB) Zr);have k:=U hok;have l:=U hp;have y:=U hE;obtain⟨⟨_,_,_,_⟩,_⟩:=zM hb;clear hE hb hl hok hp d a;go_enter func109,ntmps109;go_wp2_with (go_at_call 134;(with_reducible refine(yZ B C b p tf tc _ _ _ _ _ _ gv n _ i.o g.o j.o k.o l.o m.o).mono ?_);rintro e _ ⟨rfl,u⟩);go_ret
 exact⟨rfl,s.o.trans (u.mono Ut)⟩):p:=h
variable{w w':C3}{b B C c:Nat}{p:Pr}{k ty ft:Int}{ic:Bool}
def jx(p:Pr)(tf:List Pa)(ft k ty:Int)(td:C2)(tc:List Ex)(ti:Bool):Int:=
 if k=1 then xE p tf tc ty
 else if k=2 then(match zX tf td with|none=>50|some t=>xE p tf tc t)
 else if k=3 then(if(ze p.wa td).isSome then xE p tf tc 1 else 50)
 else if k=4\/k=5 then xE p tf tc 2
 else if k=8 then xE p tf tc ft
 else if k=9 then xE p tf tc 1
 else if k=10 then(qF p tf (tc.getD 0 jj)).2
 else if ti then 0 else 53
theorem zV{g:Nat}{b c d e c4 c5:C4}{T:TypeId}(a:w.heap[g]?=some (.cells #[b,c,d,e,c4,c5] T (0,0))):w.cell? (g,0)=some b/\w.cell? (g,1)=some c/\w.cell? (g,2)=some d/\w.cell? (g,3)=some e/\w.cell? (g,4)=some c4/\w.cell? (g,5)=some c5:=
 ⟨(Ds a 0).trans rfl,(Ds a 1).trans rfl,(Ds a 2).trans rfl,(Ds a 3).trans rfl,(Ds a 4).trans rfl,(Ds a 5).trans rfl⟩
set_option linter.unusedSectionVars false
section
variable (B C b:Nat)(p:Pr)(tf:List Pa)(ty:Int)(td:C2)(tc:List Ex)(ti:Bool)(A4:Option Addr)(n4 c4:Nat)(A5:Option Addr)(n5 c5:Nat)(r:Int)(v3 v0 v1 v:C4)(gv n:Int)(w:C3)
variable (hE:wK B C p tf v0 v1 v w)(hb:w.heap[b]?=some (EV v0 v1 gv n))(hl:xA B w v3 tc)(hok:zr tc 100=true)(hp:l7 p)
include hE hb hl hok hp in
theorem R4(d:jx p tf gv 1 ty td tc ti=r):Cy 109 #[(b,0),nW 1 ty td v3 (.slice A4 n4 c4) (.slice A5 n5 c5),v,.bool ti] w (Cv (r:Int) w):=by
 have m:=U (show xE p tf tc ty=r by rw[<-d];simp[jx]);obtain⟨_,_,_,_,q,rfl,rfl,rfl⟩:=hE.form;obtain⟨f,t,rfl,_⟩:=hl.form;have c:=zB hb;have a:Cx w (w.alloc (qj 1 ty td (.slice f tc.length t) (.slice A4 n4 c4) (.slice A5 n5 c5))):=Zb.alloc Zr _;exact Oy
include hE hb hl hok hp in
theorem X9(d:jx p tf gv 4 ty td tc ti=r):Cy 109 #[(b,0),nW 4 ty td v3 (.slice A4 n4 c4) (.slice A5 n5 c5),v,.bool ti] w (Cv (r:Int) w):=by
 have m:=U (show xE p tf tc 2=r by rw[<-d];simp[jx]);obtain⟨_,_,_,_,q,rfl,rfl,rfl⟩:=hE.form;obtain⟨f,t,rfl,_⟩:=hl.form;have c:=zB hb;have a:Cx w (w.alloc (qj 4 ty td (.slice f tc.length t) (.slice A4 n4 c4) (.slice A5 n5 c5))):=Zb.alloc Zr _;exact Oy
include hE hb hl hok hp in
theorem IT(d:jx p tf gv 5 ty td tc ti=r):Cy 109 #[(b,0),nW 5 ty td v3 (.slice A4 n4 c4) (.slice A5 n5 c5),v,.bool ti] w (Cv (r:Int) w):=by
 have m:=U (show xE p tf tc 2=r by rw[<-d];simp[jx]);obtain⟨_,_,_,_,q,rfl,rfl,rfl⟩:=hE.form;obtain⟨f,t,rfl,_⟩:=hl.form;have c:=zB hb;have a:Cx w (w.alloc (qj 5 ty td (.slice f tc.length t) (.slice A4 n4 c4) (.slice A5 n5 c5))):=Zb.alloc Zr _;exact Oy
include hE hb hl hok hp in
theorem IU(d:jx p tf gv 9 ty td tc ti=r):Cy 109 #[(b,0),nW 9 ty td v3 (.slice A4 n4 c4) (.slice A5 n5 c5),v,.bool ti] w (Cv (r:Int) w):=by
 have m:=U (show xE p tf tc 1=r by rw[<-d];simp[jx]);obtain⟨_,_,_,_,q,rfl,rfl,rfl⟩:=hE.form;obtain⟨f,t,rfl,_⟩:=hl.form;have c:=zB hb;have a:Cx w (w.alloc (qj 9 ty td (.slice f tc.length t) (.slice A4 n4 c4) (.slice A5 n5 c5))):=Zb.alloc Zr _;exact Oy
include hE hb hl hok hp in
theorem EY(k:jx p tf gv 8 ty td tc ti=r):Cy 109 #[(b,0),nW 8 ty td v3 (.slice A4 n4 c4) (.slice A5 n5 c5),v,.bool ti] w (Cv (r:Int) w):=by
 have y:=U (show xE p tf tc gv=r by rw[<-k];simp[jx]);obtain⟨_,_,_,_,q,rfl,rfl,rfl⟩:=hE.form;obtain⟨c,d,rfl,_⟩:=hl.form;have g:=zB hb;have a:Cx w (w.alloc (qj 8 ty td (.slice c tc.length d) (.slice A4 n4 c4) (.slice A5 n5 c5))):=Zb.alloc Zr _;have j:=U a;have G:=U (hE.below a);have m:=U (hE.below a.drew);have E:=U ((a.block b g).trans hb);have l:=U ((a.drew.block b g).trans hb);have H:=U (hl.below (a.mono hE.hB) Zr);have s:=U (hl.below (a.drew.mono hE.hB) Zr);have t:=U hok;have u:=U hp;have F:=U hE;obtain⟨⟨_,_,_,_⟩,_⟩:=zM hb;clear hE hb hl hok hp k a;go_enter func109,ntmps109;go_wp2_with fail
 go_region_held3 (fun w'=>w'.cell? (b,2)=some (.int .i64 gv)/\w'.cell? (w.heap.size,3)=some (.slice c tc.length d))
  (first
    |(go_split_ands;refine⟨?_,?_⟩ <;>(first|(rw[D];assumption)|(rw[A];simp;done)))
    |go_keep)
  (first
    | (go_at_call 134
       (refine(yZ B C b p tf tc _ _ _ _ _ _ gv n (w:=(w.alloc (qj 8 ty td (.slice c tc.length d) (.slice A4 n4 c4) (.slice A5 n5 c5))).drew) m.o l.o s.o t.o u.o y.o).mono ?_)
       rintro e i ⟨rfl,f⟩;have D:∀x,i.cell? ⟨b,x,none⟩=w.cell? ⟨b,x,none⟩:=fun x=>(j.o.trans (Zb.drew.trans (f.mono Xa))).cell (p:=⟨b,x,none⟩) g
       have A:∀x,i.cell? ⟨w.heap.size,x,none⟩=(w.alloc (qj 8 ty td (.slice c tc.length d) (.slice A4 n4 c4) (.slice A5 n5 c5))).cell? ⟨w.heap.size,x,none⟩:=fun x=>f.cell (p:=⟨w.heap.size,x,none⟩) Xf
       have z:=C0 (Cx w i) (j.o.trans (Zb.drew.trans (f.mono Xa)))
       clear f))
 go_wp2_with fail;go_ret;exact⟨rfl,z.o⟩
include hE hb hl hok hp in
theorem EZ(d:zX tf td=none)(g:jx p tf gv 2 ty td tc ti=r):Cy 109 #[(b,0),nW 2 ty td v3 (.slice A4 n4 c4) (.slice A5 n5 c5),v,.bool ti] w (Cv (r:Int) w):=by
 have k:=U (show(50 :Int)=r by rw[<-g];simp[jx,d]);have l:=U ((yY td tf).symm.trans d);clear d;obtain⟨_,_,_,_,q,rfl,rfl,rfl⟩:=hE.form;obtain⟨i,n,rfl,_⟩:=hl.form;have f:=zB hb;have a:Cx w (w.alloc (qj 2 ty td (.slice i tc.length n) (.slice A4 n4 c4) (.slice A5 n5 c5))):=Zb.alloc Zr _;have m:=U a;have j:=U (hE.below a);have y:=U (hE.below a.drew);have t:=U ((a.block b f).trans hb);have u:=U ((a.drew.block b f).trans hb);have z:=U (hl.below (a.mono hE.hB) Zr);have A:=U (hl.below (a.drew.mono hE.hB) Zr);have B:=U hok;have D:=U hp;have x:=U hE;obtain⟨⟨_,_,_,_⟩,_⟩:=zM hb;clear hE hb hl hok hp g a;go_enter func109,ntmps109
 go_wp2_with (go_at_call 110;(with_reducible refine(xD _ C _ _ _ _ td Zr (iD.nil _ _) j.o.hs).mono ?_);rintro e w9 ⟨c,rfl⟩
              have s:e=.returned (.pointer none):=by
               rw[l.o]at c;exact c
              clear c
              subst s)
 go_ret;exact⟨qK k.o,m.o⟩
include hE hb hl hok hp in
theorem R5(t:Int)(l:zX tf td=some t)(s:jx p tf gv 2 ty td tc ti=r):Cy 109 #[(b,0),nW 2 ty td v3 (.slice A4 n4 c4) (.slice A5 n5 c5),v,.bool ti] w (Cv (r:Int) w):=by
 have F:=U (show xE p tf tc t=r by rw[<-s];simp[jx,l]);have G:=U ((yY td tf).symm.trans l);clear l;obtain⟨_,_,_,_,q,rfl,rfl,rfl⟩:=hE.form;obtain⟨c,d,rfl,_⟩:=hl.form;have j:=zB hb;have a:Cx w (w.alloc (qj 2 ty td (.slice c tc.length d) (.slice A4 n4 c4) (.slice A5 n5 c5))):=Zb.alloc Zr _;have m:=U a;have y:=U (hE.below a);have z:=U (hE.below a.drew);have N:=U ((a.block b j).trans hb);have u:=U ((a.drew.block b j).trans hb);have Q:=U (hl.below (a.mono hE.hB) Zr);have A:=U (hl.below (a.drew.mono hE.hB) Zr);have D:=U hok;have E:=U hp;have P:=U hE;obtain⟨⟨_,_,_,_⟩,_⟩:=zM hb;clear hE hb hl hok hp s a;go_enter func109,ntmps109
 go_wp2_with (go_at_call 110;(with_reducible refine(xD _ C _ _ _ _ td Zr (iD.nil _ _) y.o.hs).mono ?_);rintro e w9 ⟨k,rfl⟩
              have I:∃g,e=.returned (.pointer (some ⟨g,0,none⟩))/\g<(w.alloc (qj 2 ty td (.slice c tc.length d) (.slice A4 n4 c4) (.slice A5 n5 c5))).heap.size/\(w.alloc (qj 2 ty td (.slice c tc.length d) (.slice A4 n4 c4) (.slice A5 n5 c5))).cell? ⟨g,1,none⟩=some (.int .i64 t):=by
               rw[G.o]at k;exact k
              clear k
              obtain⟨g,rfl,K,_⟩:=I)
 go_region_held3 (fun w'=>w'.cell? (g,1)=some (.int .i64 t)/\w'.cell? (w.heap.size,3)=some (.slice c tc.length d))
  (first
    |(go_split_ands;refine⟨?_,?_⟩ <;>(first|(rw[M];assumption)|(rw[L];simp;done)|(rw[J];assumption)))
    |go_keep)
  (first
    | (go_at_call 134
       (refine(yZ B C b p tf tc _ _ _ _ _ _ gv n (w:=(w.alloc (qj 2 ty td (.slice c tc.length d) (.slice A4 n4 c4) (.slice A5 n5 c5))).drew) z.o u.o A.o D.o E.o F.o).mono ?_)
       rintro e i ⟨rfl,f⟩;have M:∀x,i.cell? ⟨b,x,none⟩=w.cell? ⟨b,x,none⟩:=fun x=>(m.o.trans (Zb.drew.trans (f.mono Xa))).cell (p:=⟨b,x,none⟩) j
       have L:∀x,i.cell? ⟨w.heap.size,x,none⟩=(w.alloc (qj 2 ty td (.slice c tc.length d) (.slice A4 n4 c4) (.slice A5 n5 c5))).cell? ⟨w.heap.size,x,none⟩:=fun x=>f.cell (p:=⟨w.heap.size,x,none⟩) Xf
       have H:=C0 (Cx w i) (m.o.trans (Zb.drew.trans (f.mono Xa)));have J:∀o,i.cell? ⟨g,o,none⟩=(w.alloc (qj 2 ty td (.slice c tc.length d) (.slice A4 n4 c4) (.slice A5 n5 c5))).cell? ⟨g,o,none⟩:=fun o=>f.cell (p:=⟨g,o,none⟩) K
       clear f))
 go_wp2_with fail;go_ret;exact⟨rfl,H.o⟩
include hE hb hl hok hp in
theorem E0(j:ze p.wa td=none)(m:jx p tf gv 3 ty td tc ti=r):Cy 109 #[(b,0),nW 3 ty td v3 (.slice A4 n4 c4) (.slice A5 n5 c5),v,.bool ti] w (Cv (r:Int) w):=by
 have u:=U (show(50 :Int)=r by rw[<-m];simp[jx,j]);have t:=U (show ko (ze p.wa td)= -1 by rw[j];rfl);clear j;obtain⟨n,z,s,A,q,rfl,rfl,rfl⟩:=hE.form;obtain⟨d,g,rfl,_⟩:=hl.form;have i:=zB hb;have a:Cx w (w.alloc (qj 3 ty td (.slice d tc.length g) (.slice A4 n4 c4) (.slice A5 n5 c5))):=Zb.alloc Zr _;have l:=U a;have H:=U (hE.below a);have f:=U (hE.below a.drew);have E:=U ((a.block b i).trans hb);have F:=U ((a.drew.block b i).trans hb);have I:=U (hl.below (a.mono hE.hB) Zr);have J:=U (hl.below (a.drew.mono hE.hB) Zr);have K:=U hok;have L:=U hp;have G:=U hE;obtain⟨⟨_,_,_,_⟩,_⟩:=zM hb;clear hE hb hl hok hp m a;go_enter func109,ntmps109;go_wp2_with fail
 go_region_held3 (fun w'=>w'.cell? (b,0)=some (.slice n p.wa.length z)/\w'.cell? (b,1)=some (.slice s p.funcs.length A)/\w'.cell? (w.heap.size,2)=some (.string td))
  (first
    |(go_split_ands;refine⟨?_,?_,?_⟩ <;>(first|(rw[D];assumption)|(rw[C];simp;done)))
    |go_keep)
  (first
    | (go_at_call 135
       (refine(l9 B p td _ t.o _ _ (w:=(w.alloc (qj 3 ty td (.slice d tc.length g) (.slice A4 n4 c4) (.slice A5 n5 c5))).drew) f.o.hB f.o.ha f.o.hf).mono ?_)
       rintro e k ⟨rfl,c⟩;have D:∀x,k.cell? ⟨b,x,none⟩=w.cell? ⟨b,x,none⟩:=fun x=>(l.o.trans (Zb.drew.trans (c.mono Xa))).cell (p:=⟨b,x,none⟩) i
       have C:∀x,k.cell? ⟨w.heap.size,x,none⟩=(w.alloc (qj 3 ty td (.slice d tc.length g) (.slice A4 n4 c4) (.slice A5 n5 c5))).cell? ⟨w.heap.size,x,none⟩:=fun x=>c.cell (p:=⟨w.heap.size,x,none⟩) Xf
       have y:=C0 (Cx w k) (l.o.trans (Zb.drew.trans (c.mono Xa)))
       clear c))
 go_wp2_with fail;go_ret;exact⟨qK u.o,y.o⟩
include hE hb hl hok hp in
theorem R6(k:Nat)(s:ze p.wa td=some k)(y:jx p tf gv 3 ty td tc ti=r):Cy 109 #[(b,0),nW 3 ty td v3 (.slice A4 n4 c4) (.slice A5 n5 c5),v,.bool ti] w (Cv (r:Int) w):=by
 have L:=U (show xE p tf tc 1=r by rw[<-y];simp[jx,s]);have G:=U (show ko (ze p.wa td)=(k:Int)by rw[s];rfl);clear s;obtain⟨z,N,A,P,q,rfl,rfl,rfl⟩:=hE.form;obtain⟨f,g,rfl,_⟩:=hl.form;have i:=zB hb;have a:Cx w (w.alloc (qj 3 ty td (.slice f tc.length g) (.slice A4 n4 c4) (.slice A5 n5 c5))):=Zb.alloc Zr _;have m:=U a;have T:=U (hE.below a);have l:=U (hE.below a.drew);have D:=U ((a.block b i).trans hb);have S:=U ((a.drew.block b i).trans hb);have H:=U (hl.below (a.mono hE.hB) Zr);have V:=U (hl.below (a.drew.mono hE.hB) Zr);have J:=U hok;have K:=U hp;have t:=U hE;obtain⟨⟨_,_,_,_⟩,_⟩:=zM hb;clear hE hb hl hok hp y a;go_enter func109,ntmps109;go_wp2_with fail
 go_region_held3 (fun w'=>w'.cell? (b,0)=some (.slice z p.wa.length N)/\w'.cell? (b,1)=some (.slice A p.funcs.length P)/\w'.cell? (w.heap.size,2)=some (.string td))
  (first
    |(go_split_ands;refine⟨?_,?_,?_⟩ <;>(first|(rw[R];assumption)|(rw[u];simp;done)))
    |go_keep)
  (first
    | (go_at_call 135
       (refine(l9 B p td _ G.o _ _ (w:=(w.alloc (qj 3 ty td (.slice f tc.length g) (.slice A4 n4 c4) (.slice A5 n5 c5))).drew) l.o.hB l.o.ha l.o.hf).mono ?_)
       rintro e c ⟨rfl,d⟩;have R:∀x,c.cell? ⟨b,x,none⟩=w.cell? ⟨b,x,none⟩:=fun x=>(m.o.trans (Zb.drew.trans (d.mono Xa))).cell (p:=⟨b,x,none⟩) i
       have u:∀x,c.cell? ⟨w.heap.size,x,none⟩=(w.alloc (qj 3 ty td (.slice f tc.length g) (.slice A4 n4 c4) (.slice A5 n5 c5))).cell? ⟨w.heap.size,x,none⟩:=fun x=>d.cell (p:=⟨w.heap.size,x,none⟩) Xf
       have j:=C0 (Cx w c) (m.o.trans (Zb.drew.trans (d.mono Xa)));have M:=C0 (Below w.heap.size ((w.alloc (qj 3 ty td (.slice f tc.length g) (.slice A4 n4 c4) (.slice A5 n5 c5))).drew) c) (d.mono Xa);have W:c.cell? (w.heap.size,3)=some (.slice f tc.length g):=by rw[u];simp
       have X:w.heap.size<c.heap.size:=Km
       clear d))
 have F:=U (t.o.below j.o);have E:=U ((j.o.block b i).trans ((m.o.block b i).symm.trans D.o));have I:=U (H.o.below ((Zb.drew.trans (show Below w.heap.size _ c from M.o)).mono t.o.hB) Zr);go_wp2_with (go_at_call 134;(with_reducible refine(yZ B C b p tf tc _ _ _ _ _ _ gv n _ F.o E.o I.o J.o K.o L.o).mono ?_);rintro e _ ⟨rfl,Q⟩);go_ret;exact⟨rfl,j.o.trans (Q.mono j.o.size)⟩
include hE hb hl hok hp in
theorem YA(Y:tc.length=1)(I:jx p tf gv 10 ty td tc ti=r):Cy 109 #[(b,0),nW 10 ty td v3 (.slice A4 n4 c4) (.slice A5 n5 c5),v,.bool ti] w (Cv (r:Int) w):=by
 obtain⟨⟨j,l,k,m,d⟩,n⟩:∃e,tc[0]?=some e:=⟨_,Dz O⟩
 obtain⟨⟨t,f⟩,A⟩:=Cz (qF p tf (.mk j l k m d))
 have H:tc.getD 0 jj=.mk j l k m d:=by
  rw[Yk,n];rfl
 have ao:0<tc.length:=O
 have T:=U A;have Q:=U (jK hok n);have D:=U n;have S:=U (show f=r by rw[<-I];rw[jx,Dl Up,Dl Up,Dl Up,Dl Up,Dl Up,Dl Up,Dm rfl,H,A]);clear Y H A n;obtain⟨J,W,K,X,q,rfl,rfl,rfl⟩:=hE.form;obtain⟨L,c,rfl,_⟩:=hl.form;have y:=zB hb;have a:Cx w (w.alloc (qj 10 ty td (.slice L tc.length c) (.slice A4 n4 c4) (.slice A5 n5 c5))):=Zb.alloc Zr _;have F:=U a;have ak:=U (hE.below a);have N:=U (hE.below a.drew);have ai:=U ((a.block b y).trans hb);have aj:=U ((a.drew.block b y).trans hb);have E:=U (hl.below (a.mono hE.hB) Zr);have al:=U (hl.below (a.drew.mono hE.hB) Zr);have am:=U hok;have R:=U hp;have M:=U hE;obtain⟨⟨_,_,_,_⟩,_⟩:=zM hb;clear hE hb hl hok hp I a;go_enter func109,ntmps109;obtain⟨g,o,v',rfl,_,ad,ae,af,ag,ah,z⟩:=E.o.cells D.o;obtain⟨C,G,rfl,_⟩:=z.form;rw[show o+0*5=o by omega]at ad ae af ag ah;have an:g<w.heap.size:=by have:=M.o.hB;omega
 have P:=C0 (iY B (w.alloc (qj 10 ty td (.slice (some ⟨g,o,none⟩) tc.length c) (.slice A4 n4 c4) (.slice A5 n5 c5))).drew (.mk j l k m d) (.agg #[(j:Int),(l:Int),(k:Int),m,(C,d.length,G)])) ⟨_,rfl,E.o.range D.o,z.below Zb.drew Zr⟩;clear z;go_wp2_with fail
 go_region_held3 (fun w'=>w'.cell? (b,0)=some (.slice J p.wa.length W)/\w'.cell? (b,1)=some (.slice K p.funcs.length X)/\w'.cell? (w.heap.size,3)=some (.slice (some ⟨g,o,none⟩) tc.length c)/\w'.cell? (g,o)=some (.int .i64 j)/\w'.cell? (g,o+1)=some (.int .i64 l)/\w'.cell? (g,o+2)=some (.int .i64 k)/\w'.cell? (g,o+3)=some (.string m)/\w'.cell? (g,o+4)=some (.slice C d.length G))
  (first
    |(go_split_ands;refine⟨?_,?_,?_,?_,?_,?_,?_,?_⟩ <;>(first|(rw[ab];assumption)|(rw[aa];simp;done)|(rw[Z];assumption)))
    |go_keep)
  (first
    | (go_at_call 136
       (refine((vz 100).call (w:=(w.alloc (qj 10 ty td (.slice (some ⟨g,o,none⟩) tc.length c) (.slice A4 n4 c4) (.slice A5 n5 c5))).drew) Q.o R.o T.o N.o P.o).mono ?_)
       rintro e u ⟨rfl,i⟩;have ab:∀x,u.cell? ⟨b,x,none⟩=w.cell? ⟨b,x,none⟩:=fun x=>(F.o.trans (Zb.drew.trans (i.mono Xa))).cell (p:=⟨b,x,none⟩) y
       have aa:∀x,u.cell? ⟨w.heap.size,x,none⟩=(w.alloc (qj 10 ty td (.slice (some ⟨g,o,none⟩) tc.length c) (.slice A4 n4 c4) (.slice A5 n5 c5))).cell? ⟨w.heap.size,x,none⟩:=fun x=>i.cell (p:=⟨w.heap.size,x,none⟩) Xf
       have V:=C0 (Cx w u) (F.o.trans (Zb.drew.trans (i.mono Xa)));have Z:∀s,u.cell? ⟨g,s,none⟩=(w.alloc (qj 10 ty td (.slice (some ⟨g,o,none⟩) tc.length c) (.slice A4 n4 c4) (.slice A5 n5 c5))).cell? ⟨g,s,none⟩:=fun s=>i.cell (p:=⟨g,s,none⟩) (by show g<(w.alloc _).heap.size;rw[zA];omega)
       clear i))
 go_wp2_with fail;go_ret;exact⟨qK S.o,V.o⟩
include hE hb hl hok hp in
theorem IV(d:jx p tf gv 6 ty td tc ti=r):Cy 109 #[(b,0),nW 6 ty td v3 (.slice A4 n4 c4) (.slice A5 n5 c5),v,.bool ti] w (Cv (r:Int) w):=by
 cases ti
 all_goals
  have f:=U (show jx p tf gv 6 ty td tc _=r by exact d);obtain⟨_,_,_,_,q,rfl,rfl,rfl⟩:=hE.form;obtain⟨e,i,rfl,_⟩:=hl.form;have c:=zB hb;have a:Cx w (w.alloc (qj 6 ty td (.slice e tc.length i) (.slice A4 n4 c4) (.slice A5 n5 c5))):=Zb.alloc Zr _;have g:=U a;have m:=U (hE.below a);have n:=U (hE.below a.drew);have j:=U ((a.block b c).trans hb);have k:=U ((a.drew.block b c).trans hb);have s:=U (hl.below (a.mono hE.hB) Zr);have t:=U (hl.below (a.drew.mono hE.hB) Zr);have u:=U hok;have x:=U hp;have l:=U hE;obtain⟨⟨_,_,_,_⟩,_⟩:=zM hb;clear hE hb hl hok hp d a;go_enter func109,ntmps109;go_wp2_with fail;go_ret;exact⟨qK (by rw[<-f.o];simp[jx]),g.o⟩
include hE hb hl hok hp in
theorem NV(d:jx p tf gv 7 ty td tc ti=r):Cy 109 #[(b,0),nW 7 ty td v3 (.slice A4 n4 c4) (.slice A5 n5 c5),v,.bool ti] w (Cv (r:Int) w):=by
 cases ti
 all_goals
  have f:=U (show jx p tf gv 7 ty td tc _=r by exact d);obtain⟨_,_,_,_,q,rfl,rfl,rfl⟩:=hE.form;obtain⟨e,i,rfl,_⟩:=hl.form;have c:=zB hb;have a:Cx w (w.alloc (qj 7 ty td (.slice e tc.length i) (.slice A4 n4 c4) (.slice A5 n5 c5))):=Zb.alloc Zr _;have g:=U a;have m:=U (hE.below a);have n:=U (hE.below a.drew);have j:=U ((a.block b c).trans hb);have k:=U ((a.drew.block b c).trans hb);have s:=U (hl.below (a.mono hE.hB) Zr);have t:=U (hl.below (a.drew.mono hE.hB) Zr);have u:=U hok;have x:=U hp;have l:=U hE;obtain⟨⟨_,_,_,_⟩,_⟩:=zM hb;clear hE hb hl hok hp d a;go_enter func109,ntmps109;go_wp2_with fail;go_ret;exact⟨qK (by rw[<-f.o];simp[jx]),g.o⟩
theorem jy(k:Int)(ic:Bool)(c:zj k ty td tc.length n4 n5 ic=true)(a:jx p tf gv k ty td tc ti=r)(hE:wK B C p tf v0 v1 v w)(hb:w.heap[b]?=some (EV v0 v1 gv n))(hl:xA B w v3 tc)(hok:zr tc 100=true)(hp:l7 p):
 Cy 109 #[(b,0),nW k ty td v3 (.slice A4 n4 c4) (.slice A5 n5 c5),v,.bool ti] w (Cv (r:Int) w):=by
 have e:k=1\/k=2\/k=3\/k=4\/k=5\/k=6\/k=7\/k=8\/k=9\/k=10:=by
  by_cases d:k=1\/k=2\/k=3\/k=4\/k=5\/k=6\/k=7\/k=8\/k=9\/k=10
  .exact d
  .exfalso
   unfold zj at c;rw[Dl O,Dl O,Dl O,Dl O,Dl O,Dl O,Dl O,Dl O]at c;cases c
 rcases e with rfl|rfl|rfl|rfl|rfl|rfl|rfl|rfl|rfl|rfl
 .exact R4 B C b p tf ty td tc ti A4 n4 c4 A5 n5 c5 r v3 v0 v1 v gv n w hE hb hl hok hp a
 .cases hv:zX tf td with
  |none=>exact EZ B C b p tf ty td tc ti A4 n4 c4 A5 n5 c5 r v3 v0 v1 v gv n w hE hb hl hok hp hv a
  |some t=>exact R5 B C b p tf ty td tc ti A4 n4 c4 A5 n5 c5 r v3 v0 v1 v gv n w hE hb hl hok hp t hv a
 .cases hv:ze p.wa td with
  |none=>exact E0 B C b p tf ty td tc ti A4 n4 c4 A5 n5 c5 r v3 v0 v1 v gv n w hE hb hl hok hp hv a
  |some t=>exact R6 B C b p tf ty td tc ti A4 n4 c4 A5 n5 c5 r v3 v0 v1 v gv n w hE hb hl hok hp t hv a
 .exact X9 B C b p tf ty td tc ti A4 n4 c4 A5 n5 c5 r v3 v0 v1 v gv n w hE hb hl hok hp a
 .exact IT B C b p tf ty td tc ti A4 n4 c4 A5 n5 c5 r v3 v0 v1 v gv n w hE hb hl hok hp a
 .exact IV B C b p tf ty td tc ti A4 n4 c4 A5 n5 c5 r v3 v0 v1 v gv n w hE hb hl hok hp a
 .exact NV B C b p tf ty td tc ti A4 n4 c4 A5 n5 c5 r v3 v0 v1 v gv n w hE hb hl hok hp a
 .exact EY B C b p tf ty td tc ti A4 n4 c4 A5 n5 c5 r v3 v0 v1 v gv n w hE hb hl hok hp a
 .exact IU B C b p tf ty td tc ti A4 n4 c4 A5 n5 c5 r v3 v0 v1 v gv n w hE hb hl hok hp a
 .exact YA B C b p tf ty td tc ti A4 n4 c4 A5 n5 c5 r v3 v0 v1 v gv n w hE hb hl hok hp (by simp[zj]at c;omega) a
end
def eH(n:Nat):Int:=IntKind.wrap .i64 (n:Int)
theorem sC(n:Nat):IntKind.wrap .i64 (eH n+1)=eH (n+1):=by
 unfold eH;simp only[IntKind.wrap,IntKind.bits,IntKind.signed];simp;omega
theorem jz{L:Nat}(h:dX b B w w')(_:L<=B)(hb:L<=b):Below L w w':=by
 have g:Below B (eG b w) (eG b w'):=h;exact⟨g.os,g.tape,g.output,h.size,fun k _=>h.block O O⟩
theorem wK.off{tf:List Pa}{v0 v1 v:C4}(a:wK B C p tf v0 v1 v w)(c:dX b w.heap.size w w')(hB:B<=b)(hC:b<C):wK B C p tf v0 v1 v w' where
 hB:=Dr a.hB c.size
 hC:=Dr a.hC c.size
 ha:=a.ha.below (jz c a.hB hB) Zr
 hf:=a.hf.below (jz c a.hB hB) Zr
 hs:=(a.hs.keep fun g _ hl=>c.block hl O).up c.size
theorem YB{c:C4}{cs:Array C4}(d:iD w C c)(f:dX b w.heap.size w w')(_:C<=w.heap.size)(hb:w.heap[b]?=some (.cells cs 153 (0,0))):iD w' C c:=
 d.keep fun g _ ⟨_,a⟩=>f.block O fun e=>by
  subst e;rw[hb]at a;injection a with a;injection a with _ a _;exact absurd a Up
theorem y6(p:Pr)(tf:List Pa)(a:Ex)(t:Int):xE p tf [a] t=qu p tf a t:=by
 rw[xE,xE];split<;>simp_all
theorem NW(p:Pr)(tf:List Pa)(a c:Ex)(t:Int):xE p tf [a,c] t=if qu p tf a t=0 then qu p tf c t else qu p tf a t:=by
 rw[xE,y6];split<;>simp_all
theorem AD{td:C2}{a:Nat}(d:zj k ty td a b c ic=true):k=1\/k=2\/k=3\/k=4\/k=5\/k=6\/k=7\/k=8\/k=9\/k=10:=by
 by_cases e:k=1\/k=2\/k=3\/k=4\/k=5\/k=6\/k=7\/k=8\/k=9\/k=10
 .exact e
 .exfalso
  unfold zj at d;rw[Dl O,Dl O,Dl O,Dl O,Dl O,Dl O,Dl O,Dl O]at d;cases d
theorem YC{tf:List Pa}{td:C2}{tc:List Ex}{frm:Nat}{ti:Bool}(e:zj k ty td tc.length b c ic=true)(f:k≠1):qy p ft k ty td tc tf frm ti=jx p tf ft k ty td tc ti:=by
 rcases AD e with rfl|rfl|rfl|rfl|rfl|rfl|rfl|rfl|rfl|rfl
 .exact absurd rfl f
 .obtain⟨a,rfl⟩:∃a,tc=[a]:=by simp[zj]at e;exact List.length_eq_one_iff.1 e.1.1.2
  simp only[qy,jx,y6];cases zX tf td<;>simp
 .obtain⟨a,d,rfl⟩:∃a d,tc=[a,d]:=by
   simp[zj]at e
   match tc,e.1.1.2 with
   |[a,d],_=>exact⟨a,d,rfl⟩
  simp[qy,jx,NW]
 .obtain⟨a,rfl⟩:∃a,tc=[a]:=by simp[zj]at e;exact List.length_eq_one_iff.1 e.2
  simp[qy,jx,y6]
 .obtain⟨a,rfl⟩:∃a,tc=[a]:=by simp[zj]at e;exact List.length_eq_one_iff.1 e.1.2
  simp[qy,jx,y6]
 .simp[qy,jx]
 .simp[qy,jx]
 .obtain⟨a,rfl⟩:∃a,tc=[a]:=by simp[zj]at e;exact List.length_eq_one_iff.1 e.1.1.2
  simp[qy,jx,y6]
 .obtain⟨a,rfl⟩:∃a,tc=[a]:=by simp[zj]at e;exact List.length_eq_one_iff.1 e.1.1.2
  simp[qy,jx,y6]
 .simp[qy,jx]
theorem YD{p:Pr}{tf:List Pa}{ft:Int}{td:C2}{tc:List Ex}{frm:Nat}{ti:Bool}(d:zj 1 ty td tc.length b c ic=true):
 qy p ft 1 ty td tc tf frm ti=if jx p tf ft 1 ty td tc ti≠0 then jx p tf ft 1 ty td tc ti else if(zX (tf.drop frm) td).isSome then 50 else 0:=by
 obtain⟨a,rfl⟩:∃a,tc=[a]:=by simp[zj]at d;exact List.length_eq_one_iff.1 d.1.1.2
 simp[qy,jx,y6]
theorem NX{p:Pr}{tf:List Pa}{ft:Int}{td:C2}{tc:List Ex}{frm:Nat}{ti:Bool}(e:zj k ty td tc.length b c ic=true):
 qy p ft k ty td tc tf frm ti=if jx p tf ft k ty td tc ti≠0 then jx p tf ft k ty td tc ti else if k=1/\(zX (tf.drop frm) td).isSome=true then 50 else 0:=by
 by_cases a:k=1
 .subst a
  rw[YD e];simp
 .rw[YC e a]
  by_cases d:jx p tf ft k ty td tc ti=0
  .simp[d,a]
  .simp[d]
def R7(b:Nat)(w:C3)(v0 v1:C4)(ft:Int)(R:Int×Nat)(e:Ending)(w':C3):Prop:=
 e=.returned (R.1:Int)/\dX b w.heap.size w w'/\w'.heap[b]?=some (EV v0 v1 ft (eH R.2))
def LsC(m:Nat):Prop:=∀(B C b:Nat) (p:Pr) (tf:List Pa) (l:List St) (ti:Bool) (n:Nat) (R:Int×Nat) (a v0 v1 v:C4) (ft:Int) (w:C3),
 d3 l m=true->l7 p->zW p ft l tf tf.length ti n=R->wK B C p tf v0 v1 v w->B<=b->b<C->w.heap[b]?=some (EV v0 v1 ft (eH n))->eN B w a l->
 Cy 88 #[(b,0),a,v,.bool ti] w (R7 b w v0 v1 ft R)
theorem LsC.call{m:Nat}(c:LsC m){B C b:Nat}{p:Pr}{tf:List Pa}{l:List St}{ti:Bool}{n:Nat}{R:Int×Nat}{a v0 v1 v:C4}{ft:Int}{w:C3}
 (d:d3 l m=true) (e:l7 p) (f:zW p ft l tf tf.length ti n=R) (g:wK B C p tf v0 v1 v w) (i:B<=b) (j:b<C) (k:w.heap[b]?=some (EV v0 v1 ft (eH n))) (o:eN B w a l):
 Cy 88 #[(b,0),a,v,.bool ti] w (R7 b w v0 v1 ft R):=c B C b p tf l ti n R a v0 v1 v ft w d e f g i j k o
