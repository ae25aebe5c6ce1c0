import Derived.Test.YthcmenajdcbnnaaGreatDoorAtEvCb
set_option linter.unusedSimpArgs false
set_option linter.unusedVariables false
set_option maxRecDepth 100000
set_option maxHeartbeats 99000000
/- What the developers write for lists of statements. -/
namespace Go.Proofs.YthcmenajdcbnnaaGreatDoor
open Lib (hid)
open Go.RowKit Go.Maps
abbrev jg(s:WSt)(C:List Ins)(bk:List Nat):WSt:={ s with C:=s.C++C,bk:=s.bk++bk }
theorem addS_nil(s:WSt):jg s [] []=s:=by cases s;simp[jg]
theorem addS_addS(s:WSt)(C a:List Ins)(k b:List Nat):jg (jg s C k) a b=jg s (C++a) (k++b):=by cases s;simp[jg]
structure Room (s:WSt) (n m:Nat):Prop where
 d:s.lsc<=s.sc
 sc:s.sc+m<=1000
 len:s.C.length+n<=1000000000
 bk:s.bk.length+n<=1000000000
abbrev dS(s:WSt):Nat:=s.sc-s.lsc
def WSts(L B b m:Nat):Prop:=∀(l:List St) (w:World) (v vc vb:Value) (s:WSt) (qs:List Q4),WrS L B b w vc vb s qs->SlS B w v l->stsOK l m=true->Room s (lenTs l (dS s)) m->
 Calls Tryz.prog 91 #[.pointer (some ⟨b,0,none⟩),v] w (yi L B b w vc vb (jg s (qH l s.C.length (dS s) s.lst 0) (xA l s.C.length (dS s))) (.tuple #[]))
def WLst(L B b m:Nat):Prop:=∀(l:List St) (w:World) (v vc vb:Value) (s:WSt) (qs:List Q4),WrS L B b w vc vb s qs->SlS B w v l->stsOK l m=true->Room s (qA l (dS s)) (m+1)->
 Calls Tryz.prog 154 #[.pointer (some ⟨b,0,none⟩),v] w (yi L B b w vc vb (jg s (jw l s.C.length (dS s) s.lst 0) (bkB l s.C.length (dS s))) (.tuple #[]))
def WStm(L B b m:Nat):Prop:=∀(t:St) (w:World) (v vc vb:Value) (s:WSt) (qs:List Q4),WrS L B b w vc vb s qs->PtS B w v t->stOK t m=true->Room s (kn t (dS s)) m->
 Calls Tryz.prog 112 #[.pointer (some ⟨b,0,none⟩),v] w (yi L B b w vc vb (jg s (kN t s.C.length (dS s) s.lst 0) (bkT t s.C.length (dS s))) (.tuple #[]))
theorem bB_len{l:List St}{f:Nat->Nat->List Nat}{g:Nat->Nat}(h:∀b d,(f b d).length<=g d)(b d:Nat):(bB l f b d).length<=lB l g d:=by
 unfold bB lB;split
 .exact Nat.le_succ_of_le (Nat.le_succ_of_le (h (b+1) (d+1)))
 .exact h b d
mutual
theorem bkT_len:∀(t:St) (b d:Nat),(bkT t b d).length<=kn t d
 | .mk k ty name args thn els,b,d=>by
   rw[bkT,kn];by_cases a:k=4
   .rw[if_pos a,if_pos a,List.length_append]
    have e:(bB thn (fun b d=>xA thn b d) (b+zE args+2) d).length<=lB thn (lenTs thn) d:=bB_len (fun b d=>v7 thn b d) _ _;have f:(bB els (fun b d=>xA els b d) (b+zE args+3+lB thn (lenTs thn) d) d).length<=lB els (lenTs els) d:=bB_len (fun b d=>v7 els b d) _ _;omega
   rw[if_neg a,if_neg a];by_cases c:k=6
   .rw[if_pos c,if_neg I7,if_pos (Or.inl c)]
    show 1<=_;omega
   .rw[if_neg c]
    exact Nat.zero_le _
theorem v7:∀(l:List St) (b d:Nat),(xA l b d).length<=lenTs l d
 | [],_,_=>Nat.zero_le _
 | t::r,b,d=>by
   rw[xA,lenTs,List.length_append];have:=bkT_len t b d;have:=v7 r (b+kn t d) d;omega
end
section
variable {L B b:Nat} {w w':World} {vc vb:Value} {s:WSt} {qs:List Q4}
theorem WrS.rebox(a:WrS L B b w vc vb s qs){g:Value}{c:WSt}(j:OffX (fun k=>k=b) w w')(m:w'.heap[b]? =some (wrO vc g c))(d:c.C=s.C)(n:w'.ownsRow L 3 1 g c.bk.length (bkV c.bk)):WrS L B b w' vc g c qs:=by
 have l:Below B w w':=j.below Qd fun k f (e:k=b)=>by have:=a.hB;have:=a.hL;omega
 refine⟨a.hB,a.hL,m,?_,by rw[d];exact a.ql,fun i x q p o=>(a.qi i x q (by rw[<-d];exact p) o).below l Zr,n⟩;rw[d];exact zm a.row fun k f=>j.block k (qP a.row k f).1 fun(e:k=b)=>a.cb (e ▸ f)
theorem WrS.brow_keep(a:WrS L B b w vc vb s qs)(d:OffX (fun k=>k=b) w w'):w'.ownsRow L 3 1 vb s.bk.length (bkV s.bk):=zm a.brow fun k c=>d.block k (qP a.brow k c).1 fun(e:k=b)=>a.bb (e ▸ c)
theorem Cum.rebox(d:WrS L B b w vc vb s qs){a:WSt}(c:OffX (fun k=>k=b) w w')(g:w'.heap[b]? =some (wrO vc vb a))(e:a.C=s.C)(f:a.bk=s.bk):Cum L B b w vc vb w' vc vb a qs:=
 ⟨d.rebox c g e (by rw[f];exact d.brow_keep c),c.mono fun k _ i=>.inl i,RowTo.refl _ _,RowTo.refl _ _⟩
theorem Cum.scopes(a:WrS L B b w vc vb s qs)(n:Nat){i:Int}(c:i=(n:Int)):Cum L B b w vc vb (w.setCell ⟨b,1,none⟩ (.int .i64 i)) vc vb { s with sc:=n } qs:=by
 subst c;exact Cum.rebox a (OffX.set (X:=fun k=>k=b) w rfl 1 _) (Lib.heap_setCell_same a.box _) rfl rfl
theorem Cum.cast{d c:Value}{a:WSt}(f:Cum L B b w d c w' vc vb s qs)(e:s=a):Cum L B b w d c w' vc vb a qs:=e ▸ f
end
theorem SlS.ptr{B:Nat}{w:World}{a:Option Addr}{n c:Nat}{l:List St}(f:SlS B w (.slice a n c) l){i:Nat}{e:St}(b:l[i]? =some e):∃g o,a=some ⟨g,o,none⟩/\PtS B w (.pointer (some ⟨g,o+i*6,none⟩)) e:=by
 obtain⟨p,q,m,r,hF⟩:=f;injection m with d _ _;subst d;obtain⟨g,o,j,k⟩:=hF Qv;exact⟨g,o,j,g,_,rfl,kK.at l g o i e k b⟩
theorem wstmts_any{L B b m:Nat}(P:WStm L B b m):WSts L B b m:=by
 intro l w v vc vb s qs r n y u;obtain⟨X,c,rfl,Z⟩:=n.form;have H:=hid r;have N:=hid n;have K:=hid y;have f:=hid u;clear r n y u;go_enter Tryz.func91,Tryz.ntmps91;go_wp2_with (fail)
 go_loopw [7] (fun iv wr=>∃(j:Nat) (G F:Value) (E:List Q4),j<=l.length/\iv=.int .i64 (j:Int)/\Cum L B b w vc vb wr G F (jg s (qH (l.take j) s.C.length (dS s) s.lst 0) (xA (l.take j) s.C.length (dS s))) E) (fun iv _=>l.length-(intOf iv).toNat)
 case atStart=>exact⟨0,vc,vb,qs,Nat.zero_le _,rfl,by rw[List.take_zero,qH,xA,addS_nil];exact Cum.start H.out⟩
 case round=>
  obtain⟨j,G,F,E,Y,rfl,t⟩:=hrel;have a:=hid t;clear t;by_cases S:j<l.length
  .obtain⟨x,i⟩:∃x,l[j]? =some x:=⟨_,List.getElem?_eq_getElem S⟩
   obtain⟨g,o,rfl,z⟩:=(N.out.below (a.out.below H.out) Zr).ptr i;have p:l.take (j+1)=l.take j++[x]:=by rw[List.take_add_one,i];rfl
   have k:(s.C++qH (l.take j) s.C.length (dS s) s.lst 0).length=s.C.length+lenTs (l.take j) (dS s):=by rw[List.length_append,jL]
   have T:lenTs (l.take j) (dS s)+kn x (dS s)<=lenTs l (dS s):=by
    have O:lenTs l (dS s)=lenTs (l.take (j+1)++l.drop (j+1)) (dS s):=by rw[List.take_append_drop]
    rw[lenTs_app,p,lenTs_app,lenTs,lenTs]at O;omega
   have Q:=v7 (l.take j) s.C.length (dS s)
   have A:Room (jg s (qH (l.take j) s.C.length (dS s) s.lst 0) (xA (l.take j) s.C.length (dS s))) (kn x (dS s)) m:=
    ⟨f.out.d,f.out.sc,by have:=f.out.len;show(s.C++_).length+_<=_;rw[k];omega,by have:=f.out.bk;show(s.bk++_).length+_<=_;rw[List.length_append];omega⟩
   have M:=hid (P x wr _ _ _ _ _ a.out.wr z (stsOK_at K.out i) A)
   have J:=hid (show jg s (qH (l.take (j+1)) s.C.length (dS s) s.lst 0) (xA (l.take (j+1)) s.C.length (dS s))=jg (jg s (qH (l.take j) s.C.length (dS s) s.lst 0) (xA (l.take j) s.C.length (dS s))) (kN x (s.C++qH (l.take j) s.C.length (dS s) s.lst 0).length (dS s) s.lst 0) (bkT x (s.C++qH (l.take j) s.C.length (dS s) s.lst 0).length (dS s))by
    rw[p,genTs_app,qH,qH,List.append_nil,bkTs_app,xA,xA,List.append_nil,k]
    exact(addS_addS _ _ _ _ _).symm)
   clear z i p k T Q A
   go_wp2_with (first
    | (go_at_call 112;(refine M.out.mono ?_);rintro e aa D
       obtain⟨W,V,U,rfl,q⟩:=D.cum;have I:=hid (a.out.next q)
       clear D q))
   go_roundw
   case rel=>exact⟨j+1,W,V,U,I7,by go_num,by rw[J.out];exact I.out⟩
   case measure=>simp[intOf];omega
  .have R:j=l.length:=by omega
   subst R;go_wp2_with (fail)
   go_end0
   have:=a.out;rw[List.take_length]at this;exact this.post _
theorem wlist_no{L B b m:Nat}(y:WSts L B b m)(l:List St)(j:xq l=false)(w:World)(v vc vb:Value)(s:WSt)(qs:List Q4)(a:WrS L B b w vc vb s qs)(n:SlS B w v l)(k:stsOK l m=true)(i:Room s (lenTs l (dS s)) m):
 Calls Tryz.prog 154 #[.pointer (some ⟨b,0,none⟩),v] w (yi L B b w vc vb (jg s (qH l s.C.length (dS s) s.lst 0) (xA l s.C.length (dS s))) (.tuple #[])):=by
 have g:B<=w.heap.size:=Qd
 have H:=hid a;have d:=hid n;have u:=hid k;have r:=hid i;have t:=hid j;clear a n k i j;go_enter Tryz.func154,Tryz.ntmps154
 go_upto_region 1 with(first
  | (go_at_call 164;(refine(lets_any g d.out).mono ?_);rintro e w1 ⟨rfl,c⟩
     rw[t.out];have p:=hid (Cum.mono H.out c);have x:=hid (y l w1 _ _ _ _ _ (H.out.keepB c) (d.out.below (c.mono g) Zr) u.out r.out)
     clear c))
 go_wp2_with (first
  | (go_at_call 91;(refine x.out.mono ?_);rintro e E o
     obtain⟨D,A,z,rfl,f⟩:=o.cum;have q:=hid (p.out.next f)
     clear o f))
 go_end0
 exact q.out.post _
theorem wlist_yes{L B b m:Nat}(ae:WSts L B b m)(l:List St)(N:xq l=true)(w:World)(v vc vb:Value)(s:WSt)(qs:List Q4)(g:WrS L B b w vc vb s qs)(Q:SlS B w v l)(O:stsOK l m=true)(a:Room s (lenTs l (dS s+1)+2) (m+1)):
 Calls Tryz.prog 154 #[.pointer (some ⟨b,0,none⟩),v] w (yi L B b w vc vb (jg s (.ent::(qH l (s.C.length+1) (dS s+1) s.lst 0++[.lve])) (xA l (s.C.length+1) (dS s+1))) (.tuple #[])):=by
 have ad:B<=w.heap.size:=by have:=g.hB;have:=g.hL;have:=g.lt;omega
 have ag:s.C.length<=2000000000:=by have:=a.len;omega
 have f:(s.C++[Ins.ent]).length=s.C.length+1:=by rw[List.length_append,List.length_singleton]
 have c:s.sc+1-s.lsc=dS s+1:=by have:=a.d;show s.sc+1-s.lsc=s.sc-s.lsc+1;omega
 have P:Room { s with C:=s.C++[Ins.ent],sc:=s.sc+1 } (lenTs l (dS { s with C:=s.C++[Ins.ent],sc:=s.sc+1 })) m:=
  ⟨by have:=a.d;show s.lsc<=s.sc+1;omega,by have:=a.sc;show s.sc+1+m<=1000;omega,by show(s.C++[Ins.ent]).length+lenTs l (s.sc+1-s.lsc)<=_;rw[f,c];have:=a.len;omega,by show s.bk.length+lenTs l (s.sc+1-s.lsc)<=_;rw[c];have:=a.bk;omega⟩
 have aj:s.sc<=1000:=by have:=a.sc;omega
 have M:((s.C++[Ins.ent])++qH l (s.C++[Ins.ent]).length (dS { s with C:=s.C++[Ins.ent],sc:=s.sc+1 }) s.lst 0).length<=2000000000:=by
  rw[List.length_append,jL,f];show _+lenTs l (s.sc+1-s.lsc)<=_;rw[c];have:=a.len;omega
 have H:=hid g;have G:=hid Q;have Z:=hid O;have ab:=hid P;have Y:=hid N;have W:=hid (And.intro f c);have X:=hid M;clear g Q O a N P f c M;go_enter Tryz.func154,Tryz.ntmps154
 go_upto_region 2 with(first
  | (go_at_call 164;(refine(lets_any ad G.out).mono ?_);rintro e w1 ⟨rfl,K⟩
     rw[Y.out];have D:=hid (Cum.mono H.out K)
     clear K))
 go_upto_region 3 with(first
  | (go_at_call 138;(refine(qB D.out.wr 7 0 none none (x:=.ent) ⟨rfl,rfl,rfl,rfl⟩ ag).mono ?_);rintro e ah R
     obtain⟨aq,an,ak,rfl,j⟩:=R.cum;have o:=hid (D.out.next j);obtain⟨⟨p,q,r,t,u⟩,y⟩:=zQ j.wr.box;have z:=j.wr.lt
     clear R j))
 have A:IntKind.i64.wrap ((s.sc:Int)+1)=((s.sc+1 :Nat):Int):=Ie
 go_upto_region 4 with(fail);have k:=Cum.scopes o.out.wr (s.sc+1) (i:=(s.sc:Int)+1) I7;have U:=hid (o.out.next k);have aa:=hid (ae l _ _ _ _ _ _ k.wr (G.out.below ((o.out.next k).below H.out) Zr) Z.out ab.out);clear k p q r t u y A z;generalize ah.setCell ⟨b,1,none⟩ (.int .i64 ((s.sc:Int)+1))=W2 at *
 go_upto_region 5 with(first
  | (go_at_call 91;(refine aa.out.mono ?_);rintro e ai S
     obtain⟨ar,ao,al,rfl,n⟩:=S.cum;have E:=hid (U.out.next n);obtain⟨⟨p,q,r,t,u⟩,y⟩:=zQ n.wr.box;have z:=n.wr.lt
     clear S n))
 have A:IntKind.i64.wrap (((s.sc+1 :Nat):Int)-1)=(s.sc:Int):=Ie
 go_upto_region 6 with(fail);have I:=Cum.scopes E.out.wr s.sc (i:=(s.sc:Int)) rfl;have F:=hid (E.out.next I);clear I p q r t u y A z;generalize ai.setCell ⟨b,1,none⟩ (.int .i64 (s.sc:Int))=W3 at *
 go_wp2_with (first
  | (go_at_call 138;(refine(qB F.out.wr 8 0 none none (x:=.lve) ⟨rfl,rfl,rfl,rfl⟩ X.out).mono ?_);rintro e av T
     obtain⟨au,ap,am,rfl,J⟩:=T.cum;have V:=hid (F.out.next J)
     clear T J))
 go_end0
 have af:=V.out;obtain⟨f,c⟩:=W.out;refine(af.cast ?_).post _;rw[f,show dS { s with C:=s.C++[Ins.ent],sc:=s.sc+1 }=dS s+1 from c];simp
theorem wlist_any{L B b m:Nat}(e:WSts L B b m):WLst L B b m:=by
 intro l w v vc vb s qs c g f a;cases hno:xq l with
 | false=>
   rw[show jw l s.C.length (dS s) s.lst 0=qH l s.C.length (dS s) s.lst 0 by unfold jw gB;rw[if_neg QY],show bkB l s.C.length (dS s)=xA l s.C.length (dS s)by unfold bkB bB;rw[if_neg QY]];rw[show qA l (dS s)=lenTs l (dS s)by unfold qA lB;rw[if_neg QY]]at a;exact wlist_no e l hno w v vc vb s qs c g f ⟨a.d,by have:=a.sc;omega,a.len,a.bk⟩
 | true=>
   rw[show jw l s.C.length (dS s) s.lst 0=.ent::(qH l (s.C.length+1) (dS s+1) s.lst 0++[.lve])by unfold jw gB;rw[if_pos hno],show bkB l s.C.length (dS s)=xA l (s.C.length+1) (dS s+1)by unfold bkB bB;rw[if_pos hno]];rw[show qA l (dS s)=lenTs l (dS s+1)+2 by unfold qA lB;rw[if_pos hno]]at a;exact wlist_yes e l hno w v vc vb s qs c g f a
theorem wleave_any{L B b:Nat}(w:World)(vc vb:Value)(s:WSt)(qs:List Q4)(a:WrS L B b w vc vb s qs)(K:s.lsc<=s.sc)(v:s.sc<=1000)(g:s.C.length+dS s<=1000000000):
 Calls Tryz.prog 141 #[.pointer (some ⟨b,0,none⟩)] w (yi L B b w vc vb { s with C:=s.C++List.replicate (dS s) .lve } (.tuple #[])):=by
 obtain⟨⟨D,E,F,G,I⟩,J⟩:=zQ a.box;have u:=a.lt;have H:=hid a;have p:=hid g
 have O:IntKind.i64.wrap ((s.sc:Int)-(s.lsc:Int))=((dS s:Nat):Int):=by
  have r:dS s=s.sc-s.lsc:=rfl;rw[IntWalk.i64_in] <;> omega
 have r:dS s=s.sc-s.lsc:=rfl;clear a g;go_enter Tryz.func141,Tryz.ntmps141;go_wp2_with (fail)
 go_region
 go_wp2_with (fail)
 go_loopw [12] (fun iv wr=>∃(j:Nat) (n m:Value) (l:List Q4),j<=dS s/\iv=.int .i64 (j:Int)/\Cum L B b w.drew vc vb wr n m { s with C:=s.C++List.replicate j .lve } l) (fun iv _=>dS s-(intOf iv).toNat)
 case atStart=>exact⟨0,vc,vb,qs,Nat.zero_le _,rfl,by have:=Cum.start (H.out.keepB Zb.drew);simpa using this⟩
 case round=>
  obtain⟨j,n,m,l,N,rfl,f⟩:=hrel;have c:=hid f;clear f;have M:dS s<=1000:=Nat.le_trans (Nat.sub_le _ _) v;by_cases u:j<dS s
  .have i:(s.C++List.replicate j Ins.lve).length<=2000000000:=by rw[List.length_append,List.length_replicate];have:=p.out;omega
   have q:=hid i;clear i
   go_wp2_with (first
    | (go_at_call 138;(refine(qB c.out.wr 8 0 none none (x:=.lve) ⟨rfl,rfl,rfl,rfl⟩ q.out).mono ?_);rintro e P k
       obtain⟨A,z,y,rfl,d⟩:=k.cum;have o:=hid (c.out.next d)
       clear k d))
   go_roundw
   case rel=>exact⟨j+1,A,z,y,I7,by go_num,by have:=o.out;rw[show s.C++List.replicate (j+1) Ins.lve=s.C++List.replicate j Ins.lve++[Ins.lve]by rw[List.replicate_succ',List.append_assoc]];exact this⟩
   case measure=>simp[intOf];omega
  .have t:j=dS s:=by omega
   subst t;go_wp2_with (fail)
   go_end0
   exact((Cum.mono H.out Zb.drew).next c.out).post _
theorem lenB_def(l:List St)(d:Nat):qA l d=lB l (lenTs l) d:=rfl
theorem land_one'{C a D:List Ins}{x:Ins}{n i:Nat}(b:a=C++[x]++D)(c:i=C.length):jG n a [i]=C++[setTo n x]++D:=by
 subst b c;exact land_one C D x n
theorem jmp_one'{C a D:List Ins}{x:Ins}{i:Nat}(b:a=C++[x]++D)(c:i=C.length)(d:isJ x=true):JmpAt a [i]:=by
 subst b c;exact jmp_one C D x d
theorem wchoice_any{L B b m:Nat}(al:WLst L B b m)(k bg:Int)(name:ByteArray)(args:List Ex)(thn els:List St)(w:World)(v vc vb:Value)(s:WSt)(qs:List Q4)(K:WrS L B b w vc vb s qs)(aq:PtS B w v (.mk k bg name args thn els))(az:qC args 100=true)(ay:stsOK thn m=true)(am:stsOK els m=true)(D:Room s (zE args+2+qA thn (dS s)+qA els (dS s)) (m+1)):
 Calls Tryz.prog 139 #[.pointer (some ⟨b,0,none⟩),v] w (yi L B b w vc vb (jg s
  (zv args s.C.length++.unl (s.C.length+zE args+2+qA thn (dS s))::(jw thn (s.C.length+zE args+1) (dS s) s.lst 0++.jmp (s.C.length+zE args+2+qA thn (dS s)+qA els (dS s))::jw els (s.C.length+zE args+2+qA thn (dS s)) (dS s) s.lst 0))
  (bkB thn (s.C.length+zE args+1) (dS s)++bkB els (s.C.length+zE args+2+qA thn (dS s)) (dS s))) (.tuple #[])):=by
 obtain⟨g,o,rfl,ao,_,_,_,⟨bv,f3,av⟩,⟨bh,W,aw⟩,bi,X,ax⟩:=aq.cells;have bo:B<=w.heap.size:=by have:=K.hB;have:=K.hL;have:=K.lt;omega
 have ap:g<w.heap.size:=I7
 obtain⟨f,i⟩:∃x:WSt,x={ s with C:=s.C++zv args s.C.length }:=⟨_,rfl⟩
 obtain⟨a,j⟩:∃x:WSt,x={ f with C:=f.C++[Ins.unl 0] }:=⟨_,rfl⟩
 obtain⟨n,q⟩:∃x:WSt,x=jg a (jw thn a.C.length (dS a) a.lst 0) (bkB thn a.C.length (dS a)):=⟨_,rfl⟩
 obtain⟨l,r⟩:∃x:WSt,x={ n with C:=n.C++[Ins.jmp 0] }:=⟨_,rfl⟩
 obtain⟨c,t⟩:∃x:WSt,x={ l with C:=jG l.C.length l.C [f.C.length] }:=⟨_,rfl⟩
 obtain⟨E,J⟩:∃x:WSt,x=jg c (jw els c.C.length (dS c) c.lst 0) (bkB els c.C.length (dS c)):=⟨_,rfl⟩
 obtain⟨s7,P⟩:∃x:WSt,x={ E with C:=jG E.C.length E.C [n.C.length] }:=⟨_,rfl⟩
 have A:dS a=dS s:=by rw[j,i]
 have I:dS c=dS s:=by rw[t,r,q,j,i]
 have ad:f.C.length=s.C.length+zE args:=by rw[i];show(s.C++_).length=_;rw[List.length_append,qZ]
 have Q:a.C.length=s.C.length+zE args+1:=by rw[j];show(f.C++_).length=_;rw[List.length_append,ad];rfl
 have ae:n.C.length=s.C.length+zE args+1+qA thn (dS s):=by rw[q];show(a.C++_).length=_;rw[List.length_append,Q,genB_len,A]
 have af:l.C.length=s.C.length+zE args+2+qA thn (dS s):=by rw[r];show(n.C++[_]).length=_;rw[List.length_append,ae,List.length_singleton];omega
 have R:c.C.length=s.C.length+zE args+2+qA thn (dS s):=by rw[t];show(jG _ l.C _).length=_;rw[vY,af]
 have aG:E.C.length=s.C.length+zE args+2+qA thn (dS s)+qA els (dS s):=by rw[J];show(c.C++_).length=_;rw[List.length_append,R,genB_len,I]
 have a2:(bkB thn a.C.length (dS a)).length<=qA thn (dS s):=by rw[A];exact bB_len (fun b d=>v7 thn b d) _ _
 have bb:=D.len;have a5:=D.bk;have ar:Room a (qA thn (dS a)) (m+1):=⟨by rw[j,i];exact D.d,by rw[j,i];exact D.sc,by rw[Q,A];omega,by rw[A,j,i];show s.bk.length+_<=_;omega⟩
 have au:Room c (qA els (dS c)) (m+1):=⟨by rw[t,r,q,j,i];exact D.d,by rw[t,r,q,j,i];exact D.sc,by rw[R,I];omega,by
  have a4:c.bk=s.bk++bkB thn a.C.length (dS a):=by
   rw[t,r,q];show a.bk++_=_;rw[show a.bk=s.bk by rw[j,i]]
  rw[a4,I,List.length_append]
  omega⟩
 have u:l.C=f.C++[Ins.unl 0]++(jw thn a.C.length (dS a) a.lst 0++[Ins.jmp 0]):=by
  rw[r];show n.C++[Ins.jmp 0]=_;rw[q];show a.C++_++[Ins.jmp 0]=_;rw[<-List.append_assoc,show a.C=f.C++[Ins.unl 0]by rw[j]]
 have y:c.C=f.C++[Ins.unl l.C.length]++(jw thn a.C.length (dS a) a.lst 0++[Ins.jmp 0]):=by
  rw[t];exact land_one' u rfl
 have M:c.C=f.C++[Ins.unl l.C.length]++jw thn a.C.length (dS a) a.lst 0++[Ins.jmp 0]:=by rw[y,List.append_assoc,List.append_assoc,List.append_assoc]
 have z:E.C=(f.C++[Ins.unl l.C.length]++jw thn a.C.length (dS a) a.lst 0)++[Ins.jmp 0]++jw els c.C.length (dS c) c.lst 0:=by
  rw[J];show c.C++_=_;rw[M]
 have aa:n.C.length=(f.C++[Ins.unl l.C.length]++jw thn a.C.length (dS a) a.lst 0).length:=by rw[ae,List.length_append,List.length_append,ad,List.length_singleton,genB_len,A]
 have G:s7.C=(f.C++[Ins.unl l.C.length]++jw thn a.C.length (dS a) a.lst 0)++[Ins.jmp E.C.length]++jw els c.C.length (dS c) c.lst 0:=by
  rw[P];exact land_one' z aa
 have aU:=hid (jmp_one' u rfl rfl);have aV:=hid (jmp_one' z aa rfl)
 have an:s7=jg s (zv args s.C.length++.unl (s.C.length+zE args+2+qA thn (dS s))::(jw thn (s.C.length+zE args+1) (dS s) s.lst 0++.jmp (s.C.length+zE args+2+qA thn (dS s)+qA els (dS s))::jw els (s.C.length+zE args+2+qA thn (dS s)) (dS s) s.lst 0))
  (bkB thn (s.C.length+zE args+1) (dS s)++bkB els (s.C.length+zE args+2+qA thn (dS s)) (dS s)):=by
  have a3:s7={ s with C:=s7.C,bk:=s.bk++bkB thn a.C.length (dS a)++bkB els c.C.length (dS c) }:=by
   rw[P,J,t,r,q,j,i]
  have be:a.lst=s.lst:=by rw[j,i]
  have bf:c.lst=s.lst:=by rw[t,r,q,j,i]
  rw[a3,G,be,bf,A,I,Q,R,af,aG,show f.C=s.C++zv args s.C.length by rw[i]];simp[jg]
 have aT:=hid an;have a6:s.C.length+zE args<=1000000000:=I7
 have a7:f.C.length<=2000000000:=I7
 have a8:n.C.length<=2000000000:=I7
 have a9:l.C.length<=2000000000:=I7
 have ba:E.C.length<=2000000000:=I7
 have a0:=hid ar;have a1:=hid au;have T:=hid (And.intro av (And.intro aw ax));have S:=hid (And.intro az (And.intro ay am));have H:=hid K;have ak:=hid (And.intro W X);clear aq av aw ax az ay am D A I ad Q ae af R aG a2 bb a5 ar au u y M z aa G an K W X;have aJ:=hid i;have aK:=hid j;have aL:=hid q;have aM:=hid r;have aN:=hid t;have aO:=hid J;have aP:=hid P;clear i j q r t J P;go_enter Tryz.func139,Tryz.ntmps139
 go_upto_region 1 with(first
  | (go_at_call 142;(refine(uH (wexpr_all L B b 100) H.out T.out.1 S.out.1 a6).mono ?_);rintro e w1 aA
     obtain⟨bC,bw,br,rfl,U⟩:=aA.cum;rw[<-aJ.out]at U;have N:=hid U
     clear aA U))
 go_upto_region 2 with(first
  | (go_at_call 138;(refine(qB N.out.wr 4 0 none none (x:=.unl 0) ⟨rfl,rfl,rfl,rfl⟩ a7).mono ?_);rintro e aH aB
     obtain⟨bl,bj,bc,rfl,F⟩:=aB.cum;rw[<-aK.out]at F;have aQ:=hid (N.out.next F);have Y:=(N.out.next F).below H.out;have W:=(Y.cell (p:=⟨g,o+4,none⟩) ao).trans ak.out.1;have bp:g<aH.heap.size:=Nat.lt_of_lt_of_le ap (N.out.next F).off.size;have aW:=hid (al thn aH bh bl bj a bc F.wr (T.out.2.1.below Y Zr) S.out.2.1 a0.out)
     clear aB F Y))
 go_upto_region 3 with(first
  | (go_at_call 154;(refine aW.out.mono ?_);rintro e bF aC
     obtain⟨bD,bx,bs,rfl,V⟩:=aC.cum;rw[<-aL.out]at V;have ai:=hid (aQ.out.next V)
     clear aC V))
 go_upto_region 4 with(first
  | (go_at_call 138;(refine(qB ai.out.wr 3 0 none none (x:=.jmp 0) ⟨rfl,rfl,rfl,rfl⟩ a8).mono ?_);rintro e ag aD
     obtain⟨bm,bz,bt,rfl,u⟩:=aD.cum;rw[<-aM.out]at u;have O:=hid ((ai.out.next u).next (Cum.mono u.wr ((Below.refl ag.heap.size ag).alloc Zr (.cells #[.int .i64 (f.C.length:Int)] 3))));have aY:=hid (one_place ag f.C.length bm fun k ab=>(u.wr.tl (.inr (.inl ab))).2)
     clear aD u))
 go_upto_region 5 with(first
  | (go_at_call 155;(refine(vZ (ps:=[f.C.length]) O.out.wr aY.out aU.out a9 Ia).mono ?_);rintro e aI M
     obtain⟨bd,rfl,y⟩:=Cum.land M;rw[<-aN.out]at y;have aR:=hid (O.out.next y);have Z:=(O.out.next y).below H.out;have X:=(Z.cell (p:=⟨g,o+5,none⟩) ao).trans ak.out.2;have bq:g<aI.heap.size:=Nat.lt_of_lt_of_le ap (O.out.next y).off.size;have aX:=hid (al els aI bi _ _ c bd y.wr (T.out.2.2.below Z Zr) S.out.2.2 a1.out)
     clear M y Z))
 go_upto_region 6 with(first
  | (go_at_call 154;(refine aX.out.mono ?_);rintro e ah aE
     obtain⟨bn,bA,bu,rfl,z⟩:=aE.cum;rw[<-aO.out]at z;have aj:=hid ((aR.out.next z).next (Cum.mono z.wr ((Below.refl ah.heap.size ah).alloc Zr (.cells #[.int .i64 (n.C.length:Int)] 3))));have aZ:=hid (one_place ah n.C.length bn fun k ab=>(z.wr.tl (.inr (.inl ab))).2)
     clear aE z))
 go_wp2_with (first
  | (go_at_call 155;(refine(vZ (ps:=[n.C.length]) aj.out.wr aZ.out aV.out ba Ia).mono ?_);rintro e w7 aF
     obtain⟨qs7,rfl,G⟩:=Cum.land aF;rw[<-aP.out]at G;have aS:=hid (aj.out.next G)
     clear aF G))
 go_end0
 exact(aS.out.cast aT.out).post _
abbrev lpO(s:WSt)(vb:Value):Obj:=.cells #[.int .i64 (s.lst:Int),.int .i64 (s.lsc:Int),vb] 158
def repW(w:World)(b:Nat)(s:WSt)(vb:Value):World:=
 ((((w.setCell ⟨b,2,none⟩ (.int .i64 (s.C.length:Int))).setCell ⟨b,3,none⟩ (.int .i64 (s.sc:Int))).setCell ⟨b,4,none⟩ (.slice none 0 0)).alloc (lpO s vb)).drew
section
variable {L B b:Nat} {w w1 w7 w8:World} {vc vb vc7 vb7:Value} {s s7 s8:WSt} {qs qs7:List Q4}
theorem rep_start(a:WrS L B b w vc vb s qs)(j:w1=repW w b s vb):
 WrS L B b w1 vc (.slice none 0 0) { s with lst:=s.C.length,lsc:=s.sc,bk:=[] } qs/\OffX (fun k=>k=b) w w1/\w1.heap[w.heap.size]? =some (lpO s vb)/\w1.heap.size=w.heap.size+1:=by
 subst j;unfold repW;have l:OffX (fun k=>k=b) w (w.setCell ⟨b,2,none⟩ (.int .i64 (s.C.length:Int))):=OffX.set (X:=fun k=>k=b) _ rfl _ _;have m:=OffX.set (X:=fun k=>k=b) (w.setCell ⟨b,2,none⟩ (.int .i64 (s.C.length:Int))) rfl 3 (.int .i64 (s.sc:Int));have n:=OffX.set (X:=fun k=>k=b) ((w.setCell ⟨b,2,none⟩ (.int .i64 (s.C.length:Int))).setCell ⟨b,3,none⟩ (.int .i64 (s.sc:Int))) rfl 4 (.slice none 0 0);have d:=(l.trans m fun _ _ a=>a).trans n fun _ _ a=>a
 have f:=Lib.heap_setCell_same (i:=4) (Lib.heap_setCell_same (i:=3) (Lib.heap_setCell_same (i:=2) a.box (.int .i64 (s.C.length:Int))) (.int .i64 (s.sc:Int))) (.slice none 0 0);have e:(((w.setCell ⟨b,2,none⟩ (.int .i64 (s.C.length:Int))).setCell ⟨b,3,none⟩ (.int .i64 (s.sc:Int))).setCell ⟨b,4,none⟩ (.slice none 0 0)).heap.size=w.heap.size:=Id
 generalize((w.setCell ⟨b,2,none⟩ (.int .i64 (s.C.length:Int))).setCell ⟨b,3,none⟩ (.int .i64 (s.sc:Int))).setCell ⟨b,4,none⟩ (.slice none 0 0)=W at *;have g:WrS L B b W vc (.slice none 0 0) { s with lst:=s.C.length,lsc:=s.sc,bk:=[] } qs:=a.rebox d f rfl (World.ownsRow_nil _ _ _ _);have c:Below W.heap.size W (W.alloc (lpO s vb)).drew:=(Zb.alloc Zr _).drew;refine⟨g.keepB c,d.trans (OffX.of_below (fun _=>False) c) fun _ _ a=>a.elim,?_,?_⟩
 .rw[<-e]
  exact heap_alloc_new W _
 .rw[<-e]
  exact zA W _
theorem rep_end(d:WrS L B b w vc vb s qs)(g:OffX (fun k=>k=b) w w1)(f:Cum L B b w1 vc (.slice none 0 0) w7 vc7 vb7 s7 qs7)(i:OffX (fun k=>k=b) w7 w8)(n:w8.heap[b]? =some (wrO vc7 vb s8))(l:s8.C=s7.C)(m:s8.bk=s.bk):Cum L B b w vc vb w8 vc7 vb s8 qs7:=by
 have u:=d.lt;have q:=g.size;have o:∀k,vb.ownBlock=some k->k<w.heap.size/\k≠b/\vc.ownBlock≠some k:=fun k a=>⟨(qP d.brow k a).1,fun e=>d.bb (e ▸ a),fun e=>d.bc k e a⟩
 have p:OffX (WT b vc vb) w w8:=by
  refine((g.mono (Y:=WT b vc vb) fun k _ a=>.inl a).trans f.off fun k _ a=>?_).trans i fun k _ a=>.inl a
  rcases a with a|a|a
  .exact .inl a
  .exact .inr (.inl a)
  .cases a
 refine⟨f.wr.rebox i n l ?_,p,f.rc.mono q,RowTo.refl _ _⟩;rw[m];refine zm d.brow fun k a=>?_
 obtain⟨r,j,t⟩:=o k a
 have c:¬WT b vc (.slice none 0 0) k:=fun c=>by
  rcases c with c|c|c
  .exact j c
  .exact t c
  .cases c
 exact(i.block k (by have:=f.off.size;omega) j).trans ((f.off.block k I7 c).trans (g.block k r j))
theorem WrS.breaks(e:WrS L B b w vc vb s qs){d:Option Addr}{n c:Nat}(i:vb=.slice d n c):∀(j p:Nat),s.bk[j]? =some p->∃g o,d=some ⟨g,o,none⟩/\g<w.heap.size/\vc.ownBlock≠some g/\w.cell? ⟨g,o+j,none⟩=some (.int .i64 (p:Int)):=by
 intro j p f;obtain⟨g,q,a,_,l,_,k,_⟩:=yS e.brow (by have:=(List.getElem?_eq_some_iff.1 f).1;omega);rw[i]at a;injection a with a _ _;refine⟨g,0,a,l,fun m=>e.bc g m ?_,?_⟩
 .rw[i,a]
  rfl
 .rw[Nat.zero_add]
  exact k j _ (by rw[List.getElem?_map,f];rfl)
end
theorem genB_pt(n:Nat)(l:List St)(b d st:Nat):Pt n (jw l b d st 0) (jw l b d st n) b (bkB l b d):=gB_pt (fun b d=>genTs_pt n l b d st) b d
theorem wrep_any{L B b m:Nat}(bp:WLst L B b m)(k bK:Int)(name:ByteArray)(args:List Ex)(thn els:List St)(w:World)(v vc vb:Value)(s:WSt)(qs:List Q4)(l:WrS L B b w vc vb s qs)(aI:PtS B w v (.mk k bK name args thn els))(D:qC args 100=true)(aP:stsOK thn m=true)(af:Room s (zE args+2+qA thn 0) (m+1)):
 Calls Tryz.prog 140 #[.pointer (some ⟨b,0,none⟩),v] w (yi L B b w vc vb { s with C:=s.C++
  (zv args s.C.length++.unl (s.C.length+zE args+2+qA thn 0)::(jw thn (s.C.length+zE args+1) 0 s.C.length (s.C.length+zE args+2+qA thn 0)++[.jmp s.C.length])) } (.tuple #[])):=by
 obtain⟨g,o,rfl,aH,_,_,_,⟨b8,f3,aM⟩,⟨bL,al,aN⟩,b9,bo,bD⟩:=aI.cells;have bT:B<=w.heap.size:=by have:=l.hB;have:=l.hL;have:=l.lt;omega
 have bV:g<w.heap.size:=I7
 obtain⟨J,y⟩:∃x:WSt,x={ s with lst:=s.C.length,lsc:=s.sc,bk:=[] }:=⟨_,rfl⟩
 obtain⟨j,q⟩:∃x:WSt,x={ J with C:=J.C++zv args J.C.length }:=⟨_,rfl⟩
 obtain⟨a,r⟩:∃x:WSt,x={ j with C:=j.C++[Ins.unl 0] }:=⟨_,rfl⟩
 obtain⟨F,E⟩:∃x:WSt,x=jg a (jw thn a.C.length (dS a) a.lst 0) (bkB thn a.C.length (dS a)):=⟨_,rfl⟩
 obtain⟨t,G⟩:∃x:WSt,x={ F with C:=F.C++[Ins.jmp s.C.length] }:=⟨_,rfl⟩
 obtain⟨f,I⟩:∃x:WSt,x={ t with C:=jG t.C.length t.C [j.C.length] }:=⟨_,rfl⟩
 obtain⟨P,Z⟩:∃x:WSt,x={ f with C:=jG f.C.length f.C f.bk }:=⟨_,rfl⟩
 have ai:J.C=s.C:=by rw[y]
 have O:dS a=0:=by rw[r,q,y];exact Nat.sub_self _
 have aw:a.lst=s.C.length:=by rw[r,q,y]
 have aY:F.lst=s.C.length:=by rw[E];exact aw
 have au:j.C.length=s.C.length+zE args:=by rw[q];show(J.C++_).length=_;rw[List.length_append,qZ,ai]
 have ab:a.C.length=s.C.length+zE args+1:=by rw[r];show(j.C++_).length=_;rw[List.length_append,au];rfl
 have aW:F.C.length=s.C.length+zE args+1+qA thn 0:=by rw[E];show(a.C++_).length=_;rw[List.length_append,ab,genB_len,O]
 have av:t.C.length=s.C.length+zE args+2+qA thn 0:=by rw[G];show(F.C++[_]).length=_;rw[List.length_append,aW,List.length_singleton];omega
 have aX:f.C.length=s.C.length+zE args+2+qA thn 0:=by rw[I];show(jG _ t.C _).length=_;rw[vY,av]
 have ae:f.bk=bkB thn a.C.length 0:=by
  rw[I,G,E];show a.bk++_=_;rw[show a.bk=[]by rw[r,q,y],O,List.nil_append]
 have bm:(bkB thn a.C.length 0).length<=qA thn 0:=bB_len (fun b d=>v7 thn b d) _ _;have bz:=af.len;have bq:=af.bk;have aL:Room a (qA thn (dS a)) (m+1):=⟨by rw[r,q,y];exact Nat.le_refl _,by rw[r,q,y];exact af.sc,by rw[ab,O];omega,by rw[O,r,q,y];show 0+_<=_;omega⟩
 have z:t.C=j.C++[Ins.unl 0]++(jw thn a.C.length 0 s.C.length 0++[Ins.jmp s.C.length]):=by
  rw[G];show F.C++[Ins.jmp _]=_;rw[E];show a.C++_++[Ins.jmp _]=_;rw[<-List.append_assoc,O,aw,show a.C=j.C++[Ins.unl 0]by rw[r]]
 have u:f.C=(j.C++[Ins.unl t.C.length])++jw thn a.C.length 0 s.C.length 0++[Ins.jmp s.C.length]:=by
  rw[I];have:=land_one' z rfl (n:=t.C.length);rw[<-List.append_assoc]at this;exact this
 have aF:(j.C++[Ins.unl t.C.length]).length=a.C.length:=by rw[List.length_append,List.length_singleton,au,ab]
 have aq:=(genB_pt f.C.length thn a.C.length 0 s.C.length).2 (j.C++[Ins.unl t.C.length]) [Ins.jmp s.C.length] aF
 have A:P.C=(j.C++[Ins.unl t.C.length])++jw thn a.C.length 0 s.C.length f.C.length++[Ins.jmp s.C.length]:=by
  rw[Z];show jG f.C.length f.C f.bk=_;rw[ae,<-aq.1,<-u]
 have ba:=hid (jmp_one' z rfl rfl);have bb:=hid (show JmpAt f.C f.bk by rw[ae,u];exact aq.2)
 have aG:({ P with lst:=s.lst,lsc:=s.lsc,bk:=s.bk }:WSt)={ s with C:=s.C++
  (zv args s.C.length++.unl (s.C.length+zE args+2+qA thn 0)::(jw thn (s.C.length+zE args+1) 0 s.C.length (s.C.length+zE args+2+qA thn 0)++[.jmp s.C.length])) }:=by
  have bn:({ P with lst:=s.lst,lsc:=s.lsc,bk:=s.bk }:WSt)={ s with C:=P.C }:=by
   rw[Z,I,G,E,r,q,y]
  rw[bn,A,ab,aX,av,show j.C=s.C++zv args s.C.length by rw[q];show J.C++_=_;rw[ai]];simp
 have a9:=hid aG;have bt:J.C.length+zE args<=1000000000:=by rw[ai];omega
 have bu:j.C.length<=2000000000:=I7
 have bv:F.C.length<=2000000000:=I7
 have bw:t.C.length<=2000000000:=I7
 have bx:f.C.length<=2000000000:=I7
 have bs:f.bk.length<=2000000000:=by rw[ae];omega
 have bg:=hid aL;have aE:=hid (And.intro aM aN);have aD:=hid (And.intro D aP);have aC:=hid (And.intro f3 al);have bi:=hid (show F.lst=s.C.length from aY);have bR:=hid (show P.sc=s.sc by rw[Z,I,G,E,r,q,y]);obtain⟨ay,c,rfl⟩:=zU l.row;obtain⟨Q,W,rfl⟩:=zU l.brow;obtain⟨⟨R,S,K,T,M⟩,U⟩:=zQ l.box;have bW:=l.lt;have H:=hid l;clear aI aM aN bD D aP af O aw aY au ab aW av aX ae bm bz bq aL z u A aF aq aG l f3 al bo ai;have a0:=hid y;have a1:=hid q;have a2:=hid r;have a3:=hid E;have a4:=hid G;have a5:=hid I;have a6:=hid Z;clear y q r E G I Z;go_enter Tryz.func140,Tryz.ntmps140;go_upto_region 1 with(fail);go_wp2_with (fail)
 go_region
 generalize ah:((((w.setCell ⟨b,2,none⟩ (.int .i64 (s.C.length:Int))).setCell ⟨b,3,none⟩ (.int .i64 (s.sc:Int))).setCell ⟨b,4,none⟩ (.slice none 0 0)).alloc (.cells #[.int .i64 (s.lst:Int),.int .i64 (s.lsc:Int),.slice Q s.bk.length W] 158)).drew=w1;replace ah:w1=repW w b s (.slice Q s.bk.length W):=ah.symm;have aO:=rep_start H.out ah;rw[<-a0.out]at aO;clear ah R S K T M U;obtain⟨ag,ap,aJ,bZ⟩:=aO;have am:=(H.out.below (ap.mono (Y:=WT b (.slice ay s.C.length c) (.slice Q s.bk.length W)) fun k _ ao=>.inl ao)).mono H.out.hB;have f3:=(am.cell (p:=⟨g,o+3,none⟩) aH).trans aC.out.1;have br:g<w1.heap.size:=I7
 have bQ:=hid (Cum.start ag);have bh:=hid ag;have bd:=hid ap;have be:=hid aJ;have bj:=hid (uH (wexpr_all L B b 100) ag (aE.out.1.below am Zr) aD.out.1 bt);clear ag ap aJ
 go_upto_region 3 with(first
  | (go_at_call 142;(refine bj.out.mono ?_);rintro e cf aQ
     obtain⟨cd,ca,b0,rfl,ak⟩:=aQ.cum;rw[<-a1.out]at ak;have ad:=hid ak
     clear aQ ak))
 go_upto_region 4 with(first
  | (go_at_call 138;(refine(qB ad.out.wr 4 0 none none (x:=.unl 0) ⟨rfl,rfl,rfl,rfl⟩ bu).mono ?_);rintro e aZ aR
     obtain⟨bN,bM,bJ,rfl,N⟩:=aR.cum;rw[<-a2.out]at N;have a8:=hid (ad.out.next N);have an:=am.trans ((ad.out.next N).below bh.out);have al:=(an.cell (p:=⟨g,o+4,none⟩) aH).trans aC.out.2;have bU:g<aZ.heap.size:=Nat.lt_of_lt_of_le br (ad.out.next N).off.size;have bc:=hid (bp thn aZ bL bN bM a bJ N.wr (aE.out.2.below an Zr) aD.out.2 bg.out)
     clear aR N an))
 go_upto_region 5 with(first
  | (go_at_call 154;(refine bc.out.mono ?_);rintro e cg aS
     obtain⟨ce,cb,b1,rfl,V⟩:=aS.cum;rw[<-a3.out]at V;have az:=hid (a8.out.next V);obtain⟨⟨R,S,K,T,M⟩,U⟩:=zQ V.wr.box;rw[bi.out]at K;have bA:=V.wr.lt
     clear aS V))
 go_upto_region 6 with(first
  | (go_at_call 138;(refine(qB az.out.wr 3 (s.C.length:Int) none none (x:=.jmp s.C.length) ⟨rfl,rfl,rfl,rfl⟩ bv).mono ?_);rintro e ax aT
     obtain⟨bO,cc,b2,rfl,z⟩:=aT.cum;rw[<-a4.out]at z;have aA:=hid ((az.out.next z).next (Cum.mono z.wr ((Below.refl ax.heap.size ax).alloc Zr (.cells #[.int .i64 (j.C.length:Int)] 3))));have bf:=hid (one_place ax j.C.length bO fun k ao=>(z.wr.tl (.inr (.inl ao))).2)
     clear aT z R S K T M U bA))
 go_upto_region 7 with(first
  | (go_at_call 155;(refine(vZ (ps:=[j.C.length]) aA.out.wr bf.out ba.out bw Ia).mono ?_);rintro e ch aU
     obtain⟨b3,rfl,u⟩:=Cum.land aU;rw[<-a5.out]at u;obtain⟨bP,bS,ar⟩:=zU u.wr.brow;have aj:=hid (aA.out.next u);obtain⟨⟨R,S,K,T,M⟩,U⟩:=zQ u.wr.box;have bC:=u.wr.lt;rw[ar]at M;have a7:=hid (u.wr.breaks ar)
     clear aU u ar))
 go_upto_region 8 with(first
  | (go_at_call 155;(refine(vZ (ps:=f.bk) aj.out.wr a7.out bb.out bx bs).mono ?_);rintro e w7 aV
     obtain⟨b4,rfl,A⟩:=Cum.land aV;rw[<-a6.out]at A;have aB:=hid (aj.out.next A);obtain⟨⟨ci,cj,ck,cl,cm⟩,cn⟩:=zQ A.wr.box;have bX:=A.wr.lt
     have aK:¬WT b (.slice ay s.C.length c) (.slice none 0 0) w.heap.size:=fun D=>by
      rcases D with D|D|D
      .omega
      .have:=(H.out.tl (.inr (.inl D))).2
       omega
      .cases D
     have aa:=(aj.out.next A).off.at aK be.out;have b5:=(Lib.cell_of_heap aa 0).trans rfl;have b6:=(Lib.cell_of_heap aa 1).trans rfl;have b7:=(Lib.cell_of_heap aa 2).trans rfl;have bY:=zB aa
     clear aV A aa aK R S K T M U bC))
 go_wp2_with (fail)
 go_end0
 have bl:=Lib.heap_setCell_same (i:=4) (Lib.heap_setCell_same (i:=3) (Lib.heap_setCell_same (i:=2) aB.out.wr.box (.int .i64 (s.lst:Int))) (.int .i64 (s.lsc:Int))) (.slice Q s.bk.length W);have bF:OffX (fun k=>k=b) w7 (w7.setCell ⟨b,2,none⟩ (.int .i64 (s.lst:Int))):=OffX.set (X:=fun k=>k=b) _ rfl _ _;have bG:=OffX.set (X:=fun k=>k=b) (w7.setCell ⟨b,2,none⟩ (.int .i64 (s.lst:Int))) rfl 3 (.int .i64 (s.lsc:Int));have bH:=OffX.set (X:=fun k=>k=b) ((w7.setCell ⟨b,2,none⟩ (.int .i64 (s.lst:Int))).setCell ⟨b,3,none⟩ (.int .i64 (s.lsc:Int))) rfl 4 (.slice Q s.bk.length W);have bI:=(bF.trans bG fun _ _ l=>l).trans bH fun _ _ l=>l
 exact((rep_end H.out bd.out aB.out bI (s8:={ P with lst:=s.lst,lsc:=s.lsc,bk:=s.bk }) bl rfl rfl).cast a9.out).post _
theorem WrS.addbk{L B b:Nat}{w W w8:World}{vc vb c:Value}{s:WSt}{qs:List Q4}(a:WrS L B b w vc vb s qs)(f:Below w.heap.size w W)(j:W.grownBy w8 vb.ownBlock)(y:xG W vb c){n:Nat}(o:w8.ownsRow L 3 1 c (s.bk.length+1) (bkV s.bk++[.int .i64 (n:Int)])):
 w8.heap[b]? =some (wrO vc vb s)/\Cum L B b w vc vb (w8.setCell ⟨b,4,none⟩ c) vc c { s with bk:=s.bk++[n] } qs:=by
 have q:=f.size;have g:w8.heap[b]? =some (wrO vc vb s):=((j.block b (Nat.lt_of_lt_of_le a.lt q) fun e=>a.bb e.symm).trans (f.block b a.lt)).trans a.box;have t:c.ownBlock≠some b:=vu o (show Is w8 b 160 #[vc,.int .i64 (s.sc:Int),.int .i64 (s.lst:Int),.int .i64 (s.lsc:Int),vb]from g) I8
 have m:OffX (WT b vc vb) w (w8.setCell ⟨b,4,none⟩ c):=
  ((OffX.of_below (WT b vc vb) f).trans (OffX.grown (X:=WT b vc vb) j fun k d=>.inr (.inr d)) fun _ _ l=>l).trans (OffX.set (X:=WT b vc vb) w8 (.inl rfl) 4 c) fun _ _ l=>l
 have r:=(a.below m).mono a.hB;refine⟨g,⟨a.hB,a.hL,Lib.heap_setCell_same g _,?_,a.ql,fun i A p z x=>(a.qi i A p z x).below r Zr,?_⟩,m,RowTo.refl _ _,RowTo.of_at y q⟩
 .refine zm a.row fun k d=>?_
  have v:=(qP a.row k d).1;have u:k≠b:=fun e=>a.cb (e ▸ d)
  exact(Below.heap_setCell w8 _ _ k u).trans ((j.block k I7 fun e=>a.bc k d e.symm).trans (f.block k v))
 .show(w8.setCell _ _).ownsRow L _ 1 c (s.bk++[n]).length (bkV (s.bk++[n]))
  rw[List.length_append,show bkV (s.bk++[n])=bkV s.bk++[.int .i64 (n:Int)]by simp[bkV]];exact zm o fun k d=>Below.heap_setCell w8 _ _ k (fun e=>t Ut)
section
variable {L B b m:Nat}
theorem wstmt_if(U:WLst L B b m)(f:Int)(name:ByteArray)(args:List Ex)(thn els:List St)(w:World)(v vc vb:Value)(s:WSt)(qs:List Q4)(k:WrS L B b w vc vb s qs)(u:PtS B w v (.mk 4 f name args thn els))(F:qC args 100=true)(E:stsOK thn m=true)(z:stsOK els m=true)(j:Room s (kn (.mk 4 f name args thn els) (dS s)) (m+1)):
 Calls Tryz.prog 112 #[.pointer (some ⟨b,0,none⟩),v] w (yi L B b w vc vb (jg s (kN (.mk 4 f name args thn els) s.C.length (dS s) s.lst 0) (bkT (.mk 4 f name args thn els) s.C.length (dS s))) (.tuple #[])):=by
 obtain⟨g,o,rfl,W,r,_⟩:=u.cells;have ae:B<=w.heap.size:=Ul
 have X:g<w.heap.size:=I7
 obtain⟨a,c⟩:∃x:WSt,x={ s with C:=s.C++[Ins.beg] }:=⟨_,rfl⟩
 have y:a.C.length=s.C.length+1:=Qq
 have l:dS a=dS s:=by rw[c]
 rw[kn,if_pos rfl]at j;have Z:=j.len;have V:=j.bk;have T:=lenB_def thn (dS s);have S:=lenB_def els (dS s);have D:Room a (zE args+2+qA thn (dS a)+qA els (dS a)) (m+1):=⟨by rw[c];exact j.d,by rw[c];exact j.sc,by rw[y,l];omega,by rw[l,c];show s.bk.length+_<=_;omega⟩
 have A:jg a
  (zv args a.C.length++.unl (a.C.length+zE args+2+qA thn (dS a))::(jw thn (a.C.length+zE args+1) (dS a) a.lst 0++.jmp (a.C.length+zE args+2+qA thn (dS a)+qA els (dS a))::jw els (a.C.length+zE args+2+qA thn (dS a)) (dS a) a.lst 0))
  (bkB thn (a.C.length+zE args+1) (dS a)++bkB els (a.C.length+zE args+2+qA thn (dS a)) (dS a))=jg s (kN (.mk 4 f name args thn els) s.C.length (dS s) s.lst 0) (bkT (.mk 4 f name args thn els) s.C.length (dS s)):=by
  rw[kN,bkT,if_pos rfl,if_pos rfl,y,l,show s.C.length+1+zE args+1=s.C.length+zE args+2 by omega,show s.C.length+1+zE args+2+qA thn (dS s)=s.C.length+zE args+3+qA thn (dS s)by omega,c];unfold jw bkB qA;simp[jg]
 have O:=hid A;have Y:s.C.length<=2000000000:=I7
 have H:=hid k;have P:=hid u;have n:=hid (And.intro F (And.intro E z));have Q:=hid D;have N:=hid r;have J:=hid c;clear k u F E z D r c y l j Z V T S A;go_enter Tryz.func112,Tryz.ntmps112
 go_upto_region 1 with(first
  | (go_at_call 138;(refine(qB H.out 0 0 none none (x:=.beg) ⟨rfl,rfl,rfl,rfl⟩ Y).mono ?_);rintro e w1 G
     obtain⟨ad,ab,aa,rfl,i⟩:=G.cum;rw[<-J.out]at i;have K:=hid i;have t:=i.below H.out;have r:=(t.cell (p:=⟨g,o,none⟩) W).trans N.out;have af:g<w1.heap.size:=Nat.lt_of_lt_of_le X i.off.size;have R:=hid (wchoice_any U 4 f name args thn els w1 _ ad ab a aa i.wr (P.out.below t Zr) n.out.1 n.out.2.1 n.out.2.2 Q.out)
     clear G i t))
 go_wp2_with (first
  | (go_at_call 139;(refine R.out.mono ?_);rintro e aj I
     obtain⟨ai,ah,ag,rfl,q⟩:=I.cum;rw[O.out]at q;have M:=hid (K.out.next q)
     clear I q))
 go_end0
 exact M.out.post _
theorem wstmt_while(R:WLst L B b m)(f:Int)(name:ByteArray)(args:List Ex)(thn els:List St)(w:World)(v vc vb:Value)(s:WSt)(qs:List Q4)(k:WrS L B b w vc vb s qs)(r:PtS B w v (.mk 5 f name args thn els))(D:qC args 100=true)(A:stsOK thn m=true)(j:Room s (kn (.mk 5 f name args thn els) (dS s)) (m+1)):
 Calls Tryz.prog 112 #[.pointer (some ⟨b,0,none⟩),v] w (yi L B b w vc vb (jg s (kN (.mk 5 f name args thn els) s.C.length (dS s) s.lst 0) (bkT (.mk 5 f name args thn els) s.C.length (dS s))) (.tuple #[])):=by
 obtain⟨g,o,rfl,T,n,_⟩:=r.cells;have aa:B<=w.heap.size:=Ul
 have U:g<w.heap.size:=I7
 obtain⟨a,c⟩:∃x:WSt,x={ s with C:=s.C++[Ins.beg] }:=⟨_,rfl⟩
 have t:a.C.length=s.C.length+1:=Qq
 rw[kn,if_neg I8,if_pos rfl]at j;have W:=j.len;have S:=j.bk;have Q:=lenB_def thn 0;have z:Room a (zE args+2+qA thn 0) (m+1):=⟨by rw[c];exact j.d,by rw[c];exact j.sc,by rw[t];omega,by rw[c];show s.bk.length+_<=_;omega⟩
 have y:({ a with C:=a.C++
  (zv args a.C.length++.unl (a.C.length+zE args+2+qA thn 0)::(jw thn (a.C.length+zE args+1) 0 a.C.length (a.C.length+zE args+2+qA thn 0)++[.jmp a.C.length])) }:WSt)=jg s (kN (.mk 5 f name args thn els) s.C.length (dS s) s.lst 0) (bkT (.mk 5 f name args thn els) s.C.length (dS s)):=by
  rw[kN,bkT,if_neg I8,if_pos rfl,if_neg I8,if_neg I8,t,show s.C.length+1+zE args+1=s.C.length+zE args+2 by omega,show s.C.length+1+zE args+2+qA thn 0=s.C.length+zE args+3+qA thn 0 by omega,c];unfold jw qA;simp[jg]
 have M:=hid y;have V:s.C.length<=2000000000:=I7
 have H:=hid k;have N:=hid r;have u:=hid (And.intro D A);have O:=hid z;have K:=hid n;have G:=hid c;clear k r D A z n c t j W S Q y;go_enter Tryz.func112,Tryz.ntmps112
 go_upto_region 1 with(first
  | (go_at_call 138;(refine(qB H.out 0 0 none none (x:=.beg) ⟨rfl,rfl,rfl,rfl⟩ V).mono ?_);rintro e w1 E
     obtain⟨Z,Y,X,rfl,i⟩:=E.cum;rw[<-G.out]at i;have I:=hid i;have q:=i.below H.out;have n:=(q.cell (p:=⟨g,o,none⟩) T).trans K.out;have ab:g<w1.heap.size:=Nat.lt_of_lt_of_le U i.off.size;have P:=hid (wrep_any R 5 f name args thn els w1 _ Z Y a X i.wr (N.out.below q Zr) u.out.1 u.out.2 O.out)
     clear E i q))
 go_wp2_with (first
  | (go_at_call 140;(refine P.out.mono ?_);rintro e ag F
     obtain⟨af,ae,ad,rfl,l⟩:=F.cum;rw[M.out]at l;have J:=hid (I.out.next l)
     clear F l))
 go_end0
 exact J.out.post _
theorem wstmt_cont(i:Int)(name:ByteArray)(args:List Ex)(thn els:List St)(w:World)(v vc vb:Value)(s:WSt)(qs:List Q4)(l:WrS L B b w vc vb s qs)(F:PtS B w v (.mk 7 i name args thn els))(n:Room s (kn (.mk 7 i name args thn els) (dS s)) (m+1)):
 Calls Tryz.prog 112 #[.pointer (some ⟨b,0,none⟩),v] w (yi L B b w vc vb (jg s (kN (.mk 7 i name args thn els) s.C.length (dS s) s.lst 0) (bkT (.mk 7 i name args thn els) s.C.length (dS s))) (.tuple #[])):=by
 obtain⟨g,o,rfl,U,y,_⟩:=F.cells;have aj:B<=w.heap.size:=by have:=l.hB;have:=l.hL;have:=l.lt;omega
 have V:g<w.heap.size:=I7
 obtain⟨a,c⟩:∃x:WSt,x={ s with C:=s.C++[Ins.beg] }:=⟨_,rfl⟩
 obtain⟨q,k⟩:∃x:WSt,x={ a with C:=a.C++List.replicate (dS a) .lve }:=⟨_,rfl⟩
 have z:a.C.length=s.C.length+1:=Qq
 have r:dS a=dS s:=by rw[c]
 have Z:q.C.length=s.C.length+1+dS s:=by rw[k];show(a.C++_).length=_;rw[List.length_append,List.length_replicate,z,r]
 rw[kn,if_neg I8,if_neg I8,if_pos (Or.inr rfl)]at n;have Y:=n.len
 have E:({ q with C:=q.C++[Ins.jmp s.lst] }:WSt)=jg s (kN (.mk 7 i name args thn els) s.C.length (dS s) s.lst 0) (bkT (.mk 7 i name args thn els) s.C.length (dS s)):=by
  rw[kN,bkT,if_neg I8,if_neg I8,if_neg I8,if_pos rfl,if_neg I8,if_neg I8,k,r,c];simp[jg]
 have Q:=hid E;have W:s.C.length<=2000000000:=I7
 have X:q.C.length<=2000000000:=I7
 have t:=hid (And.intro (show a.lsc<=a.sc by rw[c];exact n.d) (And.intro (show a.sc<=1000 by rw[c];show s.sc<=1000;have:=n.sc;omega) (show a.C.length+dS a<=1000000000 by rw[z,r];omega)));have R:=hid (show q.lst=s.lst by rw[k,c]);have H:=hid l;have P:=hid y;have K:=hid c;have M:=hid k;clear l F y c k z Z r n Y E;go_enter Tryz.func112,Tryz.ntmps112
 go_upto_region 1 with(first
  | (go_at_call 138;(refine(qB H.out 0 0 none none (x:=.beg) ⟨rfl,rfl,rfl,rfl⟩ W).mono ?_);rintro e w1 G
     obtain⟨ad,ab,aa,rfl,f⟩:=G.cum;rw[<-K.out]at f;have N:=hid f;have D:=f.below H.out;have y:=(D.cell (p:=⟨g,o,none⟩) U).trans P.out;have ak:g<w1.heap.size:=Nat.lt_of_lt_of_le V f.off.size;have S:=hid (wleave_any w1 ad ab a aa f.wr t.out.1 t.out.2.1 t.out.2.2)
     clear G f D))
 go_upto_region 13 with(first
  | (go_at_call 141;(refine S.out.mono ?_);rintro e au I
     obtain⟨aq,ao,am,rfl,j⟩:=I.cum;rw[<-M.out]at j;have A:=hid (N.out.next j);obtain⟨⟨ae,af,T,ag,ah⟩,ai⟩:=zQ j.wr.box;have al:=j.wr.lt;rw[R.out]at T
     clear I j))
 go_wp2_with (first
  | (go_at_call 138;(refine(qB A.out.wr 3 (s.lst:Int) none none (x:=.jmp s.lst) ⟨rfl,rfl,rfl,rfl⟩ X).mono ?_);rintro e av J
     obtain⟨ar,ap,an,rfl,u⟩:=J.cum;rw[Q.out]at u;have O:=hid (A.out.next u)
     clear J u))
 go_end0
 exact O.out.post _
theorem wstmt_rest(k a:Int)(name:ByteArray)(args:List Ex)(thn els:List St)(w:World)(v vc vb:Value)(s:WSt)(qs:List Q4)(f:WrS L B b w vc vb s qs)(E:PtS B w v (.mk k a name args thn els))(T:qC args 100=true)(i:¬k=4)(q:¬k=5)(r:¬k=6)(A:¬k=7)(D:Room s (kn (.mk k a name args thn els) (dS s)) (m+1)):
 Calls Tryz.prog 112 #[.pointer (some ⟨b,0,none⟩),v] w (yi L B b w vc vb (jg s (kN (.mk k a name args thn els) s.C.length (dS s) s.lst 0) (bkT (.mk k a name args thn els) s.C.length (dS s))) (.tuple #[])):=by
 obtain⟨g,o,rfl,R,z,_,_,⟨av,f3,S⟩,_⟩:=E.cells;have al:B<=w.heap.size:=by have:=f.hB;have:=f.hL;have:=f.lt;omega
 have af:g<w.heap.size:=I7
 obtain⟨d,l⟩:∃x:WSt,x={ s with C:=s.C++[Ins.beg] }:=⟨_,rfl⟩
 obtain⟨u,n⟩:∃x:WSt,x={ d with C:=d.C++zv args d.C.length }:=⟨_,rfl⟩
 have F:d.C.length=s.C.length+1:=by rw[l];show(s.C++_).length=_;rw[List.length_append,List.length_singleton]
 have ak:u.C.length=s.C.length+1+zE args:=by rw[n];show(d.C++_).length=_;rw[List.length_append,qZ,F]
 rw[kn,if_neg i,if_neg q,if_neg I7]at D;have aj:=D.len
 have Q:({ u with C:=u.C++[Ins.fin (.mk k a name args thn els)] }:WSt)=jg s (kN (.mk k a name args thn els) s.C.length (dS s) s.lst 0) (bkT (.mk k a name args thn els) s.C.length (dS s)):=by
  rw[kN,bkT,if_neg i,if_neg q,if_neg r,if_neg A,if_neg i,if_neg r,n,F,l];simp[jg]
 have aa:=hid Q;have ag:s.C.length<=2000000000:=I7
 have ah:d.C.length+zE args<=1000000000:=I7
 have ai:u.C.length<=2000000000:=I7
 obtain⟨q4,M⟩:∃x:Bool,(k == 4)=x/\x=false:=⟨_,rfl,by simpa using i⟩
 obtain⟨an,N⟩:∃x:Bool,(k == 5)=x/\x=false:=⟨_,rfl,by simpa using q⟩
 obtain⟨ao,O⟩:∃x:Bool,(k == 6)=x/\x=false:=⟨_,rfl,by simpa using r⟩
 obtain⟨ap,P⟩:∃x:Bool,(k == 7)=x/\x=false:=⟨_,rfl,by simpa using A⟩
 obtain⟨M,rfl⟩:=M;obtain⟨N,rfl⟩:=N;obtain⟨O,rfl⟩:=O;obtain⟨P,rfl⟩:=P;have H:=hid f;have ab:=hid E;have K:=hid (And.intro T S);have J:=hid (And.intro z f3);have X:=hid l;have Y:=hid n;clear f E T z f3 S l n F ak D aj Q i q r A;go_enter Tryz.func112,Tryz.ntmps112
 go_upto_region 1 with(first
  | (go_at_call 138;(refine(qB H.out 0 0 none none (x:=.beg) ⟨rfl,rfl,rfl,rfl⟩ ag).mono ?_);rintro e w1 U
     obtain⟨az,aw,aq,rfl,c⟩:=U.cum;rw[<-X.out]at c;have G:=hid c;have t:=c.below H.out;have z:=(t.cell (p:=⟨g,o,none⟩) R).trans J.out.1;have f3:=(t.cell (p:=⟨g,o+3,none⟩) R).trans J.out.2;have am:g<w1.heap.size:=Nat.lt_of_lt_of_le af c.off.size;have ae:=hid (uH (wexpr_all L B b 100) c.wr (K.out.2.below t Zr) K.out.1 ah)
     clear U c t))
 go_upto_region 3 with(first
  | (go_at_call 142;(refine ae.out.mono ?_);rintro e aC V
     obtain⟨aA,ax,ar,rfl,j⟩:=V.cum;rw[<-Y.out]at j;have I:=hid (G.out.next j);have ad:=hid (ab.out.below ((G.out.next j).below H.out) Zr)
     clear V j))
 go_wp2_with (first
  | (go_at_call 138;(refine(qB I.out.wr 2 0 none (some ⟨g,o,none⟩) (x:=.fin (.mk k a name args thn els)) ⟨rfl,rfl,rfl,ad.out⟩ ai).mono ?_);rintro e aD W
     obtain⟨aB,ay,au,rfl,y⟩:=W.cum;rw[aa.out]at y;have Z:=hid (I.out.next y)
     clear W y))
 go_end0
 exact Z.out.post _
theorem wstmt_break(r:Int)(name:ByteArray)(args:List Ex)(thn els:List St)(w:World)(v vc vb:Value)(s:WSt)(qs:List Q4)(u:WrS L B b w vc vb s qs)(V:PtS B w v (.mk 6 r name args thn els))(q:Room s (kn (.mk 6 r name args thn els) (dS s)) (m+1)):
 Calls Tryz.prog 112 #[.pointer (some ⟨b,0,none⟩),v] w (yi L B b w vc vb (jg s (kN (.mk 6 r name args thn els) s.C.length (dS s) s.lst 0) (bkT (.mk 6 r name args thn els) s.C.length (dS s))) (.tuple #[])):=by
 obtain⟨aA,T,Y,Z,aa⟩:=info_parts vk;obtain⟨g,o,rfl,av,E,_⟩:=V.cells;have aP:B<=w.heap.size:=by have:=u.hB;have:=u.hL;have:=u.lt;omega
 have aw:g<w.heap.size:=I7
 obtain⟨c,i⟩:∃x:WSt,x={ s with C:=s.C++[Ins.beg] }:=⟨_,rfl⟩
 obtain⟨a,t⟩:∃x:WSt,x={ c with C:=c.C++List.replicate (dS c) .lve }:=⟨_,rfl⟩
 obtain⟨I,D⟩:∃x:WSt,x={ a with C:=a.C++[Ins.jmp 0] }:=⟨_,rfl⟩
 have N:c.C.length=s.C.length+1:=by rw[i];show(s.C++_).length=_;rw[List.length_append,List.length_singleton]
 have A:dS c=dS s:=by rw[i]
 have ae:a.C.length=s.C.length+1+dS s:=by rw[t];show(c.C++_).length=_;rw[List.length_append,List.length_replicate,N,A]
 rw[kn,if_neg I8,if_neg I8,if_pos (Or.inl rfl)]at q;have az:=q.len
 have y:({ I with bk:=I.bk++[a.C.length] }:WSt)=jg s (kN (.mk 6 r name args thn els) s.C.length (dS s) s.lst 0) (bkT (.mk 6 r name args thn els) s.C.length (dS s)):=by
  rw[kN,bkT,if_neg I8,if_neg I8,if_pos rfl,if_neg I8,if_pos rfl,ae,D,t,A,i];simp[jg]
 have an:=hid y;have ax:s.C.length<=2000000000:=I7
 have ay:a.C.length<=2000000000:=I7
 have aR:a.bk.length<=1000000000:=by rw[t,i];show s.bk.length<=_;have:=q.bk;omega
 have J:=hid (And.intro (show c.lsc<=c.sc by rw[i];exact q.d) (And.intro (show c.sc<=1000 by rw[i];show s.sc<=1000;have:=q.sc;omega) (show c.C.length+dS c<=1000000000 by rw[N,A];omega)));have O:=hid (show I.bk=a.bk by rw[D]);have H:=hid u;have am:=hid E;have ag:=hid i;have ah:=hid t;have ai:=hid D;have z:=hid (And.intro T (And.intro Y (And.intro Z aa)));clear u V E i t D N ae A q az y T Y Z aa;go_enter Tryz.func112,Tryz.ntmps112
 go_upto_region 1 with(first
  | (go_at_call 138;(refine(qB H.out 0 0 none none (x:=.beg) ⟨rfl,rfl,rfl,rfl⟩ ax).mono ?_);rintro e w1 ab
     obtain⟨aE,aD,aC,rfl,l⟩:=ab.cum;rw[<-ag.out]at l;have ak:=hid l;have S:=l.below H.out;have E:=(S.cell (p:=⟨g,o,none⟩) av).trans am.out;have F:g<w1.heap.size:=Nat.lt_of_lt_of_le aw l.off.size;have ar:=hid (wleave_any w1 aE aD c aC l.wr J.out.1 J.out.2.1 J.out.2.2)
     clear ab l S))
 go_upto_region 10 with(first
  | (go_at_call 141;(refine ar.out.mono ?_);rintro e aG ad
     obtain⟨aZ,aY,aW,rfl,k⟩:=ad.cum;rw[<-ah.out]at k;obtain⟨af,au,rfl⟩:=zU k.wr.brow;have Q:=k.next (Cum.mono k.wr Zb.drew);have P:=hid (ak.out.next Q);obtain⟨⟨aI,aJ,aK,aL,aM⟩,aN⟩:=zQ k.wr.box;have aT:=k.wr.lt
     clear ad k Q))
 clear E F;go_wp2_with (fail)
 go_region_law (first
  | (go_simp;go_at_call 138;(refine(wemit_at P.out.wr 3 0 none none (x:=.jmp 0) ⟨rfl,rfl,rfl,rfl⟩ ay).mono ?_);rintro e f aB
     obtain⟨aF,qs3,rfl,j,U,X⟩:=aB;rw[<-ai.out]at j;have R:Cum L B b aG.drew _ _ f aF _ I qs3:=⟨j,U,X,RowTo.refl _ _⟩
     have al:=hid (P.out.next R);obtain⟨⟨a0,a1,a2,a3,a4⟩,a5⟩:=zQ j.box;have aU:=j.lt;have aQ:L<=f.heap.size:=by have:=j.hL;omega
     have M:=j.brow;rw[O.out]at M;have aq:=hid (qR M ((Below.refl f.heap.size f).alloc Zr (.cells #[.int .i64 (a.C.length:Int)] 3)) Zr);have ao:=hid (yO f [.int .i64 (a.C.length:Int)] 3);have aV:(f.alloc (.cells #[.int .i64 (a.C.length:Int)] 3)).heap.size=f.heap.size+1:=zA _ _;have aj:=hid j
     clear R j U X M)
  | (refine qo rfl (.tmp 40) (.tmp 44) _ rfl L 3 aA _ 1 8 Tryz.underlying23 z.out.1 z.out.2.1 z.out.2.2.1 z.out.2.2.2 rfl I7 (.slice af a.bk.length au) a.bk.length _ rfl (by exact aq.out) ⟨f.heap.size,0,none⟩ 1 1 [.int .i64 (a.C.length:Int)] rfl rfl (by exact ao.out) Ig If I7 (by show L<=(f.alloc _).heap.size;omega) I7 ?_
     intro aX w8 K F W;have G:=aj.out.addbk ((Below.refl f.heap.size f).alloc Zr (.cells #[.int .i64 (a.C.length:Int)] 3)) F W (n:=a.C.length) (by rw[O.out];exact K);obtain⟨aH,aO,rfl⟩:=zU K;obtain⟨⟨a6,a7,a8,a9,ba⟩,bb⟩:=zQ G.1;have aS:b<w8.heap.size:=zB G.1;have ap:=hid G.2
     clear K F W G))
 all_goals
  go_wp2_with (fail)
  go_end0
  have y:=al.out.next ap.out;rw[an.out]at y;exact y.post _
theorem wstmt_step(n:WLst L B b m):WStm L B b (m+1):=by
 intro t w v vc vb s qs c e a d;obtain⟨k,f,name,args,thn,els⟩:=t;rw[kH,Nat.add_sub_cancel]at a;simp only[Bool.and_eq_true]at a;by_cases g:k=4
 .subst g
  exact wstmt_if n f name args thn els w v vc vb s qs c e a.1.1.2 a.1.2 a.2 d
 by_cases i:k=5
 .subst i
  exact wstmt_while n f name args thn els w v vc vb s qs c e a.1.1.2 a.1.2 d
 by_cases j:k=6
 .subst j
  exact wstmt_break f name args thn els w v vc vb s qs c e d
 by_cases l:k=7
 .subst l
  exact wstmt_cont f name args thn els w v vc vb s qs c e d
 exact wstmt_rest k f name args thn els w v vc vb s qs c e a.1.1.2 g i j l d
end
theorem wstmt_all(L B b:Nat):∀m,WStm L B b m
 | 0=>fun t w v vc vb s qs _ _ a _=>by
   obtain⟨k,c,name,args,thn,els⟩:=t;rw[kH]at a;simp at a
 | m+1=>wstmt_step (wlist_any (wstmts_any (wstmt_all L B b m)))
theorem wstmts_all(L B b m:Nat):WSts L B b m:=wstmts_any (wstmt_all L B b m)
end Go.Proofs.YthcmenajdcbnnaaGreatDoor
