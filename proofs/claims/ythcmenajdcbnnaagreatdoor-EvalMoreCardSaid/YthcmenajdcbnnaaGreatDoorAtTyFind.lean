import Derived.Test.YthcmenajdcbnnaaGreatDoorAtTreeLeaf
set_option linter.unusedSimpArgs false
set_option linter.unusedVariables false
set_option maxRecDepth 100000
set_option maxHeartbeats 99000000
/- What an operator takes and makes; the last variable of a name, in a slice and in a list linked by pointers. -/
namespace Go.Proofs.YthcmenajdcbnnaaGreatDoor
open Lib (hid)
open Go.RowKit
theorem Od{p:Prop}(h:p:=by
 obtain⟨a,d,rfl,_⟩:=ha.form;obtain⟨b,e,rfl,u⟩:=hf.form;obtain⟨q,rfl⟩:=(hS.fin (Fin.nil _ _)).form;have h:=hid ha;have i:=hid hf;have l:=hid hS;have j:=hid hp;have r:=hid (fun k=>za (B:=B) hB (jT a p.arrays.length d b p.funcs.length e) (xw k op n s A m c));have t:=hid (fun k=>za (B:=w.heap.size) Zr (jT a p.arrays.length d b p.funcs.length e) (xw k op n s A m c));have o:=hid (fun k=>kc w (jT a p.arrays.length d b p.funcs.length e) (xw k op n s A m c));clear ha hf hS hp;go_enter Tryz.func153,Tryz.ntmps153;go_wp2_with (fail);refine bodyPost_ret (v:=.tuple #[.agg #[.slice none 0 0,.int .i64 (1)],.int .i64 0]) (by simp[results,Tryz.results153,go_sem]) rfl ?_;exact⟨(((Zb.alloc Zr _).alloc Ia _).alloc I9 _),_,rfl,yH _ _,fun k g=>by cases g⟩):p:=h
theorem operator_any(op:Int)(w:World):Calls Tryz.prog 162 #[.int .i64 op] w fun e w'=>e=.returned (.tuple #[.int .i64 (jW op),.int .i64 (uM op)])/\w=w':=by
 by_cases c:op=18\/op=19\/op=22\/op=16\/op=17\/op=12\/op=13\/op=14\/op=15
 .rcases c with rfl|rfl|rfl|rfl|rfl|rfl|rfl|rfl|rfl
  all_goals
   go_enter Tryz.func162,Tryz.ntmps162;go_wp2_with (fail)
   go_ret2
   exact⟨rfl,rfl⟩
 .have n1:(op == 18)=false:=by simp;omega
  have n2:(op == 19)=false:=I9
  have d:(op == 22)=false:=I9
  have g:(op == 16)=false:=I9
  have h:(op == 17)=false:=I9
  have i:(op == 12)=false:=I9
  have j:(op == 13)=false:=I9
  have k:(op == 14)=false:=I9
  have l:(op == 15)=false:=I9
  have a:jW op=1:=by unfold jW;rw[if_neg I7,if_neg I7]
  have b:uM op=1:=by unfold uM;rw[if_neg I7,if_neg I7,if_neg I7]
  rw[a,b];clear c a b;go_enter Tryz.func162,Tryz.ntmps162;go_wp2_with (fail)
  go_ret2
  exact⟨rfl,rfl⟩
def kh:List Pa->ByteArray->Option Int
 | [],_=>none
 | x::r,s=>if x.name=s then some x.type else kh r s
theorem firstT_app(s:ByteArray):∀a b:List Pa,kh (a++b) s=match kh a s with|some t=>some t|none=>kh b s
 | [],b=>rfl
 | x::r,b=>by
   rw[List.cons_append,kh,kh,firstT_app s r b];split <;> rfl
theorem xV(s:ByteArray):∀l:List Pa,kI l s=kh l.reverse s
 | []=>rfl
 | x::r=>by
   rw[kI,xV s r,List.reverse_cons,firstT_app];rfl
def Seg(w:World)(C:Nat)(u:Value):Nat->Value->List Pa->Prop
 | B,v,[]=>v=u/\C<=B
 | B,v,x::r=>∃(g:Nat) (t:Value),v=.pointer (some ⟨g,0,none⟩)/\C<=g/\g<B/\w.heap[g]? =some (.cells #[.string x.name,.int .i64 x.type,t] 185 (0,0))/\Seg w C u g t r
theorem Seg.le{w:World}{C:Nat}{u:Value}:∀{l:List Pa} {B:Nat} {v:Value},Seg w C u B v l->C<=B
 | [],_,_,h=>h.2
 | _::_,_,_,⟨_,_,_,h1,h2,_⟩=>I7
theorem Seg.up{w:World}{C:Nat}{u:Value}:∀{l:List Pa} {B a:Nat} {v:Value},Seg w C u B v l->B<=a->Seg w C u a v l
 | [],_,_,_,h,hB=>⟨h.1,by have:=h.2;omega⟩
 | _::_,_,_,_,⟨g,t,h0,h1,h2,h3⟩,hB=>⟨g,t,h0,h1,I7,h3⟩
theorem Seg.keep{w w':World}{C:Nat}{u:Value}:∀{l:List Pa} {B:Nat} {v:Value},Seg w C u B v l->(∀g,C<=g->g<B->w'.heap[g]? =w.heap[g]?)->Seg w' C u B v l
 | [],_,_,h,_=>h
 | _::r,B,_,⟨g,t,h0,h1,h2,h3,h6⟩,hc=>⟨g,t,h0,h1,h2,(hc g h1 h2).trans h3,h6.keep fun k a b=>hc k a I7⟩
theorem Seg.below{w w':World}{C B:Nat}{u v:Value}{l:List Pa}(a:Seg w C u B v l)(b:Below B w w'):Seg w' C u B v l:=a.keep fun g _ c=>b.block g c
theorem Seg.join{w:World}{C D:Nat}{u t:Value}:∀{l:List Pa} {B:Nat} {v:Value} {m:List Pa},Seg w D t B v l->Seg w C u D t m->Seg w C u B v (l++m)
 | [],_,_,_,h,g=>by obtain⟨rfl,a⟩:=h;exact g.up a
 | _::r,_,_,_,⟨k,x,h0,h1,a,h3,h6⟩,g=>⟨k,x,h0,by have:=g.le;omega,a,h3,h6.join g⟩
theorem Seg.none(w:World)(C B:Nat)(u:Value)(a:C<=B):Seg w C u B u []:=⟨rfl,a⟩
def Fin(w:World)(C:Nat)(u:Value):Prop:=u=.pointer none\/∃g a,u=.pointer (some ⟨g,0,none⟩)/\g<C/\w.heap[g]? =some (.cells a 185 (0,0))
def ptrN:Value->Nat
 | .pointer (some a)=>a.block+1
 | _=>0
theorem Seg.lower{w:World}{C:Nat}{u:Value}(c:Fin w C u){g:Nat}{t:Value}{r:List Pa}(a:Seg w C u g t r):ptrN t<g+1:=by
 cases r with
 | nil=>
   obtain⟨rfl,b⟩:=a;rcases c with rfl|⟨k,d,rfl,e,h⟩
   .simp[ptrN]
   .simp[ptrN];omega
 | cons x r=>
   obtain⟨k,_,rfl,_,b,_⟩:=a;simp[ptrN];omega
theorem Seg.fin{w:World}{C:Nat}{u:Value}(g:Fin w C u){B:Nat}{v:Value}{l:List Pa}(a:Seg w C u B v l):Fin w B v:=by
 cases l with
 | nil=>
   obtain⟨rfl,b⟩:=a;rcases g with rfl|⟨k,c,rfl,h,e⟩
   .exact .inl rfl
   .exact .inr ⟨k,c,rfl,I7,e⟩
 | cons x r=>
   obtain⟨k,_,rfl,_,b,d,_⟩:=a;exact .inr ⟨k,_,rfl,b,d⟩
theorem Fin.keep{w w':World}{C:Nat}{u:Value}(a:Fin w C u)(e:∀g,g<C->(∃b,w.heap[g]? =some (.cells b 185 (0,0)))->w'.heap[g]? =w.heap[g]?):Fin w' C u:=by
 rcases a with a|⟨k,b,a,c,d⟩
 .exact .inl a
 .exact .inr ⟨k,b,a,c,(e k c ⟨b,d⟩).trans d⟩
theorem Fin.nil(w:World)(C:Nat):Fin w C (.pointer none):=.inl rfl
theorem run_neq_ptr_other{P:Program}(w:World){c e:TypeId}{j:TypeInfo}{a b:Addr}{g cb:Array Value}{o p:TypeId}(hp:P.underlying c=some (.pointer e))(m:P.info? e=some j)(l:j.size≠0)
 (k:a≠b) (ha:w.heap[a.block]? =some (.cells g o (0,0))) (i:w.heap[b.block]? =some (.cells cb p (0,0))):
 (binOp .neq c (.pointer (some a)) (.pointer (some b))).run P w=.ok (.bool true) w:=by
 have h:∀d:Nat,(Op.equalIn (d+1) c (.pointer (some a)) (.pointer (some b))).run P w=.ok false w:=fun d=>by
  simp[Op.equalIn,run_underlying hp,sizeOf,typeInfo,m,l,run_sameAddr_other w k ha i]
 simp only[binOp];simp[Op.equal,Op.maxDepth,h 9999]
theorem va_info:(Tryz.prog.info? 185).map (fun i=>(i.zero,i.size,i.bytes))=some (some (.agg #[.string ⟨#[]⟩,.int .i64 0,.pointer none]),3,32):=by kernel_rfl
theorem vneq(w:World){g k:Nat}{a b:Array Value}(i:g≠k)(c:w.heap[g]? =some (.cells a 185 (0,0)))(d:w.heap[k]? =some (.cells b 185 (0,0))):
 (binOp .neq 155 (.pointer (some ⟨g,0,none⟩)) (.pointer (some ⟨k,0,none⟩))).run Tryz.prog w=.ok (.bool true) w:=by
 obtain⟨l,h,_,j,_⟩:=info_parts va_info;exact run_neq_ptr_other w Tryz.underlying155 h (by rw[j];decide) (by intro e;injection e with e;exact i e) c d
theorem vsame(w:World)(g:Nat):(binOp .neq 155 (.pointer (some ⟨g,0,none⟩)) (.pointer (some ⟨g,0,none⟩))).run Tryz.prog w=.ok (.bool false) w:=by
 obtain⟨b,a,_,_,_⟩:=info_parts va_info;exact Lib.run_neq_ptr_same w _ Tryz.underlying155 a
theorem node_cells{w:World}{g:Nat}{b c c2:Value}{T:TypeId}{fr:Nat × Nat}(a:w.heap[g]? =some (.cells #[b,c,c2] T fr)):w.cell? ⟨g,0,none⟩=some b/\w.cell? ⟨g,1,none⟩=some c/\w.cell? ⟨g,2,none⟩=some c2:=
 ⟨(Lib.cell_of_heap a 0).trans rfl,(Lib.cell_of_heap a 1).trans rfl,(Lib.cell_of_heap a 2).trans rfl⟩
def FndPost(w:World)(B:Nat)(o:Option Int)(e:Ending):Prop:=match o with
 | some t=>∃g,e=.returned (.pointer (some ⟨g,0,none⟩))/\g<B/\w.cell? ⟨g,1,none⟩=some (.int .i64 t)
 | none=>e=.returned (.pointer none)
theorem kC(w:World)(C B:Nat)(u v:Value)(l:List Pa)(s:ByteArray)(hB:B<=w.heap.size)(F:Fin w C u)(y:Seg w C u B v l):
 Calls Tryz.prog 110 #[v,u,.string s] w fun e w'=>FndPost w B (kh l s) e/\w=w':=by
 have G:=hid y;have c:=hid F;clear y F;go_enter Tryz.func110,Tryz.ntmps110;go_wp2_with (fail)
 go_loopw [7] (fun iv wr=>∃r D,D<=B/\Seg w C u D iv r/\kh r s=kh l s/\wr=w) (fun iv _=>ptrN iv)
 case atStart=>exact⟨l,B,Nat.le_refl _,G.out,rfl,rfl⟩
 case round=>
  obtain⟨r,D,hD,E,hf,rfl⟩:=hrel;have b:=hid hf;clear hf;cases r with
  | nil=>
    obtain⟨rfl,_⟩:=E;rcases c.out with rfl|⟨a,q,rfl,A,d⟩
    .go_wp2_with (fail)
     go_ret;exact⟨by rw[<-b.out];rfl,rfl⟩
    .have N:=vsame wr a
     go_wp2_with (fail);go_ret;exact⟨by rw[<-b.out];rfl,rfl⟩
  | cons x r=>
    obtain⟨g,t,rfl,K,L,j,z⟩:=E;obtain⟨O,J,P⟩:=node_cells j;have p:=hid j;have i:=hid z;have M:g<wr.heap.size:=I7
    clear z j;by_cases h:x.name=s
    .have H:=ul h
     have hp:FndPost wr B (kh l s) (.returned (.pointer (some ⟨g,0,none⟩))):=by
      rw[<-b.out,kh,if_pos h];exact⟨g,rfl,I7,J⟩
     have o:=hid hp;clear hp;rcases c.out with rfl|⟨a,q,rfl,A,d⟩
     .go_wp2_with (fail)
      go_ret;exact⟨o.out,rfl⟩
     .have I:=vneq wr (show g≠a by omega) p.out d
      go_wp2_with (fail);go_ret;exact⟨o.out,rfl⟩
    .have H:=um h
     have m:=hid (i.out.lower c.out);have k:=hid (show kh r s=kh l s by rw[<-b.out,kh,if_neg h]);rcases c.out with rfl|⟨a,q,rfl,A,d⟩
     .go_wp2_with (fail)
      go_roundw
      case rel=>exact⟨r,g,I7,i.out,k.out,trivial⟩
      case measure=>exact m.out
     .have I:=vneq wr (show g≠a by omega) p.out d
      go_wp2_with (fail);go_roundw
      case rel=>exact⟨r,g,I7,i.out,k.out,trivial⟩
      case measure=>exact m.out
theorem Fin.form{w:World}{C:Nat}{u:Value}(a:Fin w C u):∃p,u=.pointer p:=by
 rcases a with rfl|⟨g,b,rfl,_⟩
 .exact⟨_,rfl⟩
 .exact⟨_,rfl⟩
theorem take_rev{l pre:List Pa}{j:Nat}{x:Pa}(a:l[j]? =some x):(l.take (j+1)).reverse++pre=x::((l.take j).reverse++pre):=by
 rw[List.take_add_one,a];simp
theorem xl(w:World)(C D B:Nat)(u v:Value)(pre l:List Pa)(x:Value)(hD:D<=w.heap.size)(hB:B<=w.heap.size)(h:Fin w C u)(hC:C<=w.heap.size)(d:Seg w C u D v pre)(i:SlP B w x l):
 Calls Tryz.prog 89 #[v,x] w fun e w'=>∃v',e=.returned v'/\Seg w' C u w'.heap.size v' (l.reverse++pre)/\Below w.heap.size w w':=by
 obtain⟨L,rfl⟩:=(d.fin h).form;obtain⟨A,c,rfl,K⟩:=i.form;have r:=hid i;have t:=hid (d.up hD);have y:=hid h;clear d i h;go_enter Tryz.func89,Tryz.ntmps89;go_wp2_with (fail)
 go_loopw [0,9] (fun v iv wr=>∃j:Nat,j<=l.length/\iv=.int .i64 j/\Seg wr C u wr.heap.size v ((l.take j).reverse++pre)/\Below w.heap.size w wr) (fun _ iv _=>l.length-(intOf iv).toNat)
 case atStart=>exact⟨0,Nat.zero_le _,rfl,by simpa using t.out,Below.refl _ _⟩
 case round=>
  obtain⟨j,J,rfl,k,a⟩:=hrel;have H:=a.size;have z:=hid (y.out.keep (w':=wr) fun g F _=>a.block g I7);obtain⟨p,rfl⟩:=(k.fin z.out).form;have q:=hid k;clear k;by_cases G:j<l.length
  .obtain⟨b,m⟩:∃e,l[j]? =some e:=⟨_,List.getElem?_eq_getElem G⟩
   obtain⟨g,o,rfl,F,M,N⟩:=(r.out.below (a.mono hB) Zr).cells m;have E:=hid m;have I:g<wr.heap.size:=I7
   clear m;go_wp2_with (fail);go_roundw
   case rel=>
    refine⟨j+1,I7,by go_num,?_,(a.alloc H _).alloc I9 _⟩;rw[take_rev E.out];refine⟨wr.heap.size+1,_,rfl,I7,Ia,?_,(q.out.below ((Zb.alloc Zr _).alloc Ia _)).up I7⟩;have:=heap_alloc_new (wr.alloc (.cells #[.string b.name,.int .i64 b.type] 100)) (.cells #[.string b.name,.int .i64 b.type,.pointer p] 185);simpa using this
   case measure=>simp[intOf];omega
  .go_wp2_with (fail)
   go_ret;refine⟨_,rfl,?_,a⟩;have:=q.out;rwa [List.take_of_length_le I7]at this
def Few(p:Pr):Prop:=∀f∈p.funcs,f.params.length<=8/\∀x∈f.params,x.type=1\/x.type=2
theorem few_of{p:Pr}(b:prOK p=true):Few p:=fun f hf=>by
 unfold prOK at b;rw[Bool.and_eq_true,List.all_eq_true,List.all_eq_true]at b;have a:=b.2 f hf;unfold yF at a;simp only[Bool.and_eq_true,decide_eq_true_eq,List.all_eq_true]at a;refine⟨a.1.1.2,fun x d=>?_⟩;have c:=a.1.2 x d;unfold vg ud at c;simp only[Bool.and_eq_true,Bool.or_eq_true,decide_eq_true_eq,beq_iff_eq]at c;exact c.2
def SlI(B:Nat)(w:World)(v:Value)(l:List Int):Prop:=v9 v l.length (RdL 1 (fun(t:Int) g o=>CellB B w g o (.int .i64 t)) l)
theorem SlI.below{B a:Nat}{w w':World}{v:Value}{l:List Int}(b:SlI B w v l)(c:Below B w w')(hB:B<=a):SlI a w' v l:=v9.imp b fun g o=>RdL.imp (fun _ _ _ d=>d.below c hB) l g o
theorem SlI.form{B:Nat}{w:World}{v:Value}{l:List Int}(b:SlI B w v l):∃A a,v=.slice A l.length a/\l.length<=281474976710656:=by
 obtain⟨A,a,d,c,_⟩:=b;exact⟨A,a,d,c⟩
theorem SlI.cells{B:Nat}{w:World}{A:Option Addr}{n b:Nat}{l:List Int}(c:SlI B w (.slice A n b) l){i:Nat}{t:Int}(a:l[i]? =some t):
 ∃(g o:Nat),A=some ⟨g,o,none⟩/\g<B/\w.cell? ⟨g,o+i,none⟩=some (.int .i64 t):=by
 obtain⟨g,o,d,e⟩:=v9.elem c rfl Qc;have:=RdL.at l g o i t e a;rw[Nat.mul_one]at this;exact⟨g,o,d,this.1,this.2⟩
theorem yH(B:Nat)(w:World):SlI B w (.slice none 0 0) []:=⟨none,0,rfl,Nat.zero_le _,fun a=>absurd a Ia⟩
theorem rdI_of{B:Nat}{w:World}{g:Nat}(a:g<B):∀(l:List Int) (o:Nat),(∀j t,l[j]? =some t->w.cell? ⟨g,o+j,none⟩=some (.int .i64 t))->RdL 1 (fun(t:Int) g o=>CellB B w g o (.int .i64 t)) l g o
 | [],_,_=>trivial
 | t::r,o,h=>⟨⟨a,h 0 t rfl⟩,rdI_of a r (o+1) fun j u b=>by
     rw[show o+1+j=o+(j+1)by omega]
     exact h (j+1) u Ih⟩
theorem vN{w w':World}{a:Nat}{e:TypeId}{size:Nat}{v:Value}{n:Nat}{xs:List Value}(b:w.ownsRow a e size v n xs)(l:∀g,v.ownBlock=some g->w'.heap[g]? =w.heap[g]?):w'.ownsRow a e size v n xs:=by
 refine⟨b.1,?_⟩;rcases b.2 with h|⟨g,c,d,rfl,i,j,k⟩
 .exact .inl h
 .exact .inr ⟨g,c,d,rfl,i,(l g rfl).trans j,k⟩
theorem vO{w:World}{a:Nat}{e:TypeId}{size:Nat}{v:Value}{n:Nat}{d:List Value}(b:w.ownsRow a e size v n d):∃A c,v=.slice A n c:=by
 rcases b.2 with⟨rfl,rfl⟩|⟨g,h,i,rfl,_⟩
 .exact⟨_,_,rfl⟩
 .exact⟨_,_,rfl⟩
theorem jU{w:World}{b:Nat}{e:TypeId}{size:Nat}{v:Value}{n:Nat}{i:List Value}(c:w.ownsRow b e size v n i)(g:Nat)(a:v.ownBlock=some g):b<=g/\g<w.heap.size:=by
 rcases c.2 with⟨rfl,rfl⟩|⟨k,j,l,rfl,d,h,_⟩
 .cases a
 .injection a with a
  subst a;exact⟨d,(Array.getElem?_eq_some_iff.1 h).1⟩
theorem kD{w:World}{a:Nat}{e:TypeId}{size:Nat}{v:Value}{n:Nat}{xs:List Value}(b:w.ownsRow a e size v n xs)(o:Obj):(w.alloc o).ownsRow a e size v n xs:=
 vN b fun g c=>Below.heap_alloc w o g (jU b g c).2
theorem yO(w:World)(a:List Value)(T:TypeId):∀j u,a[j]? =some u->(w.alloc (.cells a.toArray T)).cell? ((⟨w.heap.size,0,none⟩:Addr).add j)=some u:=fun j u b=>by
 rw[show(⟨w.heap.size,0,none⟩:Addr).add j=⟨w.heap.size,j,none⟩by unfold Addr.add;split <;> simp_all];exact(Lib.cell_of_heap (heap_alloc_new w _) j).trans Ih
theorem vj(w:World)(a:List Value)(T:TypeId)(n:Nat)(b:w.heap.size=n):∀j u,a[j]? =some u->(w.alloc (.cells a.toArray T)).cell? ((⟨n,0,none⟩:Addr).add j)=some u:=b ▸ yO w a T
theorem tys_take{l:List Pa}{j:Nat}{x:Pa}(a:l[j]? =some x):((l.take j).map (·.type)).map (Value.int .i64)++[Value.int .i64 x.type]=((l.take (j+1)).map (·.type)).map (Value.int .i64):=by
 rw[List.take_add_one,a];simp
theorem own_ints{w:World}{c:Nat}{e:TypeId}{v:Value}{n:Nat}{l:List Int}(i:w.ownsRow c e 1 v n (l.map (Value.int .i64)))(r:n=l.length)(q:l.length<=281474976710656):SlI w.heap.size w v l:=by
 subst r;rcases i.2 with⟨rfl,k⟩|⟨g,d,h,rfl,u,b,x,y,z,m⟩
 .obtain rfl:l=[]:=List.eq_nil_of_length_eq_zero k
  exact yH _ _
 .have o:g<w.heap.size:=(Array.getElem?_eq_some_iff.1 b).1
  refine⟨_,d,rfl,q,fun _=>⟨g,0,rfl,rdI_of o l 0 fun j t p=>?_⟩⟩;rw[Nat.zero_add,Lib.cell_of_heap b]
  have a:(h.toList.take (l.length*1))[j]? =some (Value.int .i64 t):=by
   rw[m,List.getElem?_map,p];rfl
  rw[List.getElem?_take]at a;split at a
  .simpa using a
  .cases a
theorem slI_at{w:World}{b B:Nat}{l:List Int}{T:TypeId}{fr:Nat × Nat}(a:w.heap[b]? =some (.cells (l.map (Value.int .i64)).toArray T fr))(hB:b<B)(e:l.length<=281474976710656)(c:Nat):SlI B w (.slice (some ⟨b,0,none⟩) l.length c) l:=
 ⟨_,c,rfl,e,fun _=>⟨b,0,rfl,rdI_of hB l 0 fun j t d=>by
   rw[Nat.zero_add,Lib.cell_of_heap a]
   simp[d]⟩⟩
def jO(w:World)(o:List Int × Int × Int)(e:Ending)(w':World):Prop:=
 Below w.heap.size w w'/\∃v,e=.returned (.tuple #[.agg #[v,.int .i64 o.2.1],.int .i64 o.2.2])/\SlI w'.heap.size w' v o.1/\∀k,v.ownBlock=some k->w.heap.size<=k
def cfT(p:Pr)(s:ByteArray):List Int × Int × Int:=match jH p s with
 | some f=>(f.params.map (·.type),f.type,0)
 | none=>([],0,50)
theorem place_is(B:Nat)(p:Pr)(s:ByteArray)(z:Int)(a:optI (jF p.funcs s)=z)(v0 v1:Value)(w:World)(hB:B<=w.heap.size)(ha:SlA B w v0 p.arrays)(hf:SlF B w v1 p.funcs):
 Calls Tryz.prog 87 #[.agg #[v0,v1],.string s] w fun e w'=>e=.returned (.int .i64 z)/\Below w.heap.size w w':=a ▸ place_any B p s v0 v1 w hB ha hf
theorem vk:(Tryz.prog.info? 3).map (fun i=>(i.zero,i.size,i.bytes))=some (some (.int .i64 0),1,8):=by kernel_rfl
theorem zB{w:World}{b:Nat}{o:Obj}(a:w.heap[b]? =some o):b<w.heap.size:=(Array.getElem?_eq_some_iff.1 a).1
theorem zO{w:World}{g:Nat}{b c:Value}{T:TypeId}(a:w.heap[g]? =some (.cells #[b,c] T (0,0))):(w.cell? ⟨g,0,none⟩=some b/\w.cell? ⟨g,1,none⟩=some c)/\∀o,w.frozen? ⟨g,o,none⟩=false:=
 ⟨⟨(Lib.cell_of_heap a 0).trans rfl,(Lib.cell_of_heap a 1).trans rfl⟩,fun o=>QN⟩
theorem xF{W:World}{g:Nat}{b c:Value}{T:TypeId}(d:W.heap[g]? =some (.cells #[b,c] T (0,0)))(a c1:Value):((W.setCell ⟨g,0,none⟩ a).setCell ⟨g,1,none⟩ c1).cell? ⟨g,0,none⟩=some a/\((W.setCell ⟨g,0,none⟩ a).setCell ⟨g,1,none⟩ c1).cell? ⟨g,1,none⟩=some c1:=
 (zO (Lib.heap_setCell_same (Lib.heap_setCell_same d a) c1)).1
theorem two_seta{W:World}{g:Nat}{c d:Value}{T:TypeId}(e:W.heap[g]? =some (.cells #[c,d] T (0,0)))(a c1:Value)(o:Obj):(((W.setCell ⟨g,0,none⟩ a).setCell ⟨g,1,none⟩ c1).alloc o).cell? ⟨g,0,none⟩=some a/\(((W.setCell ⟨g,0,none⟩ a).setCell ⟨g,1,none⟩ c1).alloc o).cell? ⟨g,1,none⟩=some c1:=by
 have b:((W.setCell ⟨g,0,none⟩ a).setCell ⟨g,1,none⟩ c1).heap[g]? =some (.cells #[a,c1] T (0,0)):=Lib.heap_setCell_same (Lib.heap_setCell_same e a) c1;exact(zO ((Below.heap_alloc _ o g (zB b)).trans b)).1
theorem ja{W w:World}{g B:Nat}(d:Below B w W)(a:B<=g)(b c:Value):Below B w ((W.setCell ⟨g,0,none⟩ b).setCell ⟨g,1,none⟩ c):=(d.setCell (p:=⟨g,0,none⟩) a _).setCell (p:=⟨g,1,none⟩) a _
abbrev fmO(v:Value)(t:Int):Obj:=.cells #[v,.int .i64 t] 217
theorem callForm_no(B:Nat)(p:Pr)(s:ByteArray)(v0 v1:Value)(w:World)(hB:B<=w.heap.size)(ha:SlA B w v0 p.arrays)(hf:SlF B w v1 p.funcs)(a:jF p.funcs s=none):
 Calls Tryz.prog 163 #[.agg #[v0,v1],.string s] w (jO w ([],0,50)):=by
 obtain⟨d,m,rfl,_⟩:=ha.form;obtain⟨g,o,rfl,t⟩:=hf.form;have h:=hid ha;have j:=hid hf;have l:=hid (show optI (jF p.funcs s)= -1 by rw[a];rfl);clear ha hf a;go_enter Tryz.func163,Tryz.ntmps163
 go_wp2_with (go_at_call 87;(with_reducible refine(place_is B p s _ l.out _ _ _ I9 (h.out.below ((Zb.alloc hB _).alloc I9 _) Zr) (j.out.below ((Zb.alloc hB _).alloc I9 _) Zr)).mono ?_);rintro e r ⟨rfl,b⟩
              have c:=hid ((b.block (w.heap.size+1) Ia).trans (show _=some (fmO (.slice none 0 0) 0)by simpa using heap_alloc_new (w.alloc (jT d p.arrays.length m g p.funcs.length o)) (fmO (.slice none 0 0) 0)));obtain⟨⟨u,x⟩,y⟩:=zO c.out;have i:=hid (show Below w.heap.size w r from((Zb.alloc Zr _).alloc Ia _).trans (b.mono I9))
              clear b)
 obtain⟨q,f1⟩:=xF c.out (.slice none 0 0) (.int .i64 0);refine bodyPost_ret (v:=.tuple #[.agg #[.slice none 0 0,.int .i64 0],.int .i64 50]) (by simp[results,Tryz.results163,go_sem,q,f1]) rfl ?_;exact⟨ja i.out I7 _ _,_,rfl,yH _ _,fun k a=>Ii⟩
theorem callForm_yes(B:Nat)(p:Pr)(s:ByteArray)(v0 v1:Value)(w:World)(hB:B<=w.heap.size)(ha:SlA B w v0 p.arrays)(hf:SlF B w v1 p.funcs){k:Nat}{f:Fu}(b:jF p.funcs s=some k)(x:p.funcs[k]? =some f)(aw:f.params.length<=8):
 Calls Tryz.prog 163 #[.agg #[v0,v1],.string s] w (jO w (f.params.map (·.type),f.type,0)):=by
 obtain⟨C,K,rfl,_⟩:=ha.form;obtain⟨D,L,rfl,aF⟩:=hf.form;obtain⟨am,M,N,O,P⟩:=info_parts vk;have l:=hid (And.intro M (And.intro N (And.intro O P)));have R:=hid ha;have F:=hid hf;have U:=hid (show optI (jF p.funcs s)=(k:Int)by rw[b];rfl);have V:=hid x;have aC:k<p.funcs.length:=(List.getElem?_eq_some_iff.1 x).1;clear ha hf b x M N O P;go_enter Tryz.func163,Tryz.ntmps163
 go_wp2_with (go_at_call 87;(with_reducible refine(place_is B p s _ U.out _ _ _ I9 (R.out.below ((Zb.alloc hB _).alloc I9 _) Zr) (F.out.below ((Zb.alloc hB _).alloc I9 _) Zr)).mono ?_);rintro e w1 ⟨rfl,h⟩
              have H:=hid ((h.block (w.heap.size+1) Ia).trans (show _=some (fmO (.slice none 0 0) 0)by simpa using heap_alloc_new (w.alloc (jT C p.arrays.length K D p.funcs.length L)) (fmO (.slice none 0 0) 0)));have X:=hid ((h.block w.heap.size I9).trans (show _=some (jT C p.arrays.length K D p.funcs.length L)from(Below.heap_alloc _ _ _ Ia).trans (heap_alloc_new w _)));obtain⟨⟨aL,aM⟩,aN⟩:=zO X.out;obtain⟨⟨aO,aP⟩,aQ⟩:=zO H.out;have q:Below w.heap.size w w1:=((Zb.alloc Zr _).alloc Ia _).trans (h.mono I9);have S:=hid q;obtain⟨g,o,aX,aY,rfl,ax,aq,ar,au,av,hp,ag⟩:=(F.out.below (q.mono hB) Zr).cells V.out;obtain⟨an,ap,rfl,aG⟩:=hp.form;have Y:=hid hp;have az:g<w1.heap.size:=by have:=q.size;omega
              have aI:w.heap.size+1<w1.heap.size:=by have:=h.size;simp at this;omega
              have aH:w.heap.size<w1.heap.size:=I7
              have aD:g≠w1.heap.size:=I7
              have aE:w1.heap.size≠g:=I7
              clear h q hp ag)
 go_loopw [30] (fun iv wr=>∃(j:Nat) (v:Value),j<=f.params.length/\iv=.int .i64 j/\wr.heap[w1.heap.size]? =some (fmO v f.type)/\wr.ownsRow (w1.heap.size+1) 3 1 v j (((f.params.take j).map (·.type)).map (Value.int .i64))/\Below w1.heap.size w1 wr) (fun iv _=>f.params.length-(intOf iv).toNat)
 case atStart=>exact⟨0,_,Nat.zero_le _,rfl,heap_alloc_new _ _,World.ownsRow_nil _ _ _ _,Zb.alloc Zr _⟩
 case round=>
  obtain⟨j,v,aB,rfl,d,i,c⟩:=hrel;have ak:=c.size;have al:=zB d;obtain⟨r,t,rfl⟩:=vO i;obtain⟨⟨aR,aS⟩,aT⟩:=zO d;have ao:=hid d;have m:=hid i;have E:=hid c;by_cases aj:j<f.params.length
  .obtain⟨a,A⟩:∃e,f.params[j]? =some e:=⟨_,List.getElem?_eq_getElem aj⟩
   obtain⟨af,aK,rfl,ay,aZ,a0⟩:=(Y.out.below (c.mono (show B<=w1.heap.size by omega)) Zr).cells A;have ab:=hid A;have aA:af<wr.heap.size:=I7
   have Z:=hid (kD (kD i (.cells #[.string a.name,.int .i64 a.type] 100)) (.cells #[.int .i64 a.type] 3));have W:=hid (vj (wr.alloc (.cells #[.string a.name,.int .i64 a.type] 100)) [.int .i64 a.type] 3 (wr.heap.size+1) Ia);have aa:=hid ((Below.heap_alloc (wr.alloc (.cells #[.string a.name,.int .i64 a.type] 100)) (.cells #[.int .i64 a.type] 3) w1.heap.size I9).trans ((Below.heap_alloc wr (.cells #[.string a.name,.int .i64 a.type] 100) w1.heap.size al).trans d));clear A d i c
   go_wp2_with (at_builtin;refine wpList_append_own _ rfl (.tmp 35) (.tmp 38) _ rfl (w1.heap.size+1) 3 am _ 1 8 Tryz.underlying23 l.out.1 l.out.2.1 l.out.2.2.1 l.out.2.2.2 rfl I7 (.slice r j t) j _ rfl (by exact Z.out) ⟨wr.heap.size+1,0,none⟩ 1 1 [.int .i64 a.type] rfl rfl (by exact W.out) Ig If I7 I9 ?_
                intro v1 w5 z u _;obtain⟨Q,ad,rfl⟩:=vO z;have T:=hid u;have G:=hid z;have J:=hid ((u.block w1.heap.size I9 (fun e=>by have:=(jU m.out _ e.symm).1;omega)).trans aa.out);obtain⟨⟨a1,a2⟩,a3⟩:=zO J.out
                clear z u)
   go_roundw
   case rel=>
    have ah:Below w1.heap.size w1 w5:=((E.out.alloc ak _).alloc I9 _).grown T.out I9 fun k b=>by have:=(jU m.out _ b).1;omega
    refine⟨j+1,_,I7,by go_num,Lib.heap_setCell_same J.out (.slice Q (j+1) ad),?_,ah.setCell (p:=⟨w1.heap.size,0,none⟩) Zr _⟩;rw[<-tys_take ab.out];exact vN G.out fun k b=>Below.heap_setCell w5 _ _ k (by have:=(jU G.out _ b).1;show k≠w1.heap.size;omega)
   case measure=>simp[intOf];omega
  .have ai:j=f.params.length:=by omega
   subst ai;have I:=hid ((c.block (w.heap.size+1) I7).trans H.out);obtain⟨⟨aU,aV⟩,aW⟩:=zO I.out;have aJ:w.heap.size+1<wr.heap.size:=I7
   clear d i c;go_wp2_with (fail);obtain⟨ae,f1⟩:=xF I.out (.slice r f.params.length t) (.int .i64 f.type);refine bodyPost_ret (v:=.tuple #[.agg #[.slice r f.params.length t,.int .i64 f.type],.int .i64 0]) (by simp[results,Tryz.results163,go_sem,ae,f1]) rfl ?_;refine⟨ja (S.out.trans (E.out.mono I7)) I7 _ _,_,rfl,?_,fun k b=>by have:=(jU m.out _ b).1;omega⟩;have y:=m.out;rw[List.take_of_length_le Zr]at y;refine own_ints (vN y fun k b=>?_) Ia I9;have:=(jU y _ b).1;exact(Below.heap_setCell _ _ _ k Qg).trans (Below.heap_setCell _ _ _ k Qg)
theorem callForm_any(B:Nat)(p:Pr)(s:ByteArray)(v0 v1:Value)(w:World)(hB:B<=w.heap.size)(ha:SlA B w v0 p.arrays)(hf:SlF B w v1 p.funcs)(hp:Few p):
 Calls Tryz.prog 163 #[.agg #[v0,v1],.string s] w (jO w (cfT p s)):=by
 cases hk:jF p.funcs s with
 | none=>
   have e:cfT p s=([],0,50):=by unfold cfT jH;rw[hk];rfl
   rw[e];exact callForm_no B p s v0 v1 w hB ha hf hk
 | some k=>
   obtain⟨f,a,_,_⟩:=yq hk;have e:cfT p s=(f.params.map (·.type),f.type,0):=by unfold cfT jH;rw[hk,Option.bind_some,a]
   rw[e];exact callForm_yes B p s v0 v1 w hB ha hf hk a (hp f (List.mem_of_getElem? a)).1
def zh(p:Pr)(vars:List Pa)(k op:Int)(s:ByteArray):List Int × Int × Int:=
 if k=1\/k=8 then([],1,0)
 else if k=2 then([],2,0)
 else if k=3 then(match kI vars s with|some t=>([],t,0)|none=>([],0,50))
 else if k=4 then([jW op],uM op,0)
 else if k=5 then([jW op,jW op],uM op,0)
 else if k=6 then(if(zb p.arrays s).isSome then([1],1,0)else([],0,50))
 else cfT p s
abbrev xw(k op n:Int)(s:ByteArray)(A:Option Addr)(m c:Nat):Obj:=.cells #[.int .i64 k,.int .i64 op,.int .i64 n,.string s,.slice A m c] 147
theorem array_is(B:Nat)(p:Pr)(s:ByteArray)(z:Int)(a:optI (zb p.arrays s)=z)(v0 v1:Value)(w:World)(hB:B<=w.heap.size)(ha:SlA B w v0 p.arrays)(hf:SlF B w v1 p.funcs):
 Calls Tryz.prog 135 #[.agg #[v0,v1],.string s] w fun e w'=>e=.returned (.int .i64 z)/\Below w.heap.size w w':=a ▸ array_any B p s v0 v1 w hB ha hf
abbrev three(w:World)(a b:Obj):World:=((w.alloc a).alloc b).alloc (fmO (.slice none 0 0) 0)
theorem za{w:World}{B:Nat}(hB:B<=w.heap.size)(a b:Obj):Below B w (three w a b):=((Zb.alloc hB _).alloc I9 _).alloc I9 _
theorem kc(w:World)(a b:Obj):(three w a b).heap[w.heap.size+1+1]? =some (fmO (.slice none 0 0) 0):=by
 have:=heap_alloc_new ((w.alloc a).alloc b) (fmO (.slice none 0 0) 0);simpa using this
theorem two_cell{W:World}{g:Nat}(b c:Value){k o:Nat}(a:k≠g):((W.setCell ⟨g,0,none⟩ b).setCell ⟨g,1,none⟩ c).cell? ⟨k,o,none⟩=W.cell? ⟨k,o,none⟩:=
 (World.cell?_of_block (w:=W) ((Below.heap_setCell _ _ _ k Ik).trans (Below.heap_setCell _ _ _ k Ik)))
def SlJ(g:Nat)(B:Nat)(w:World)(v:Value)(l:List Int):Prop:=v9 v l.length (RdL 1 (fun(t:Int) k o=>k≠g/\CellB B w k o (.int .i64 t)) l)
theorem SlI.apart{B:Nat}{w W:World}{v:Value}{l:List Int}{g L:Nat}(e:SlI B w v l)(a:∀k,v.ownBlock=some k->L<=k)(i:g<L):SlJ g B w v l:=by
 obtain⟨A,c,rfl,b,hF⟩:=e;refine⟨A,c,rfl,b,fun hp=>?_⟩;obtain⟨k,o,rfl,d⟩:=hF hp;have j:L<=k:=a k rfl;refine⟨k,o,rfl,?_⟩;clear hF b hp a
 induction l generalizing o with
 | nil=>trivial
 | cons t r h=>exact⟨⟨I7,d.1⟩,h (o+1) d.2⟩
theorem SlJ.back{B b:Nat}{w W:World}{v:Value}{l:List Int}{g:Nat}(e:SlJ g B w v l)(hB:B<=b)(c d:Value):SlI b ((w.setCell ⟨g,0,none⟩ c).setCell ⟨g,1,none⟩ d) v l:=
 v9.imp e fun _ _=>RdL.imp (fun _ _ _ a=>⟨Nat.lt_of_lt_of_le a.2.1 hB,(two_cell c d a.1).trans a.2.2⟩) l _ _
set_option linter.unusedSectionVars false
section
variable (B C D:Nat) (p:Pr) (vars:List Pa) (op n:Int) (s:ByteArray) (A:Option Addr) (m c:Nat) (v0 v1 v:Value) (w:World)
variable (hB:B<=w.heap.size) (hC:C<=w.heap.size) (hD:D<=w.heap.size) (ha:SlA B w v0 p.arrays) (hf:SlF B w v1 p.funcs) (hS:Seg w C (.pointer none) D v vars.reverse) (hp:Few p)
include hB hC hD ha hf hS hp in
theorem formOf_num:Calls Tryz.prog 153 #[.agg #[v0,v1],v,.agg #[.int .i64 1,.int .i64 op,.int .i64 n,.string s,.slice A m c]] w (jO w ([],1,0)):=by
 exact Od
include hB hC hD ha hf hS hp in
theorem formOf_read:Calls Tryz.prog 153 #[.agg #[v0,v1],v,.agg #[.int .i64 8,.int .i64 op,.int .i64 n,.string s,.slice A m c]] w (jO w ([],1,0)):=by
 exact Od
include hB hC hD ha hf hS hp in
theorem formOf_truth:Calls Tryz.prog 153 #[.agg #[v0,v1],v,.agg #[.int .i64 2,.int .i64 op,.int .i64 n,.string s,.slice A m c]] w (jO w ([],2,0)):=by
 obtain⟨a,d,rfl,_⟩:=ha.form;obtain⟨b,e,rfl,u⟩:=hf.form;obtain⟨q,rfl⟩:=(hS.fin (Fin.nil _ _)).form;have h:=hid ha;have i:=hid hf;have l:=hid hS;have j:=hid hp;have r:=hid (fun k=>za (B:=B) hB (jT a p.arrays.length d b p.funcs.length e) (xw k op n s A m c));have t:=hid (fun k=>za (B:=w.heap.size) Zr (jT a p.arrays.length d b p.funcs.length e) (xw k op n s A m c));have o:=hid (fun k=>kc w (jT a p.arrays.length d b p.funcs.length e) (xw k op n s A m c));clear ha hf hS hp;go_enter Tryz.func153,Tryz.ntmps153;go_wp2_with (fail);refine bodyPost_ret (v:=.tuple #[.agg #[.slice none 0 0,.int .i64 (2)],.int .i64 0]) (by simp[results,Tryz.results153,go_sem]) rfl ?_;exact⟨(((Zb.alloc Zr _).alloc Ia _).alloc I9 _),_,rfl,yH _ _,fun k g=>by cases g⟩
include hB hC hD ha hf hS hp in
theorem formOf_var_no(i:kI vars s=none):Calls Tryz.prog 153 #[.agg #[v0,v1],v,.agg #[.int .i64 3,.int .i64 op,.int .i64 n,.string s,.slice A m c]] w (jO w ([],0,50)):=by
 obtain⟨a,d,rfl,_⟩:=ha.form;obtain⟨b,g,rfl,F⟩:=hf.form;obtain⟨q,rfl⟩:=(hS.fin (Fin.nil _ _)).form;have t:=hid ha;have u:=hid hf;have j:=hid hS;have x:=hid hp;have z:=hid (fun k=>za (B:=B) hB (jT a p.arrays.length d b p.funcs.length g) (xw k op n s A m c));have E:=hid (fun k=>za (B:=w.heap.size) Zr (jT a p.arrays.length d b p.funcs.length g) (xw k op n s A m c));have y:=hid (fun k=>kc w (jT a p.arrays.length d b p.funcs.length g) (xw k op n s A m c));have l:=hid ((xV s vars).symm.trans i);clear ha hf hS hp i;go_enter Tryz.func153,Tryz.ntmps153
 go_wp2_with (go_at_call 110;(with_reducible refine(kC _ C D _ _ _ s I9 (Fin.nil _ _) (j.out.below (za hD (jT a p.arrays.length d b p.funcs.length g) (xw 3 op n s A m c)))).mono ?_);rintro e G ⟨h,rfl⟩
              have o:e=.returned (.pointer none):=by
               rw[l.out]at h;exact h
              clear h
              subst o)
 refine bodyPost_ret (v:=.tuple #[.agg #[.slice none 0 0,.int .i64 (0)],.int .i64 50]) (by simp[results,Tryz.results153,go_sem]) rfl ?_;exact⟨(((Zb.alloc Zr _).alloc Ia _).alloc I9 _),_,rfl,yH _ _,fun k r=>by cases r⟩
include hB hC hD ha hf hS hp in
theorem formOf_var_yes(t:Int)(j:kI vars s=some t):Calls Tryz.prog 153 #[.agg #[v0,v1],v,.agg #[.int .i64 3,.int .i64 op,.int .i64 n,.string s,.slice A m c]] w (jO w ([],t,0)):=by
 obtain⟨a,d,rfl,_⟩:=ha.form;obtain⟨b,h,rfl,K⟩:=hf.form;obtain⟨q,rfl⟩:=(hS.fin (Fin.nil _ _)).form;have x:=hid ha;have y:=hid hf;have l:=hid hS;have z:=hid hp;have F:=hid (fun k=>za (B:=B) hB (jT a p.arrays.length d b p.funcs.length h) (xw k op n s A m c));have G:=hid (fun k=>za (B:=w.heap.size) Zr (jT a p.arrays.length d b p.funcs.length h) (xw k op n s A m c));have E:=hid (fun k=>kc w (jT a p.arrays.length d b p.funcs.length h) (xw k op n s A m c));have o:=hid ((xV s vars).symm.trans j);clear ha hf hS hp j;go_enter Tryz.func153,Tryz.ntmps153
 go_wp2_with (go_at_call 110;(with_reducible refine(kC _ C D _ _ _ s I9 (Fin.nil _ _) (l.out.below (za hD (jT a p.arrays.length d b p.funcs.length h) (xw 3 op n s A m c)))).mono ?_);rintro e M ⟨i,rfl⟩
              have r:∃g,e=.returned (.pointer (some ⟨g,0,none⟩))/\g<D/\(three w (jT a p.arrays.length d b p.funcs.length h) (xw 3 op n s A m c)).cell? ⟨g,1,none⟩=some (.int .i64 t):=by
               rw[o.out]at i;exact i
              clear i;obtain⟨g,rfl,H,I⟩:=r;have J:g<w.heap.size:=I7
              have L:g≠w.heap.size+1+1:=I7)
 refine bodyPost_ret (v:=.tuple #[.agg #[.slice none 0 0,.int .i64 (t)],.int .i64 0]) (by simp[results,Tryz.results153,go_sem]) rfl ?_;exact⟨(((Zb.alloc Zr _).alloc Ia _).alloc I9 _),_,rfl,yH _ _,fun k u=>by cases u⟩
include hB hC hD ha hf hS hp in
theorem formOf_one:Calls Tryz.prog 153 #[.agg #[v0,v1],v,.agg #[.int .i64 4,.int .i64 op,.int .i64 n,.string s,.slice A m c]] w (jO w ([jW op],uM op,0)):=by
 obtain⟨a,d,rfl,_⟩:=ha.form;obtain⟨b,g,rfl,y⟩:=hf.form;obtain⟨q,rfl⟩:=(hS.fin (Fin.nil _ _)).form;have i:=hid ha;have j:=hid hf;have r:=hid hS;have o:=hid hp;have u:=hid (fun k=>za (B:=B) hB (jT a p.arrays.length d b p.funcs.length g) (xw k op n s A m c));have x:=hid (fun k=>za (B:=w.heap.size) Zr (jT a p.arrays.length d b p.funcs.length g) (xw k op n s A m c));have t:=hid (fun k=>kc w (jT a p.arrays.length d b p.funcs.length g) (xw k op n s A m c));clear ha hf hS hp;go_enter Tryz.func153,Tryz.ntmps153;go_wp2_with (go_at_call 162;(with_reducible refine(operator_any op _).mono ?_);rintro e z ⟨rfl,rfl⟩);refine bodyPost_ret (v:=.tuple #[.agg #[.slice (some ⟨w.heap.size+1+1+1,0,none⟩) 1 1,.int .i64 (uM op)],.int .i64 0]) (by simp[results,Tryz.results153,go_sem]) rfl ?_;refine⟨(((Zb.alloc Zr _).alloc Ia _).alloc I9 _).alloc I9 _,_,rfl,?_,fun k h=>U9⟩;exact slI_at (l:=[jW op]) (T:=3) (fr:=(0,0)) (by have:=heap_alloc_new (((w.alloc (jT a p.arrays.length d b p.funcs.length g)).alloc (xw 4 op n s A m c)).alloc (fmO (.slice (some ⟨w.heap.size+1+1+1,0,none⟩) 1 1) (uM op))) (.cells #[.int .i64 (jW op)] 3);simpa using this) Ia Ia 1
include hB hC hD ha hf hS hp in
theorem formOf_two:Calls Tryz.prog 153 #[.agg #[v0,v1],v,.agg #[.int .i64 5,.int .i64 op,.int .i64 n,.string s,.slice A m c]] w (jO w ([jW op,jW op],uM op,0)):=by
 obtain⟨a,d,rfl,_⟩:=ha.form;obtain⟨b,g,rfl,y⟩:=hf.form;obtain⟨q,rfl⟩:=(hS.fin (Fin.nil _ _)).form;have i:=hid ha;have j:=hid hf;have r:=hid hS;have o:=hid hp;have u:=hid (fun k=>za (B:=B) hB (jT a p.arrays.length d b p.funcs.length g) (xw k op n s A m c));have x:=hid (fun k=>za (B:=w.heap.size) Zr (jT a p.arrays.length d b p.funcs.length g) (xw k op n s A m c));have t:=hid (fun k=>kc w (jT a p.arrays.length d b p.funcs.length g) (xw k op n s A m c));clear ha hf hS hp;go_enter Tryz.func153,Tryz.ntmps153;go_wp2_with (go_at_call 162;(with_reducible refine(operator_any op _).mono ?_);rintro e z ⟨rfl,rfl⟩);refine bodyPost_ret (v:=.tuple #[.agg #[.slice (some ⟨w.heap.size+1+1+1,0,none⟩) 2 2,.int .i64 (uM op)],.int .i64 0]) (by simp[results,Tryz.results153,go_sem]) rfl ?_;refine⟨(((Zb.alloc Zr _).alloc Ia _).alloc I9 _).alloc I9 _,_,rfl,?_,fun k h=>U9⟩;exact slI_at (l:=[jW op,jW op]) (T:=3) (fr:=(0,0)) (by have:=heap_alloc_new (((w.alloc (jT a p.arrays.length d b p.funcs.length g)).alloc (xw 5 op n s A m c)).alloc (fmO (.slice (some ⟨w.heap.size+1+1+1,0,none⟩) 2 2) (uM op))) (.cells #[.int .i64 (jW op),.int .i64 (jW op)] 3);simpa using this) Ia Ia 2
include hB hC hD ha hf hS hp in
theorem formOf_index_no(b:zb p.arrays s=none):Calls Tryz.prog 153 #[.agg #[v0,v1],v,.agg #[.int .i64 6,.int .i64 op,.int .i64 n,.string s,.slice A m c]] w (jO w ([],0,50)):=by
 obtain⟨d,h,rfl,_⟩:=ha.form;obtain⟨g,i,rfl,F⟩:=hf.form;obtain⟨q,rfl⟩:=(hS.fin (Fin.nil _ _)).form;have r:=hid ha;have u:=hid hf;have E:=hid hS;have D:=hid hp;have j:=hid (fun k=>za (B:=B) hB (jT d p.arrays.length h g p.funcs.length i) (xw k op n s A m c));have z:=hid (fun k=>za (B:=w.heap.size) Zr (jT d p.arrays.length h g p.funcs.length i) (xw k op n s A m c));have y:=hid (fun k=>kc w (jT d p.arrays.length h g p.funcs.length i) (xw k op n s A m c));have x:=hid (show optI (zb p.arrays s)= -1 by rw[b];rfl);clear ha hf hS hp b;go_enter Tryz.func153,Tryz.ntmps153
 go_wp2_with (go_at_call 135;(with_reducible refine(array_is B p s _ x.out _ _ _ I9 (r.out.below (j.out 6) Zr) (u.out.below (j.out 6) Zr)).mono ?_);rintro e o ⟨rfl,a⟩
              have l:=hid ((a.block (w.heap.size+1+1) Ia).trans (y.out 6));obtain⟨⟨H,I⟩,J⟩:=zO l.out;have G:w.heap.size+1+1<o.heap.size:=Qe
              have t:=hid (show Below w.heap.size w o from(z.out 6).trans (a.mono I9))
              clear a)
 obtain⟨C,f1⟩:=xF l.out (.slice none 0 0) (.int .i64 (0));refine bodyPost_ret (v:=.tuple #[.agg #[.slice none 0 0,.int .i64 (0)],.int .i64 (50)]) (by simp[results,Tryz.results153,go_sem,C,f1]) rfl ?_;refine⟨ja t.out I7 _ _,_,rfl,?_,?_⟩
 .exact yH _ _
 .exact fun k b=>IB
include hB hC hD ha hf hS hp in
theorem formOf_index_yes(k:Nat)(b:zb p.arrays s=some k):Calls Tryz.prog 153 #[.agg #[v0,v1],v,.agg #[.int .i64 6,.int .i64 op,.int .i64 n,.string s,.slice A m c]] w (jO w ([1],1,0)):=by
 obtain⟨g,i,rfl,_⟩:=ha.form;obtain⟨h,j,rfl,G⟩:=hf.form;obtain⟨q,rfl⟩:=(hS.fin (Fin.nil _ _)).form;have t:=hid ha;have x:=hid hf;have F:=hid hS;have E:=hid hp;have o:=hid (fun k=>za (B:=B) hB (jT g p.arrays.length i h p.funcs.length j) (xw k op n s A m c));have C:=hid (fun k=>za (B:=w.heap.size) Zr (jT g p.arrays.length i h p.funcs.length j) (xw k op n s A m c));have z:=hid (fun k=>kc w (jT g p.arrays.length i h p.funcs.length j) (xw k op n s A m c));have y:=hid (show optI (zb p.arrays s)=(k:Int)by rw[b];rfl);clear ha hf hS hp b;go_enter Tryz.func153,Tryz.ntmps153
 go_wp2_with (go_at_call 135;(with_reducible refine(array_is B p s _ y.out _ _ _ I9 (t.out.below (o.out 6) Zr) (x.out.below (o.out 6) Zr)).mono ?_);rintro e a ⟨rfl,d⟩
              have r:=hid ((d.block (w.heap.size+1+1) Ia).trans (z.out 6));obtain⟨⟨I,J⟩,K⟩:=zO r.out;have H:w.heap.size+1+1<a.heap.size:=Ur
              have u:=hid (show Below w.heap.size w a from(C.out 6).trans (d.mono I9))
              clear d)
 obtain⟨D,f1⟩:=two_seta r.out (.slice (some ⟨a.heap.size,0,none⟩) 1 1) (.int .i64 (1)) (.cells #[.int .i64 1] 3);refine bodyPost_ret (v:=.tuple #[.agg #[.slice (some ⟨a.heap.size,0,none⟩) 1 1,.int .i64 (1)],.int .i64 (0)]) (by simp[results,Tryz.results153,go_sem,D,f1]) rfl ?_;refine⟨(ja u.out I7 _ _).alloc I9 _,_,rfl,?_,?_⟩
 .exact slI_at (l:=[1]) (T:=3) (fr:=(0,0)) (by have:=heap_alloc_new ((a.setCell ⟨w.heap.size+1+1,0,none⟩ (.slice (some ⟨a.heap.size,0,none⟩) 1 1)).setCell ⟨w.heap.size+1+1,1,none⟩ (.int .i64 1)) (.cells #[.int .i64 1] 3);simpa using this) Ia Ia 1
 .exact fun k b=>by injection b with b;subst b;show w.heap.size<=a.heap.size;omega
include hB hC hD ha hf hS hp in
theorem formOf_call:Calls Tryz.prog 153 #[.agg #[v0,v1],v,.agg #[.int .i64 7,.int .i64 op,.int .i64 n,.string s,.slice A m c]] w (jO w (cfT p s)):=by
 obtain⟨d,i,rfl,_⟩:=ha.form;obtain⟨h,j,rfl,M⟩:=hf.form;obtain⟨q,rfl⟩:=(hS.fin (Fin.nil _ _)).form;have z:=hid ha;have D:=hid hf;have L:=hid hS;have G:=hid hp;have t:=hid (fun k=>za (B:=B) hB (jT d p.arrays.length i h p.funcs.length j) (xw k op n s A m c));have I:=hid (fun k=>za (B:=w.heap.size) Zr (jT d p.arrays.length i h p.funcs.length j) (xw k op n s A m c));have H:=hid (fun k=>kc w (jT d p.arrays.length i h p.funcs.length j) (xw k op n s A m c));clear ha hf hS hp;go_enter Tryz.func153,Tryz.ntmps153
 go_wp2_with (go_at_call 163;(with_reducible refine(callForm_any B p s _ _ _ I9 (z.out.below (t.out 7) Zr) (D.out.below (t.out 7) Zr) G.out).mono ?_);rintro e b ⟨a,u,rfl,l,o⟩
              obtain⟨r,y,rfl,_⟩:=l.form;have E:=hid (l.apart (W:=b) (g:=w.heap.size+1+1) o Ia);have x:=hid ((a.block (w.heap.size+1+1) Ia).trans (H.out 7));obtain⟨⟨O,P⟩,Q⟩:=zO x.out;have N:w.heap.size+1+1<b.heap.size:=Qe
              have C:=hid (show Below w.heap.size w b from(I.out 7).trans (a.mono I9));have F:=hid o
              clear a l o)
 obtain⟨J,f1⟩:=xF x.out (.slice r (cfT p s).1.length y) (.int .i64 ((cfT p s).2.1));refine bodyPost_ret (v:=.tuple #[.agg #[.slice r (cfT p s).1.length y,.int .i64 ((cfT p s).2.1)],.int .i64 ((cfT p s).2.2)]) (by simp[results,Tryz.results153,go_sem,J,f1]) rfl ?_;refine⟨ja C.out I7 _ _,_,rfl,?_,?_⟩
 .exact E.out.back (W:=b) Ia _ _
 .exact fun k K=>by have:=F.out k K;simp at this;omega
end
end Go.Proofs.YthcmenajdcbnnaaGreatDoor
