import Derived.Test.YthcmenajdcbnnaaGreatDoorAtEvOff
import Derived.Test.YthcmenajdcbnnaaGreatDoorAtEvVm
set_option linter.unusedSimpArgs false
set_option linter.unusedVariables false
set_option maxRecDepth 100000
set_option maxHeartbeats 99000000
/- The document's runs: what its calls are to do. -/
namespace Go.Proofs.YthcmenajdcbnnaaGreatDoor
open Lib (hid)
open Go.RowKit
section
variable {c:Cfg} {g f:Nat} {w w':World} {vo vo' vv:Value} {s s':RS} {vs:Vals} {how n:Int}
end
theorem evAt_lt{vs:Vals}{s:ByteArray}{k:Nat}(a:kB vs s=some k):k<vs.length:=by
 have:=(List.getElem?_eq_some_iff.1 (evAt_nm a)).1;simpa[yR]using this
theorem lst2{l:List Int}(c:l.length=2):∃a b,l=[a,b]:=by
 match l,c with
 | [a,b],_=>exact⟨a,b,rfl⟩
theorem lst1{l:List Int}(b:l.length=1):∃a,l=[a]:=by
 match l,b with
 | [a],_=>exact⟨a,rfl⟩
theorem slC_tail{B:Nat}{w:World}{g o c:Nat}{x:Int}{l:List Int}(h:SlC B w (.slice (some ⟨g,o,none⟩) (l.length+1) c) (x::l)):SlC B w (.slice (some ⟨g,o+1,none⟩) l.length (c-1)) l:=by
 obtain⟨⟨b,t,q,p,hF⟩,m⟩:=h;have z:=m _ _ _ rfl;injection q with d _ _;refine⟨⟨_,_,rfl,by rw[List.length_cons]at p;omega,fun _=>?_⟩,fun b n r e=>?_⟩
 .obtain⟨y,A,a,i⟩:=hF (by rw[List.length_cons];omega)
  rw[<-d]at a;injection a with a;injection a with j k _;subst j k;exact⟨g,o+1,rfl,i.2⟩
 .injection e with _ u v
  omega
theorem slC_last{B:Nat}{w:World}{a:Option Addr}{l:List Int}(b:l.length=0)(c:Nat):SlC B w (.slice a l.length c) l:=by
 obtain rfl:=List.eq_nil_of_length_eq_zero b;exact⟨⟨a,c,rfl,Nat.zero_le _,fun b=>absurd b Ia⟩,fun a n g e=>by injection e with _ d _;subst d;exact Nat.zero_le _⟩
theorem fmE_kind{k op n:Int}{s:ByteArray}{b:Nat}(a:zj k op n s b=true):k=1\/k=2\/k=3\/k=4\/k=5\/k=6\/k=7\/k=8:=by
 unfold zj at a
 repeat' split at a
 all_goals(first|omega|cases a)
theorem fmE_len{k op n:Int}{s:ByteArray}{b:Nat}(a:zj k op n s b=true):(k=4\/k=6->b=1)/\(k=5->b=2):=by
 unfold zj at a
 repeat' split at a
 all_goals(first|(exfalso;cases a;done)|(simp at a;exact⟨fun c=>I7,fun d=>I7⟩))
section
variable {c:Cfg} {g:Nat} {vs:Vals} {args:List Ex} {w1:World} {vo:Value} {t0:RS} {f:Nat} {vv:Value} {how n:Int} {av:Value} {wr:World} {j:Nat} {q:List Int} {t:RS} {vo1:Value}
end
end Go.Proofs.YthcmenajdcbnnaaGreatDoor
namespace Go.Proofs.YthcmenajdcbnnaaGreatDoor
open Lib (hid)
open Go.RowKit Go.Maps
theorem estr_law:Keyed Tryz.prog 9:=string_keyed Tryz.underlying9
def ekeyL(s:ByteArray):Lit:=.string s.data.toList
theorem ekeyL_ne{s t:ByteArray}(a:s≠t):ekeyL s≠ekeyL t:=fun e=>a (by
 unfold ekeyL at e;injection e with e;cases s;cases t
 simpa[Array.toList_inj]using e)
theorem ekey_of{s:ByteArray}(a:s.size<=maxLen):keyOf Tryz.prog 9 (.string s)=some (ekeyL s):=WideMaps.keyOf_string_mk Tryz.underlying9 a
abbrev heldE:Value->Option (DataW Value × List MemPlace):=fun v=>some (.held v,[])
def MapV(w:World)(m n:Nat)(z:Value)(f:ByteArray->Value):Prop:=
 ∃D:DataW Value,w.ownsMap Tryz.prog 9 heldE m n D/\∀s:ByteArray,D.atKey (ekeyL s) (.held z)=.held (f s)
section
variable {w w':World} {m n:Nat} {z:Value} {f:ByteArray->Value}
theorem MapV.lt(a:MapV w m n z f):m<w.heap.size:=by obtain⟨D,a,_⟩:=a;exact a.lt
theorem MapV.of_block(c:MapV w m n z f)(h:w'.heap[m]? =w.heap[m]?):MapV w' m n z f:=by
 obtain⟨D,⟨b,a,g,d⟩,e⟩:=c;exact⟨D,⟨b,a,h.trans g,d⟩,e⟩
theorem MapV.congr(a:MapV w m n z f){g:ByteArray->Value}(e:∀s,g s=f s):MapV w m n z g:=by
 obtain⟨D,a,b⟩:=a;exact⟨D,a,fun s=>(b s).trans (by rw[e])⟩
theorem emap_made(w:World)(z:Value):MapV (w.alloc (.map #[] 0)) w.heap.size 0 z fun _=>z:=⟨_,World.ownsMap_made _ _ _ _,fun s=>rfl⟩
def upV(f:ByteArray->Value)(s:ByteArray)(v:Value)(t:ByteArray):Value:=if t=s then v else f t
theorem eowns_map{D:DataW Value}(a:w.ownsMap Tryz.prog 9 heldE m n D):IsMap D:=by
 obtain⟨d,c,_,_,_,b⟩:=a;exact⟨_,b⟩
theorem mapV_put{D:DataW Value}(b:IsMap D)(a:∀s:ByteArray,D.atKey (ekeyL s) (.held z)=.held (f s))(s:ByteArray)(v:Value):
 ∀t:ByteArray,(D.put (ekeyL s) (.held v)).atKey (ekeyL t) (.held z)=.held (upV f s v t):=fun t=>by
 unfold upV;by_cases e:t=s
 .subst e
  rw[if_pos rfl];exact atKey_put_same b (show WideAt.IsKeyLit (.string _)from trivial) _ _
 .rw[if_neg e,<-a t]
  exact atKey_put_other (ekeyL_ne e) _ _
theorem MapV.look(c:MapV w m n z f){t e:TypeId}(j:Tryz.prog.underlying t=some (.map 9 e))(k:(zeroValue e).run Tryz.prog w=.ok z w){s:ByteArray}(i:s.size<=maxLen):
 (Instr.lookup t (.map (some m)) (.string s) false).run Tryz.prog w=.ok (f s) w:=by
 obtain⟨D,g,d⟩:=c;obtain⟨v,ps,h,a⟩:=g.lookup estr_law j k (zd:=.held z) (zp:=[]) rfl (ekey_of i);rw[d s]at a;injection a with a;injection a with b _;injection b with b;rw[h,b]
theorem uW{ops:Array Oper}{d:List Oper}{o:Oper}{a:Act}{Q:Exit->Act->World->Prop}(l:o.guard=none)(b x vv:Operand)(t:TypeId)(r:o.op=Op.mapUpdate t b x vv)
 (e:TypeId) (v:Tryz.prog.underlying t=some (.map 9 e)) (p:a.eval b=.map (some m)) (g:MapV w m n z f) (q:n<maxLen) (s:ByteArray) (A:a.eval x=.string s) (u:s.size<=maxLen) (val:Value) (y:a.eval vv=val)
 (j:∀w',MapV w' m (n+1) z (upV f s val)->w.grownBy w' (some m)->wpList Tryz.prog ops Q d (a.put o.dst undef) w'):wpList Tryz.prog ops Q (o::d) a w:=by
 obtain⟨D,c,k⟩:=g;exact wpList_mapUpdate_own w l b x vv t r 9 e estr_law v heldE m n D p c q (.string s) val (ekeyL s) A y (ekey_of u) (.held val) [] rfl fun w' h i=>j w' ⟨_,h,mapV_put (eowns_map c) k s val⟩ i
theorem MapV.upd(b:MapV w m n z f){t e:TypeId}(l:Tryz.prog.underlying t=some (.map 9 e))(i:n<maxLen){s:ByteArray}(k:s.size<=maxLen)(val:Value):
 ∃w',(Instr.mapUpdate t (.map (some m)) (.string s) val).run Tryz.prog w=.ok () w'/\MapV w' m (n+1) z (upV f s val)/\w.grownBy w' (some m):=by
 obtain⟨D,a,h⟩:=b;obtain⟨w',j,c,g⟩:=a.update estr_law l i (ekey_of k) (val:=val) (d:=.held val) (ps:=[]) rfl;exact⟨w',j,⟨_,c,mapV_put (eowns_map a) h s val⟩,g⟩
end
inductive Lb where
 | gl
 | mach
 | funs
 | arrs
 | code
 | arr (k:Nat)
 | vals
 | outs
 | frm (d:Nat)
 | vmap (d i:Nat)
 | outr (d:Nat)
 | cel (d i:Nat)
structure Gm where
 B:Nat
 b:Nat
 p:Pr
 fm:Nat
 am:Nat
 fv:ByteArray->Value
 kp:Nat->Obj->Prop
def PtE(B:Nat)(w:World)(v:Value)(e:Ex):Prop:=∃g o,v=.pointer (some ⟨g,o,none⟩)/\RdE B w e g o
def PtS(B:Nat)(w:World)(v:Value)(t:St):Prop:=∃g o,v=.pointer (some ⟨g,o,none⟩)/\RdS B w t g o
theorem PtE.below{B a:Nat}{w w':World}{v:Value}{e:Ex}(b:PtE B w v e)(i:Below B w w')(h:B<=a):PtE a w' v e:=by
 obtain⟨g,o,c,d⟩:=b;exact⟨g,o,c,RdE.below i h e g o d⟩
theorem PtS.below{B a:Nat}{w w':World}{v:Value}{e:St}(b:PtS B w v e)(i:Below B w w')(h:B<=a):PtS a w' v e:=by
 obtain⟨g,o,c,d⟩:=b;exact⟨g,o,c,RdS.below i h e g o d⟩
def InsP(B:Nat)(w:World):Ins->Value->Value->Value->Value->Prop
 | .beg,a,b,c,d=>a=.int .i64 0/\b=.int .i64 0/\c=.pointer none/\d=.pointer none
 | .app e,a,b,c,d=>a=.int .i64 1/\b=.int .i64 0/\PtE B w c e/\d=.pointer none
 | .fin t,a,b,c,d=>a=.int .i64 2/\b=.int .i64 0/\c=.pointer none/\PtS B w d t
 | .jmp t,a,b,c,d=>a=.int .i64 3/\b=.int .i64 (t:Int)/\c=.pointer none/\d=.pointer none
 | .unl t,a,b,c,d=>a=.int .i64 4/\b=.int .i64 (t:Int)/\c=.pointer none/\d=.pointer none
 | .lzy z t,a,b,c,d=>a=.int .i64 (if z then 5 else 6)/\b=.int .i64 (t:Int)/\c=.pointer none/\d=.pointer none
 | .ent,a,b,c,d=>a=.int .i64 7/\b=.int .i64 0/\c=.pointer none/\d=.pointer none
 | .lve,a,b,c,d=>a=.int .i64 8/\b=.int .i64 0/\c=.pointer none/\d=.pointer none
theorem InsP.below{B e:Nat}{w w':World}(i:Below B w w')(g:B<=e):∀{x:Ins} {a b c d:Value},InsP B w x a b c d->InsP e w' x a b c d
 | .beg,_,_,_,_,h=>h
 | .app _,_,_,_,_,h=>⟨h.1,h.2.1,h.2.2.1.below i g,h.2.2.2⟩
 | .fin _,_,_,_,_,h=>⟨h.1,h.2.1,h.2.2.1,h.2.2.2.below i g⟩
 | .jmp _,_,_,_,_,h=>h
 | .unl _,_,_,_,_,h=>h
 | .lzy _ _,_,_,_,_,h=>h
 | .ent,_,_,_,_,h=>h
 | .lve,_,_,_,_,h=>h
def CodeW(B:Nat)(τ:Nat->Lb)(w:World)(v:Value)(l:List Ins):Prop:=
 ∃(e:Option Addr) (h:Nat),v=.slice e l.length h/\l.length<=281474976710656/\(0<l.length->∃g,e=some ⟨g,0,none⟩/\τ g=.code/\g<w.heap.size/\
   ∀i x,l[i]? =some x->∃a b c d,InsP B w x a b c d/\w.cell? ⟨g,i*4,none⟩=some a/\w.cell? ⟨g,i*4+1,none⟩=some b/\w.cell? ⟨g,i*4+2,none⟩=some c/\w.cell? ⟨g,i*4+3,none⟩=some d)
def RowI(B:Nat)(τ:Nat->Lb)(l:Lb)(w:World)(v:Value)(a:List Int):Prop:=w.ownsRow B 3 1 v a.length (a.map (Value.int .i64))/\∀b,v.ownBlock=some b->τ b=l
def envF(vs:Vals)(locs:List Nat)(s:ByteArray):Value:=match kB vs s with
 | some k=>match locs[k]? with
   | some l=>.pointer (some ⟨l,0,none⟩)
   | none=>.pointer none
 | none=>.pointer none
def VMap(τ:Nat->Lb)(w:World)(d i m:Nat)(vs:Vals)(locs:List Nat):Prop:=τ m=.vmap d i/\MapV w m vs.length (.pointer none) (envF vs locs)
abbrev caO(b:Value)(a mp:Nat)(vo pa:Value):Obj:=.cells #[b,.int .i64 (a:Int),.map (some mp),vo,pa] 167
structure FrI (B:Nat) (τ:Nat->Lb) (w:World) (d a:Nat) (pa:Value) (c:Fr) (vc:Value) (mp:Nat) (vo:Value) (locs ms:List Nat):Prop where
 box:w.heap[a]? =some (caO vc c.pl mp vo pa)
 lab:τ a=.frm d
 code:CodeW B τ w vc c.code
 ll:locs.length=c.vs.length
 cell:∀i l x,locs[i]? =some l->c.vs[i]? =some x->τ l=.cel d i/\w.heap[l]? =some (.cells #[.int .i64 x.2] 3)/\i64R x.2
 map:VMap τ w d c.o.length mp c.vs locs
 ml:ms.length=c.o.length
 row:w.ownsRow B 163 1 vo c.o.length (ms.map fun m=>.map (some m))
 rol:∀b,vo.ownBlock=some b->τ b=.outr d
 out:∀i m k,ms[i]? =some m->c.o[i]? =some k->VMap τ w d i m (c.vs.take k) locs
 ord:(c.o++[c.vs.length]).Pairwise (·<=·)
def Frs(B:Nat)(τ:Nat->Lb)(w:World):Value->List Fr->Prop
 | v,[]=>v=.pointer none
 | v,c::r=>∃a pa d mp vo locs b,v=.pointer (some ⟨a,0,none⟩)/\FrI B τ w r.length a pa c d mp vo locs b/\Frs B τ w pa r
def Funs(G:Gm)(τ:Nat->Lb)(w:World):Prop:=
 τ G.fm=.funs/\(∃n,MapV w G.fm n (.agg #[.slice none 0 0,.slice none 0 0]) G.fv)/\∀s f,jH G.p s=some f->∃b a,G.fv s=.agg #[b,a]/\SlP G.B w b f.params/\CodeW G.B τ w a (genF f)
def arrF(p:Pr)(a:List Nat)(arr:List (List Int))(s:ByteArray):Value:=match zb p.arrays s with
 | some k=>arV (a.getD k 0,arr.getD k [])
 | none=>.slice none 0 0
structure ArrR (G:Gm) (τ:Nat->Lb) (w:World) (arr:List (List Int)) (rows:List Nat):Prop where
 lab:τ G.am=.arrs
 len:arr.length=G.p.arrays.length
 rl:rows.length=arr.length
 map:∃n,MapV w G.am n (.slice none 0 0) (arrF G.p rows arr)
 row:∀k g l,rows[k]? =some g->arr[k]? =some l->τ g=.arr k/\w.heap[g]? =some (inO l)/\AllR64 l/\l.length<=1000
def Arrs(G:Gm)(τ:Nat->Lb)(w:World)(arr:List (List Int)):Prop:=∃a,ArrR G τ w arr a
abbrev mcO(G:Gm)(vi vv pa vo:Value)(s:RS):Obj:=.cells #[.map (some G.fm),.map (some G.am),vi,vv,pa,.int .i64 0,.int .i64 0,vo,.int .i64 (s.cost:Int),.int .i64 (s.fuel:Int)] 74
structure MwI (G:Gm) (τ:Nat->Lb) (w:World) (m:Vm) (vi vv pa vo:Value):Prop where
 hB:G.B<=w.heap.size
 old:∀k,k<G.B->τ k=.gl
 tab:TreeTab G.B w
 pok:prOK G.p=true
 box:w.heap[G.b]? =some (mcO G vi vv pa vo m.s)
 lab:τ G.b=.mach
 inp:SlC G.B w vi m.s.inp
 val:RowI G.B τ .vals w vv m.v
 out:RowI G.B τ .outs w vo m.s.out
 frs:Frs G.B τ w pa m.cs
 fun':Funs G τ w
 arr:Arrs G τ w m.s.arr
 nv:AllR64 m.v
 ni:AllR64 m.s.inp
 no:m.s.out.length<=m.s.cost
 lim:m.s.cost+m.s.fuel<=1000000000
 kp:∀k o,G.kp k o->τ k=.gl/\w.heap[k]? =some o
def MW(G:Gm)(τ:Nat->Lb)(w:World)(m:Vm):Prop:=∃vi vv pa vo,MwI G τ w m vi vv pa vo
def Ext(τ τ':Nat->Lb)(w:World):Prop:=∀k,k<w.heap.size->τ' k=τ k
theorem Ext.refl(τ:Nat->Lb)(w:World):Ext τ τ w:=fun _ _=>rfl
def lbl(τ:Nat->Lb)(b:Nat)(l:Lb)(k:Nat):Lb:=if k=b then l else τ k
theorem uD(τ:Nat->Lb)(b:Nat)(l:Lb):lbl τ b l b=l:=if_pos rfl
theorem uE(τ:Nat->Lb){b k:Nat}(l:Lb)(a:k≠b):lbl τ b l k=τ k:=if_neg a
theorem Ext.lbl(τ:Nat->Lb)(w:World){b:Nat}(l:Lb)(a:w.heap.size<=b):Ext τ (lbl τ b l) w:=fun k c=>if_neg I7
section
variable {B:Nat} {τ τ':Nat->Lb} {X:Lb->Prop} {w w':World}
theorem jo(e:OffX (fun k=>X (τ k)) w w')(d:Ext τ τ' w){k:Nat}{l:Lb}{o:Obj}(b:τ k=l)(c:¬X l)(a:w.heap[k]? =some o):τ' k=l/\w'.heap[k]? =some o:=
 ⟨(d k (zB a)).trans b,(e.block k (zB a) (by rw[b];exact c)).trans a⟩
theorem CodeW.keep{v:Value}{l:List Ins}(t:CodeW B τ w v l)(m:OffX (fun k=>X (τ k)) w w')(F:Ext τ τ' w)(E:Below B w w')(D:¬X .code):CodeW B τ' w' v l:=by
 obtain⟨p,r,u,y,z⟩:=t;refine⟨p,r,u,y,fun H=>?_⟩;obtain⟨g,A,j,h,C⟩:=z H;have G:w'.heap[g]? =w.heap[g]?:=m.block g h (by rw[j];exact D);refine⟨g,A,(F g h).trans j,Nat.lt_of_lt_of_le h m.size,fun i x I=>?_⟩;obtain⟨a,b,c,d,q,J,K,L,M⟩:=C i x I;have e:∀o,w'.cell? ⟨g,o,none⟩=w.cell? ⟨g,o,none⟩:=fun o=>World.cell?_of_block G
 exact⟨a,b,c,d,q.below E Zr,(e _).trans J,(e _).trans K,(e _).trans L,(e _).trans M⟩
theorem RowI.keep{l:Lb}{v:Value}{xs:List Int}(a:RowI B τ l w v xs)(h:OffX (fun k=>X (τ k)) w w')(g:Ext τ τ' w)(e:¬X l):RowI B τ' l w' v xs:=
 ⟨zm a.1 fun k d=>h.block k (qP a.1 k d).1 (by rw[a.2 k d];exact e),fun b c=>(g b (qP a.1 b c).1).trans (a.2 b c)⟩
theorem VMap.keep{d i m:Nat}{vs:Vals}{locs:List Nat}(a:VMap τ w d i m vs locs)(e:OffX (fun k=>X (τ k)) w w')(c:Ext τ τ' w)(b:¬X (.vmap d i)):VMap τ' w' d i m vs locs:=
 ⟨(c m a.2.lt).trans a.1,a.2.of_block (e.block m a.2.lt (by rw[a.1];exact b))⟩
def Deep(X:Lb->Prop)(n:Nat):Prop:=¬X .code/\∀d,d<n->¬X (.frm d)/\¬X (.outr d)/\∀i,¬X (.vmap d i)/\¬X (.cel d i)
theorem FrI.keep{d a:Nat}{pa:Value}{c:Fr}{t:Value}{mp:Nat}{vo:Value}{locs ms:List Nat}(e:FrI B τ w d a pa c t mp vo locs ms)(h:OffX (fun k=>X (τ k)) w w')(g:Ext τ τ' w)(j:Below B w w'){n:Nat}(A:Deep X n)(C:d<n):FrI B τ' w' d a pa c t mp vo locs ms:=by
 obtain⟨u,v⟩:=A;obtain⟨y,z,p⟩:=v d C;have q:=jo h g e.lab y e.box;refine⟨q.2,q.1,e.code.keep h g j u,e.ll,fun i l x D F=>?_,e.map.keep h g (p _).1,e.ml,?_,fun b j=>?_,fun i m k E o=>(e.out i m k E o).keep h g (p i).1,e.ord⟩
 .obtain⟨G,H,I⟩:=e.cell i l x D F
  have r:=jo h g G (p i).2 H;exact⟨r.1,r.2,I⟩
 .exact zm e.row fun k o=>h.block k (qP e.row k o).1 (by rw[e.rol k o];exact z)
 .exact(g b (qP e.row b j).1).trans (e.rol b j)
theorem Frs.keep(e:OffX (fun k=>X (τ k)) w w')(d:Ext τ τ' w)(b:Below B w w'):∀{l:List Fr} {v:Value},Frs B τ w v l->∀{n:Nat},Deep X n->l.length<=n->Frs B τ' w' v l
 | [],_,h,_,_,_=>h
 | c::r,v,h,n,hX,hn=>by
   obtain⟨a,pa,o,mp,vo,locs,m,g,i,j⟩:=h;rw[List.length_cons]at hn;exact⟨a,pa,o,mp,vo,locs,m,g,i.keep e d b hX I7,Frs.keep e d b j hX I7⟩
theorem Funs.keep{G:Gm}(h:Funs G τ w)(g:OffX (fun k=>X (τ k)) w w')(e:Ext τ τ' w)(d:Below G.B w w')(c:¬X .funs/\¬X .code):Funs G τ' w':=by
 obtain⟨b,⟨n,a⟩,i⟩:=h;refine⟨(e _ a.lt).trans b,⟨n,a.of_block (g.block _ a.lt (by rw[b];exact c.1))⟩,fun s f j=>?_⟩;obtain⟨q,p,l,m,o⟩:=i s f j;exact⟨q,p,l,m.below d Zr,o.keep g e d c.2⟩
theorem ArrR.keep{G:Gm}{arr:List (List Int)}{rows:List Nat}(i:ArrR G τ w arr rows)(e:OffX (fun k=>X (τ k)) w w')(d:Ext τ τ' w)(c:¬X .arrs/\∀k,¬X (.arr k)):ArrR G τ' w' arr rows:=by
 obtain⟨b,j,m,⟨n,a⟩,o⟩:=i;refine⟨(d _ a.lt).trans b,j,m,⟨n,a.of_block (e.block _ a.lt (by rw[b];exact c.1))⟩,fun k g l p q=>?_⟩;obtain⟨r,t,u⟩:=o k g l p q;have h:=jo e d r (c.2 k) t;exact⟨h.1,h.2,u⟩
theorem Arrs.keep{G:Gm}{arr:List (List Int)}(a:Arrs G τ w arr)(d:OffX (fun k=>X (τ k)) w w')(c:Ext τ τ' w)(b:¬X .arrs/\∀k,¬X (.arr k)):Arrs G τ' w' arr:=by
 obtain⟨e,a⟩:=a;exact⟨e,a.keep d c b⟩
theorem MwI.below{G:Gm}{m:Vm}{vi vv pa vo:Value}(a:MwI G τ w m vi vv pa vo)(d:OffX (fun k=>X (τ k)) w w')(b:¬X .gl):Below G.B w w':=
 d.below a.hB fun k c=>by rw[a.old k c];exact b
end
abbrev endE(a b:Int):PanicEntry:={ v:=.iface 68 (.agg #[.int .i64 a,.int .i64 b]),recovered:=false }
def endOf(c:Option Int)(t:RS):PanicEntry:=match c with
 | some n=>endE 1 n
 | none=>endE t.stat 0
def uX(G:Gm)(w:World)(m:Vm)(v:Value)(e:Ending)(w':World):Prop:=e=.returned v/\(∃τ,MW G τ w' m)/\Below G.B w w'
def xr(G:Gm)(w:World)(c:Option Int)(t:RS)(e:Ending)(w':World):Prop:=e=.panicked [endOf c t]/\(∃τ v cs,MW G τ w' ⟨t,v,cs⟩)/\Below G.B w w'
section
variable {G:Gm} {τ:Nat->Lb} {w w':World} {m m':Vm} {vi vv pa vo vi' vv' pa' vo':Value}
abbrev XB:Lb->Prop:=fun l=>l=Lb.mach
abbrev XN:Lb->Prop:=fun _=>False
theorem MwI.lt(a:MwI G τ w m vi vv pa vo):G.b<w.heap.size:=zB a.box
theorem MwI.hBb(c:MwI G τ w m vi vv pa vo):G.B<=G.b:=by
 rcases Nat.lt_or_ge G.b G.B with a|a
 .have:=c.old _ a
  rw[c.lab]at this;cases this
 .exact a
theorem MwI.boxed(a:MwI G τ w m vi vv pa vo)(j:∀k,k≠G.b->w'.heap[k]? =w.heap[k]?)(z:w.heap.size=w'.heap.size)(u:w'.os=w.os)(x:w'.tape=w.tape)(t:w'.output=w.output)
 (r:w'.heap[G.b]? =some (mcO G vi' vv' pa' vo' m'.s)) (A:SlC G.B w vi' m'.s.inp) (val:RowI G.B τ .vals w vv' m'.v) (out:RowI G.B τ .outs w vo' m'.s.out) (l:Frs G.B τ w pa' m'.cs) (q:m'.s.arr=m.s.arr)
 (F:AllR64 m'.v) (D:AllR64 m'.s.inp) (E:m'.s.out.length<=m'.s.cost) (C:m'.s.cost+m'.s.fuel<=1000000000):MwI G τ w' m' vi' vv' pa' vo'/\Below G.B w w':=by
 have c:OffX (fun k=>XB (τ k)) w w':=⟨u,x,t,Nat.le_of_eq z,fun k H y=>j k fun e=>y (by rw[e];exact a.lab)⟩
 have g:=Ext.refl τ w;have h:Below G.B w w':=a.below (X:=XB) c (Ib);have p:∀n,Deep XB n:=fun n=>⟨Ib,fun d _=>⟨Ib,Ib,fun i=>⟨Ib,Ib⟩⟩⟩
 refine⟨⟨Iq,a.old,a.tab.below h,a.pok,r,a.lab,A.below h Zr,val.keep (X:=XB) c g (Ib),out.keep (X:=XB) c g (Ib),l.keep (X:=XB) c g h (p _) Zr,a.fun'.keep (X:=XB) c g h ⟨Ib,Ib⟩,?_,F,D,E,C,fun k o j=>⟨(a.kp k o j).1,(jo (X:=XB) c g (a.kp k o j).1 Ib (a.kp k o j).2).2⟩⟩,h⟩;rw[q];exact a.arr.keep (X:=XB) c g ⟨Ib,fun k=>Ib⟩
theorem MwI.keepB(a:MwI G τ w m vi vv pa vo)(c:Below w.heap.size w w'):MwI G τ w' m vi vv pa vo:=by
 have b:OffX (fun k=>XN (τ k)) w w':=OffX.of_below _ c;have e:=Ext.refl τ w;have g:=c.mono a.hB;exact⟨Nat.le_trans a.hB c.size,a.old,a.tab.below g,a.pok,(c.block _ a.lt).trans a.box,a.lab,a.inp.below g Zr,a.val.keep (X:=XN) b e id,a.out.keep (X:=XN) b e id,a.frs.keep (X:=XN) b e g ⟨id,fun d _=>⟨id,id,fun i=>⟨id,id⟩⟩⟩ Zr,a.fun'.keep (X:=XN) b e g ⟨id,id⟩,a.arr.keep (X:=XN) b e ⟨id,fun _=>id⟩,a.nv,a.ni,a.no,a.lim,fun k o h=>⟨(a.kp k o h).1,(c.block k (zB (a.kp k o h).2)).trans (a.kp k o h).2⟩⟩
theorem MwI.cell1(c:MwI G τ w m vi vv pa vo)(i:Nat)(u:Value)(e:(w.setCell ⟨G.b,i,none⟩ u).heap[G.b]? =some (mcO G vi' vv' pa' vo' m'.s))(h:SlC G.B w vi' m'.s.inp)(val:RowI G.B τ .vals w vv' m'.v)(out:RowI G.B τ .outs w vo' m'.s.out)(a:Frs G.B τ w pa' m'.cs)(d:m'.s.arr=m.s.arr)
 (p:AllR64 m'.v) (l:AllR64 m'.s.inp) (o:m'.s.out.length<=m'.s.cost) (j:m'.s.cost+m'.s.fuel<=1000000000):MwI G τ (w.setCell ⟨G.b,i,none⟩ u) m' vi' vv' pa' vo'/\Below G.B w (w.setCell ⟨G.b,i,none⟩ u):=
 c.boxed (fun k g=>Below.heap_setCell w _ u k g) Id rfl rfl rfl e h val out a d p l o j
theorem RowI.form{B:Nat}{l:Lb}{v:Value}{a:List Int}(d:RowI B τ l w v a):∃b c,v=.slice b a.length c:=zU d.1
theorem RowI.cut{B:Nat}{l:Lb}{d:Option Addr}{c:Nat}{q x:List Int}(e:RowI B τ l w (.slice d (q++x).length c) (q++x)):RowI B τ l w (.slice d q.length c) q:=by
 have g:=own_cut e.1 (m:=q.length) (by rw[List.length_append];omega);rw[Nat.mul_one,List.map_append,List.take_left' Ia]at g
 exact⟨g,fun b h=>e.2 b (by
  cases d with
  | none=>exact h
  | some a=>exact h)⟩
end
theorem flat1'(q:List Int)(x:Int)(l:List Int):((q++x::l).map (Value.int .i64))[q.length]? =some (.int .i64 x):=by
 rw[List.getElem?_map,List.getElem?_append_right Zr,Nat.sub_self];rfl
theorem MwI.popped{G:Gm}{τ:Nat->Lb}{w:World}{m:Vm}{vi vv pa vo:Value}(a:MwI G τ w m vi vv pa vo){q:List Int}{x:Int}(j:m.v=q++[x]):
 ∃g c,vv=.slice (some ⟨g,0,none⟩) (q.length+1) c/\q.length<c/\g<w.heap.size/\w.cell? ⟨g,q.length,none⟩=some (.int .i64 x)/\i64R x/\
   MwI G τ (w.setCell ⟨G.b,3,none⟩ (.slice (some ⟨g,0,none⟩) q.length c)) ⟨m.s,q,m.cs⟩ vi (.slice (some ⟨g,0,none⟩) q.length c) pa vo/\Below G.B w (w.setCell ⟨G.b,3,none⟩ (.slice (some ⟨g,0,none⟩) q.length c)):=by
 obtain⟨s,v,k⟩:=m;dsimp only at j;subst j;have e:=a.val;obtain⟨y,c,u⟩:=e.form;subst u;obtain⟨g,z,d,A,o,i,p,C⟩:=yS e.1 Ia;injection d with d _ l;subst d l;have r:(q++[x]).length=q.length+1:=Ia
 have i:(q++[x]).length<=c:=i;have h:=a.cell1 (m':=⟨s,q,k⟩) (vv':=.slice (some ⟨g,0,none⟩) q.length c) 3 (.slice (some ⟨g,0,none⟩) q.length c) (Lib.heap_setCell_same a.box _) a.inp e.cut a.out a.frs rfl (fun n t=>a.nv n (List.mem_append_left _ t)) a.ni a.no a.lim;exact⟨g,c,by rw[r],I7,o,p _ _ (flat1' q x []),a.nv x (List.mem_append_right _ (List.mem_singleton.2 rfl)),h.1,h.2⟩
theorem xI{b g n c:Nat}{x:Int}{w:World}{d h i j k l m o p:Value}{T:TypeId}(a:w.heap[b]? =some (.cells #[d,h,i,.slice (some ⟨g,0,none⟩) (n+1) c,j,k,l,m,o,p] T (0,0)))(E:n<c)(F:g<w.heap.size)(K:w.cell? ⟨g,n,none⟩=some (.int .i64 x))(G:n<=2000000000):
 Calls Tryz.prog 96 #[.pointer (some ⟨b,0,none⟩)] w fun e w'=>e=.returned (.int .i64 x)/\w.setCell ⟨b,3,none⟩ (.slice (some ⟨g,0,none⟩) n c)=w':=by
 obtain⟨⟨q,r,t,u,v,y,z,A,B,C⟩,D⟩:=zI a;have I:=zB a;have H:n<=n+1:=Nat.le_succ _
 have J:IntKind.i64.wrap (((n+1 :Nat):Int)-1)=(n:Int):=by
  rw[IntWalk.i64_in] <;> omega
 clear a;go_enter Tryz.func96,Tryz.ntmps96;go_wp2_with (fail);go_ret;exact⟨rfl,rfl⟩
theorem jr{G:Gm}{τ:Nat->Lb}{w:World}{m:Vm}(o:MW G τ w m){q:List Int}{x:Int}(p:m.v=q++[x])(l:q.length<=2000000000):
 Calls Tryz.prog 96 #[.pointer (some ⟨G.b,0,none⟩)] w (uX G w ⟨m.s,q,m.cs⟩ (.int .i64 x)):=by
 obtain⟨vi,vv,pa,vo,a⟩:=o;obtain⟨g,c,rfl,d,h,i,_,j,k⟩:=a.popped p;refine(xI a.box d h i l).mono ?_;rintro e w' ⟨rfl,rfl⟩;exact⟨rfl,⟨τ,_,_,_,_,j⟩,k⟩
section
variable {G:Gm} {τ τ':Nat->Lb} {w w':World} {m m':Vm} {vi vv pa vo vi' vv' pa' vo':Value} {X:Lb->Prop}
theorem MwI.step(a:MwI G τ w m vi vv pa vo)(c:OffX (fun k=>X (τ k)) w w')(d:Ext τ τ' w)(h:¬X .gl)(l:¬X .funs/\¬X .code)(j:w'.heap[G.b]? =some (mcO G vi' vv' pa' vo' m'.s))(p:SlC G.B w' vi' m'.s.inp)(val:RowI G.B τ' .vals w' vv' m'.v)(out:RowI G.B τ' .outs w' vo' m'.s.out)
 (i:Frs G.B τ' w' pa' m'.cs) (arr:Arrs G τ' w' m'.s.arr) (u:AllR64 m'.v) (r:AllR64 m'.s.inp) (t:m'.s.out.length<=m'.s.cost) (q:m'.s.cost+m'.s.fuel<=1000000000):MwI G τ' w' m' vi' vv' pa' vo'/\Below G.B w w':=by
 have g:=a.below c h;exact⟨⟨Nat.le_trans a.hB c.size,fun k e=>(d k Iq).trans (a.old k e),a.tab.below g,a.pok,j,(d _ a.lt).trans a.lab,p,val,out,i,a.fun'.keep c d g l,arr,u,r,t,q,fun k o e=>jo c d (a.kp k o e).1 h (a.kp k o e).2⟩,g⟩
theorem grow_lbl{W:World}{v v':Value}{l:Lb}(i:w.heap.size<=W.heap.size)(e:xG W v v')(d:∀b,v.ownBlock=some b->τ b=l):∃τ',Ext τ τ' w/\∀b,v'.ownBlock=some b->τ' b=l:=by
 rcases e with c|⟨g,c,h⟩
 .exact⟨τ,Ext.refl _ _,fun b a=>d b (c ▸ a)⟩
 .refine⟨lbl τ g l,Ext.lbl τ w l I7,fun b a=>?_⟩
  rw[c]at a;injection a with a;subst a;exact uD τ g l
abbrev XV(l:Lb):Lb->Prop:=fun x=>x=.mach\/x=l
theorem ji{l x:Lb}(b:x≠.mach)(c:x≠l):¬XV l x:=fun a=>a.elim b c
theorem deep_vals(n:Nat):Deep (XV .vals) n:=⟨ji Ib Ib,fun d _=>⟨ji Ib Ib,ji Ib Ib,fun i=>⟨ji Ib Ib,ji Ib Ib⟩⟩⟩
theorem deep_outs(n:Nat):Deep (XV .outs) n:=⟨ji Ib Ib,fun d _=>⟨ji Ib Ib,ji Ib Ib,fun i=>⟨ji Ib Ib,ji Ib Ib⟩⟩⟩
theorem MwI.grow_off(c:MwI G τ w m vi vv pa vo){W w8:World}{v v':Value}{l:Lb}{h:List Int}(g:∀b,v.ownBlock=some b->τ b=l)(q:l≠.mach)(d:Below w.heap.size w W)(p:W.grownBy w8 v.ownBlock)(r:xG W v v')(t:w8.ownsRow G.B 3 1 v' h.length (h.map (Value.int .i64)))(i:Nat)(u:Value):
 (∃τ',Ext τ τ' w/\RowI G.B τ' l (w8.setCell ⟨G.b,i,none⟩ u) v' h)/\OffX (fun k=>XV l (τ k)) w (w8.setCell ⟨G.b,i,none⟩ u)/\w8.heap[G.b]? =some (mcO G vi vv pa vo m.s):=by
 obtain⟨τ',o,j⟩:=grow_lbl d.size r g;have x:v.ownBlock≠some G.b:=fun e=>by have:=g _ e;rw[c.lab]at this;exact q this.symm
 have y:v'.ownBlock≠some G.b:=fun e=>by
  have:=j _ e;rw[o _ c.lt,c.lab]at this;exact q this.symm
 refine⟨⟨τ',o,zm t fun k a=>Below.heap_setCell w8 _ _ k (fun e=>y (by have e:k=G.b:=e;rw[<-e];exact a)),j⟩,?_,?_⟩
 .refine((OffX.of_below (fun k=>XV l (τ k)) d).trans (OffX.grown (X:=fun k=>v.ownBlock=some k) p fun k a=>a) fun k _ a=>.inr (g k a)).trans (OffX.set (X:=fun k=>k=G.b) w8 rfl i u) fun k _ a=>.inl (by have a:k=G.b:=a;rw[a];exact c.lab)
 .exact((p.block _ (Nat.lt_of_lt_of_le c.lt d.size) fun e=>x e.symm).trans (d.block _ c.lt)).trans c.box
theorem MwI.push(a:MwI G τ w m vi vv pa vo){W w8:World}{v':Value}{n:Int}(q:Below w.heap.size w W)(r:W.grownBy w8 vv.ownBlock)(u:xG W vv v')(h:w8.ownsRow G.B 3 1 v' (m.v.length+1) (m.v.map (Value.int .i64)++[.int .i64 n]))(t:i64R n):
 w8.heap[G.b]? =some (mcO G vi vv pa vo m.s)/\(∃τ vv,MwI G τ (w8.setCell ⟨G.b,3,none⟩ v') ⟨m.s,m.v++[n],m.cs⟩ vi vv pa vo)/\Below G.B w (w8.setCell ⟨G.b,3,none⟩ v')/\OffX (fun k=>XV .vals (τ k)) w (w8.setCell ⟨G.b,3,none⟩ v'):=by
 have h:w8.ownsRow G.B 3 1 v' (m.v++[n]).length ((m.v++[n]).map (Value.int .i64)):=by rw[List.length_append,List.map_append];exact h
 obtain⟨⟨τ',g,p⟩,c,i⟩:=a.grow_off (l:=.vals) a.val.2 Ib q r u h 3 v';have j:=a.below (X:=XV .vals) c (ji Ib Ib)
 have o:=a.step (X:=XV .vals) (m':=⟨m.s,m.v++[n],m.cs⟩) c g (ji Ib Ib) ⟨ji Ib Ib,ji Ib Ib⟩ (Lib.heap_setCell_same i _) (a.inp.below j Zr) p (a.out.keep (X:=XV .vals) c g (ji Ib Ib))
  (a.frs.keep (X:=XV .vals) c g j (deep_vals _) Zr) (a.arr.keep (X:=XV .vals) c g ⟨ji Ib Ib,fun k=>ji Ib Ib⟩) (fun x d=>by
    rcases List.mem_append.1 d with d|d
    .exact a.nv x d
    .rw[List.mem_singleton.1 d];exact t) a.ni a.no a.lim
 exact⟨i,⟨τ',_,o.1⟩,o.2,c⟩
theorem MwI.print(a:MwI G τ w m vi vv pa vo){W w8:World}{v':Value}{n:Int}(p:Below w.heap.size w W)(r:W.grownBy w8 vo.ownBlock)(t:xG W vo v')(g:w8.ownsRow G.B 3 1 v' (m.s.out.length+1) (m.s.out.map (Value.int .i64)++[.int .i64 n]))(q:m.s.out.length+1<=m.s.cost):
 w8.heap[G.b]? =some (mcO G vi vv pa vo m.s)/\(∃τ,MW G τ (w8.setCell ⟨G.b,7,none⟩ v') ⟨{ m.s with out:=m.s.out++[n] },m.v,m.cs⟩)/\Below G.B w (w8.setCell ⟨G.b,7,none⟩ v'):=by
 have g:w8.ownsRow G.B 3 1 v' (m.s.out++[n]).length ((m.s.out++[n]).map (Value.int .i64)):=by rw[List.length_append,List.map_append];exact g
 obtain⟨⟨τ',d,o⟩,c,h⟩:=a.grow_off (l:=.outs) a.out.2 Ib p r t g 7 v';have i:=a.below (X:=XV .outs) c (ji Ib Ib)
 have j:=a.step (X:=XV .outs) (m':=⟨{ m.s with out:=m.s.out++[n] },m.v,m.cs⟩) c d (ji Ib Ib) ⟨ji Ib Ib,ji Ib Ib⟩ (Lib.heap_setCell_same h _) (a.inp.below i Zr) (a.val.keep (X:=XV .outs) c d (ji Ib Ib)) o
  (a.frs.keep (X:=XV .outs) c d i (deep_outs _) Zr) (a.arr.keep (X:=XV .outs) c d ⟨ji Ib Ib,fun k=>ji Ib Ib⟩) a.nv a.ni (by rw[List.length_append];exact q) a.lim
 exact⟨h,⟨τ',_,_,_,_,j.1⟩,j.2⟩
end
theorem mpush_at{G:Gm}{τ:Nat->Lb}{w:World}{m:Vm}{vi vv pa vo:Value}(a:MwI G τ w m vi vv pa vo)(n:Int)(q:i64R n)(V:m.v.length<=2000000000):
 Calls Tryz.prog 97 #[.pointer (some ⟨G.b,0,none⟩),.int .i64 n] w fun e w'=>e=.returned (.tuple #[])/\(∃τ vv,MwI G τ w' ⟨m.s,m.v++[n],m.cs⟩ vi vv pa vo)/\Below G.B w w'/\OffX (fun k=>XV .vals (τ k)) w w':=by
 obtain⟨F,p,t,u,x⟩:=info_parts vk;obtain⟨j,c,h⟩:=a.val.form;obtain⟨⟨I,J,K,E,L,M,N,O,P,Q⟩,R⟩:=zI a.box;have W:=a.lt;have T:=a.hB;rw[h]at E;have l:=hid h;have D:=hid (show(w.alloc (.cells #[.int .i64 n] 3)).ownsRow G.B 3 1 (.slice j m.v.length c) m.v.length (m.v.map (Value.int .i64))from h ▸ qR a.val.1 ((Below.refl w.heap.size w).alloc Zr _) Zr);have z:=hid (yO w [.int .i64 n] 3);have g:=hid (And.intro p (And.intro t (And.intro u x)));have y:=hid a;have A:=hid q;clear a h p t u x q;go_enter Tryz.func97,Tryz.ntmps97
 go_wp2_with (at_builtin;refine jC rfl (.tmp 8) (.tmp 10) _ rfl G.B 3 F _ 1 8 Tryz.underlying23 g.out.1 g.out.2.1 g.out.2.2.1 g.out.2.2.2 rfl I7 (.slice j m.v.length c) m.v.length _ rfl (by exact D.out) ⟨w.heap.size,0,none⟩ 1 1 [.int .i64 n] rfl rfl (by exact z.out) Ig If I7 I9 I7 ?_
              intro X w8 i o r;obtain⟨H,S,rfl⟩:=zU i;have d:=y.out.push (n:=n) ((Below.refl w.heap.size w).alloc Zr (.cells #[.int .i64 n] 3)) (by rw[l.out];exact o) (by rw[l.out];exact r) i A.out;have C:=hid (And.intro d.2.1 d.2.2);obtain⟨⟨Y,Z,aa,ab,ad,ae,af,ag,ah,ai⟩,aj⟩:=zI d.1;have U:G.b<w8.heap.size:=zB d.1
              clear i o r d)
 go_end0
 exact⟨rfl,C.out⟩
theorem xa{G:Gm}{τ:Nat->Lb}{w:World}{m:Vm}(h:MW G τ w m)(n:Int)(i:i64R n)(g:m.v.length<=2000000000):
 Calls Tryz.prog 97 #[.pointer (some ⟨G.b,0,none⟩),.int .i64 n] w (uX G w ⟨m.s,m.v++[n],m.cs⟩ (.tuple #[])):=by
 obtain⟨vi,vv,pa,vo,a⟩:=h;refine(mpush_at a n i g).mono ?_;rintro e w' ⟨rfl,⟨τ1,j,c⟩,d,_⟩;exact⟨rfl,⟨τ1,_,_,_,_,c⟩,d⟩
theorem mstep_any{G:Gm}{τ:Nat->Lb}{w:World}{m:Vm}(k:MW G τ w m)(i:m.s.stat=0):
 Calls Tryz.prog 93 #[.pointer (some ⟨G.b,0,none⟩)] w fun e w'=>match qI m.s with
  | .ok _ t=>uX G w ⟨t,m.v,m.cs⟩ (.tuple #[]) e w'
  | .fin t=>xr G w none t e w':=by
 obtain⟨vi,vv,pa,vo,a⟩:=k;obtain⟨⟨arr,h,out,c,fuel,H,j⟩,v,g⟩:=m;dsimp only at i;subst i;obtain⟨⟨l,o,p,q,r,u,x,y,z,A⟩,B⟩:=zI a.box;have D:=a.lt;have C:c+fuel<=1000000000:=a.lim;rcases fuel with _|fuel
 .have d:=hid (show MwI G τ w ⟨⟨arr,h,out,c,0,0,true⟩,v,g⟩ vi vv pa vo from⟨a.hB,a.old,a.tab,a.pok,a.box,a.lab,a.inp,a.val,a.out,a.frs,a.fun',a.arr,a.nv,a.ni,a.no,a.lim,a.kp⟩)
  clear a;show Calls _ _ _ _ (fun e w'=>xr G w none ⟨arr,h,out,c,0,0,true⟩ e w');go_enter Tryz.func93,Tryz.ntmps93;go_wp2;exact⟨rfl,rfl,⟨τ,v,g,_,_,_,_,d.out⟩,Below.refl _ _⟩
 .have d:=hid (a.cell1 (m':=⟨⟨arr,h,out,c,fuel,0,j⟩,v,g⟩) 9 (.int .i64 (fuel:Int)) (Lib.heap_setCell_same a.box _) a.inp a.val a.out a.frs rfl a.nv a.ni a.no (by show c+fuel<=_;omega))
  have E:(((fuel+1 :Nat):Int) == 0)=false:=I9
  have F:IntKind.i64.wrap (((fuel+1 :Nat):Int)-1)=(fuel:Int):=Ie
  clear a;show Calls _ _ _ _ (fun e w'=>uX G w ⟨⟨arr,h,out,c,fuel,0,j⟩,v,g⟩ (.tuple #[]) e w');go_enter Tryz.func93,Tryz.ntmps93;go_wp2_with (fail)
  go_end0
  exact⟨rfl,⟨τ,_,_,_,_,d.out.1⟩,d.out.2⟩
end Go.Proofs.YthcmenajdcbnnaaGreatDoor
