import Derived.Test.YtjadgpiafjdnfaaGreatDoorAoZee
import Derived.Test.YtjadgpiafjdnfaaGreatDoorAoTokMath
import Derived.Test.YtjadgpiafjdnfaaGreatDoorShelf
import Derived.WalkSpells
import Derived.WalkLawsBesides
import Derived.Lib.Walk
import Derived.Deep.Light
import Derived.Lib.SmallJoins
import Derived.Lib.ItoaMem
set_option linter.unusedSimpArgs false
set_option linter.unusedVariables false
set_option maxRecDepth 100000
namespace Go.Proofs.YtjadgpiafjdnfaaGreatDoor
open Go.RowKit Tryz
theorem Oa{p:Prop}(h:p:=by
 simp only[Nat.reducePow]at this
 erw [this]
 simp only[IntKind.wrap,IntKind.bits,IntKind.signed];simp;split<;>split<;>omega):p:=h
theorem Ob{p:Prop}(h:p:=by
 have:=jx ((2 ^ j-1 :Nat):Int);have i:((2 ^ j-1 :Nat):Int) % 18446744073709551616=((2 ^ j-1 :Nat):Int):=Int.emod_eq_of_lt O O
 omega):p:=h
theorem Oc{p:Prop}(h:p:=by
 have:(2 ^ j:Nat) ∣ 18446744073709551616:=(Nat.pow_dvd_pow 2 (by omega:j<=64):(2 ^ j:Nat) ∣ 2 ^ 64)
 exact Int.natCast_dvd_natCast.2 this):p:=h
theorem Od{p:Prop}(h:p:=by
 go_wp2
 all_goals go_ret
 all_goals refine⟨zC ?_,rfl⟩
 all_goals go_light
 all_goals(unfold uO;rw[Yk];simp;omega)):p:=h
theorem Oe{p:Prop}(h:p:=by
 go_wp2
 all_goals go_ret
 all_goals refine⟨zC ?_,rfl⟩
 all_goals go_light
 all_goals(unfold g8;rw[Yk];simp;omega)):p:=h
theorem Of{p:Prop}(h:p:=by
 go_wp2
 all_goals go_ret
 all_goals refine⟨zC ?_,rfl⟩
 all_goals go_light
 all_goals simp_all [xr,QV]):p:=h
theorem Og{p:Prop}(h:p:=by
 cases i with
 |zero=>simp at b;subst b;exact c.1
 |succ i=>exact d c.2 Xb):p:=h
theorem Oh{p:Prop}(h:p:=by
 simp only[IntKind.wrap,IntKind.bits,IntKind.signed];simp;split<;>omega):p:=h
theorem qL{k:IntKind}{a b:Int}(h:a=b):Ending.returned (.int k a)=.returned (.int k b):=by rw[h]
theorem zC{a b:Bool}(h:a=b):Ending.returned (.bool a)=.returned (.bool b):=by rw[h]
theorem rQ(c:Int)(w:C7):C3 124 #[.int .i32 c] w (C0 (uO c) w):=by
 go_enter func124,ntmps124;exact Od
theorem ER(c:Int)(w:C7):C3 41 #[.int .u8 c] w (C0 (uO c) w):=by
 go_enter func41,ntmps41;exact Od
theorem nT(c:Int)(w:C7):C3 101 #[.int .i32 c] w (C0 (g8 c) w):=by
 go_enter func101,ntmps101;exact Oe
theorem IB(c:Int)(w:C7):C3 42 #[.int .u8 c] w (C0 (g8 c) w):=by
 go_enter func42,ntmps42;exact Oe
theorem Q0(s:C6)(w:C7):C3 103 #[s] w (C0 (xr s.data.toList) w):=by
 rw[<-Ym];go_enter func103,ntmps103;exact Of
theorem MO(s:C6)(w:C7):C3 43 #[s] w (C0 (xr s.data.toList) w):=by
 rw[<-Ym];go_enter func43,ntmps43;exact Of
theorem rR{B:Nat}{a w:C7}(b:Below B a w)(c:B<=w.heap.size)(s:C6)(d:Nat):Below B a (w.iter s d):=b.alloc c _
theorem vm(s:C6)(a:Nat)(b:a<s.size):s.data.toList[a]?=some s[a]:=by
 rw[Array.getElem?_toList];exact Array.getElem?_eq_getElem b
theorem Q1{s:C6}{c:Nat}(g:c<s.size)(d:∀(j:Nat) b,j<c->s.data.toList[j]?=some b->qq b=true)(f:qq s[c]=true):
 ∀(j:Nat) b,j<c+1->s.data.toList[j]?=some b->qq b=true:=by
 intro j b _ a;by_cases e:j=c
 .subst e
  rw[vm s j g]at a;injection a with a;exact a▸f
 .exact d j b O a
theorem z6{s:C6}{a:Nat}(e:a<=s.size)(f:∀(j:Nat) b,j<a->s.data.toList[j]?=some b->qq b=true)(g:∀e:a<s.size,qq s[a]=false):
 xN s.data.toList=a:=
 l4 qq _ a e f (fun b c=>by
  have d:a<s.size:=(List.getElem?_eq_some_iff.1 c).1;rw[vm s a d]at c;injection c with c
  exact c▸g d)
theorem Q2(s:C6)(w:C7):C3 102 #[s] w (Cz (xN s.data.toList:Int) w):=by
 have v:s.data.toList.length=s.size:=rfl;go_enter func102,ntmps102;go_wp2
 go_loopw [3] (fun _ w'=>∃a:Nat,w'=w.iter s a/\a<=s.size/\∀(j:Nat) b,j<a->s.data.toList[j]?=some b->qq b=true) (fun _ w'=>s.size-w'.iterPos w.heap.size)
 case atStart=>exact⟨0,rfl,D1 _,fun j b t=>absurd t O⟩
 case round=>
  obtain⟨a,rfl,p,l⟩:=hrel;have g:=U l;clear l;by_cases c:a<s.size
  .have m:∀f,(Instr.next (.pointer (some ⟨w.heap.size,0,none⟩)) true f).run Tryz.prog (w.iter s a)=_:=fun f=>run_next_any w s a f c
   by_cases d:qq s[a]=true
   .have k:=ML _ d
    rw[decode_ascii s a c k]at m
    have n:uO (s[a].toNat:Int)=true\/g8 (s[a].toNat:Int)=true:=by
     rw[iT,iU];simpa[qq]using d
    have q:=U n;have i:=U d;clear n d;go_wp2_with (first|(go_at_call 124;(with_reducible refine(rQ _ _).mono ?_);rintro e w' ⟨rfl,rfl⟩)|(go_at_call 101;(with_reducible refine(nT _ _).mono ?_);rintro e w' ⟨rfl,rfl⟩))
    all_goals first
     | (go_roundw
        case rel=>exact⟨a+1,rfl,c,Q1 c g.o i.o⟩
        case measure=>simp;omega)
     |(exfalso;have:=q.o;simp_all;done)
   .have i:=U d
    have u:uO ((Utf8.decode s a).1 :Int)=false/\g8 ((Utf8.decode s a).1 :Int)=false:=by
     by_cases k:s[a].toNat<128
     .rw[decode_ascii s a c k]
      show uO (s[a].toNat:Int)=false/\g8 (s[a].toNat:Int)=false;rw[iT,iU];simpa[qq]using d
     .have:=(decode_high s a c O).1
      exact⟨MJ _ O,MK _ O⟩
    obtain⟨_,_⟩:=u;clear d;go_wp2_with (first|(go_at_call 124;(with_reducible refine(rQ _ _).mono ?_);rintro e w' ⟨rfl,rfl⟩)|(go_at_call 101;(with_reducible refine(nT _ _).mono ?_);rintro e w' ⟨rfl,rfl⟩));go_ret;refine⟨qL ?_,rR Zb Zr _ _⟩;rw[z6 p g.o (fun _=>by simpa using i.o)]
  .have m:∀f,(Instr.next (.pointer (some ⟨w.heap.size,0,none⟩)) true f).run Tryz.prog (w.iter s a)=_:=fun f=>run_next_end w s a f c
   go_wp2;go_ret;refine⟨qL ?_,rR Zb Zr _ _⟩;have e:a=s.size:=O
   subst e;rw[z6 p g.o (fun r=>absurd r c)]
theorem CI(s:C6)(h:0<s.size):s.data.toList.headD 0=s[0]:=by
 have:=vm s 0 h;cases hl:s.data.toList with
 |nil=>rw[hl]at this;cases this
 |cons a t=>rw[hl]at this;simpa using this
theorem y9(s:C6)(h:s.size=0):s.data.toList=[]:=Yq h
theorem jw(s:C6)(_:0<s.size):s.data.toList≠[]:=fun e=>by have:s.data.toList.length=s.size:=rfl;rw[e]at this;simp at this;omega
theorem Q3(s:C6)(w:C7)(b:s.size=0):C3 78 #[s] w (C0 false w):=by
 have a:=y9 s b;have c:s.toList.isEmpty=true:=by rw[Ym,a];rfl
 have d:s.toList=[]:=by rw[Ym,a]
 clear a b;go_enter func78,ntmps78;go_wp2;go_ret;exact⟨rfl,rfl⟩
theorem MP(s:C6)(w:C7)(b:20<s.size):C3 78 #[s] w (C0 false w):=by
 have a:=jw s O;have d:s.toList.isEmpty=false:=by rw[Ym];simpa using a
 have c:decide ((20 :Int)<s.size)=true:=Ut
 clear a b;go_enter func78,ntmps78;go_wp2;go_ret;exact⟨rfl,rfl⟩
theorem Q5(c:Int)(b:Bool)(h:g8 c=b)(w:C7):C3 101 #[.int .i32 c] w (C0 b w):=h▸nT c w
theorem WU(s:C6)(n:Nat)(h:xN s.data.toList=n)(w:C7):C3 102 #[s] w (Cz (n:Int) w):=h▸Q2 s w
theorem WV(s:C6)(b:Bool)(h:xr s.data.toList=b)(w:C7):C3 103 #[s] w (C0 b w):=h▸Q0 s w
theorem IC(s:C6)(w:C7)(m:0<s.size)(_:s.size<=20)(a:Bool)(n:Nat)(b:Bool)(c:g8 (wrap32 (s[0].toNat:Int))=a)(d:xN s.data.toList=n)(f:xr s.data.toList=b):
 C3 78 #[s] w (Cz ((!a)&&decide (n=s.size)&&!b) w):=by
 have g:=jw s m;have q:s.toList.isEmpty=false:=by rw[Ym];simpa using g
 have p:decide ((20 :Int)<s.size)=false:=Ut
 have i:=U c;have j:=U d;have k:=U f;clear g c d f;cases a
 all_goals
  go_enter func78,ntmps78;go_wp2_with (first|(go_at_call 101;(with_reducible refine(Q5 _ _ i.o _).mono ?_);rintro e w' ⟨rfl,rfl⟩)|(go_at_call 102;(with_reducible refine(WU _ _ j.o _).mono ?_);rintro e _ ⟨rfl,l⟩)|(go_at_call 103;(with_reducible refine(WV _ _ k.o _).mono ?_);rintro e w' ⟨rfl,rfl⟩))
 all_goals go_ret
 all_goals first
  |(refine⟨zC ?_,l⟩;simp;intros;omega)
  |(refine⟨zC ?_,D5 _ _⟩;simp;done)
theorem Q6(s:C6)(w:C7):C3 78 #[s] w (Cz (xI s.data.toList) w):=by
 have f:s.data.toList.length=s.size:=rfl;by_cases c:s.size=0
 .rw[y9 s c,z4]
  exact(Q3 s w c).mono fun e w' ⟨a,k⟩=>⟨a,k▸D5 _ _⟩
 by_cases d:20<s.size
 .rw[rO _ O]
  exact(MP s w d).mono fun e w' ⟨a,k⟩=>⟨a,k▸D5 _ _⟩
 .have b:0<s.size:=by omega
  rw[QX _ (jw s b) O,CI s b,<-iU];refine IC s w b O _ _ _ ?_ rfl rfl;rw[IntWalk.wrap32_in _ (by have:=s[0].toNat_lt;omega)]
theorem ya{B:Nat}{a w:C7}(h:Below B a w)(n:Nat):Below B a (w.drewN n):=⟨h.os,h.tape,h.output,h.size,h.block⟩
theorem WW(s:C6)(b:Bool)(h:xI s.data.toList=b)(w:C7):C3 78 #[s] w (Cz b w):=h▸Q6 s w
section
variable {P:Program}
end
theorem jX(c:Int)(b:Bool)(h:uO c=b)(w:C7):C3 41 #[.int .u8 c] w (C0 b w):=h▸ER c w
theorem nU(c:Int)(b:Bool)(h:g8 c=b)(w:C7):C3 42 #[.int .u8 c] w (C0 b w):=h▸IB c w
theorem xO(s:C6)(b:Bool)(h:xr s.data.toList=b)(w:C7):C3 43 #[s] w (C0 b w):=h▸MO s w
theorem ES{p:UInt8->Bool}{s:C6}(c:∀(j:Nat) b,j<s.size->s.data.toList[j]?=some b->p b=true):s.data.toList.all p=true:=
 List.all_eq_true.2 fun b d=>by
  obtain⟨j,a⟩:=List.mem_iff_getElem?.1 d;exact c j b (by have:=(List.getElem?_eq_some_iff.1 a).1;rwa [<-Yf]at this) a
theorem ET{p:UInt8->Bool}{s:C6}{k:Nat}(c:k<s.size)(a:p s[k]=false):s.data.toList.all p=false:=by
 rw[Cl];intro b;rw[List.all_eq_true.1 b s[k] (List.mem_iff_getElem?.2 ⟨k,vm s k c⟩)]at a;cases a
theorem z7{p:UInt8->Bool}{s:C6}{c:Nat}(g:c<s.size)(d:∀(j:Nat) b,j<c->s.data.toList[j]?=some b->p b=true)(f:p s[c]=true):
 ∀(j:Nat) b,j<c+1->s.data.toList[j]?=some b->p b=true:=by
 intro j b _ a;by_cases e:j=c
 .subst e
  rw[vm s j g]at a;injection a with a;exact a▸f
 .exact d j b O a
theorem MQ(s:C6)(w:C7)(b:s.size=0):C3 44 #[s] w (C0 false w):=by
 have a:=y9 s b;have c:s.toList.isEmpty=true:=by rw[Ym,a];rfl
 have d:s.toList=[]:=by rw[Ym,a]
 clear a b;go_enter func44,ntmps44;go_wp2;go_ret;exact⟨rfl,rfl⟩
theorem ID(s:C6)(w:C7)(b:20<s.size):C3 44 #[s] w (C0 false w):=by
 have a:=jw s O;have d:s.toList.isEmpty=false:=by rw[Ym];simpa using a
 have c:decide ((20 :Int)<s.size)=true:=Ut
 clear a b;go_enter func44,ntmps44;go_wp2;go_ret;exact⟨rfl,rfl⟩
theorem rS(s:C6)(w:C7)(k:0<s.size)(_:s.size<=20)(a b:Bool)(c:uO (s[0].toNat:Int)=a)(d:xr s.data.toList=b)(j:a=false\/b=true):
 C3 44 #[s] w (C0 false w):=by
 have f:=jw s k;have m:s.toList.isEmpty=false:=by rw[Ym];simpa using f
 have l:decide ((20 :Int)<s.size)=false:=Ut
 have g:=U c;have i:=U d;clear f c d;cases a<;>cases b<;>simp at j
 all_goals
  go_enter func44,ntmps44;go_wp2_with (first|(go_at_call 41;(with_reducible refine(jX _ _ g.o _).mono ?_);rintro e w' ⟨rfl,rfl⟩)|(go_at_call 43;(with_reducible refine(xO _ _ i.o _).mono ?_);rintro e w' ⟨rfl,rfl⟩));go_ret;exact⟨rfl,rfl⟩
theorem IE(s:C6)(w:C7)(B:0<s.size)(_:s.size<=20)(n:uO (s[0].toNat:Int)=true)(p:xr s.data.toList=false)(b:Bool)(r:s.data.toList.all qq=b):
 C3 44 #[s] w (C0 b w):=by
 have u:=jw s B;have D:s.toList.isEmpty=false:=by rw[Ym];simpa using u
 have C:decide ((20 :Int)<s.size)=false:=Ut
 have v:=U n;have x:=U p;have f:=U r;clear u n p r;go_enter func44,ntmps44;go_wp2_with (first|(go_at_call 41;(with_reducible refine(jX _ _ v.o _).mono ?_);rintro e w' ⟨rfl,rfl⟩)|(go_at_call 43;(with_reducible refine(xO _ _ x.o _).mono ?_);rintro e w' ⟨rfl,rfl⟩))
 go_loop [3] (fun i=>∃k:Nat,k<=s.size/\i=.int .i64 k/\∀(j:Nat) b,j<k->s.data.toList[j]?=some b->qq b=true) (fun i=>s.size-(intOf i).toNat)
 case atStart=>exact⟨0,D1 _,rfl,fun j b A=>absurd A O⟩
 case round=>
  obtain⟨k,_,rfl,q⟩:=hrel;have d:=U q;clear q;by_cases t:k<s.size
  .obtain⟨l,a⟩:=C4 (uO (s[k].toNat:Int))
   obtain⟨m,c⟩:=C4 (g8 (s[k].toNat:Int));have g:Do (qq s[k]=(l || m)):=by unfold Do qq;rw[<-a,<-c,iT,iU]
   have y:=U a;have z:=U c;clear a c;cases l<;>cases m
   all_goals
    go_wp2_with (first|(go_at_call 41;(with_reducible refine(jX _ _ y.o _).mono ?_);rintro e w' ⟨rfl,rfl⟩)|(go_at_call 42;(with_reducible refine(nU _ _ z.o _).mono ?_);rintro e w' ⟨rfl,rfl⟩))
   .go_ret
    exact⟨zC ((ET t g.o).symm.trans f.o),rfl⟩
   all_goals
    go_round
    case rel=>exact⟨k+1,O,by go_num,z7 t d.o g.o⟩
    case measure=>simp[intOf];omega
  .have e:k=s.size:=by omega
   subst e;go_wp2;go_ret;exact⟨zC ((ES d.o).symm.trans f.o),rfl⟩
theorem MR(s:C6)(w:C7):C3 44 #[s] w (C0 (xI s.data.toList) w):=by
 by_cases c:s.size=0
 .rw[y9 s c,z4]
  exact MQ s w c
 by_cases d:20<s.size
 .rw[rO _ (by rw[<-Yf];exact d)]
  exact ID s w d
 .have a:0<s.size:=by omega
  have i:xI s.data.toList=(uO (s[0].toNat:Int)&&s.data.toList.all qq&&!xr s.data.toList):=by
   unfold xI;rw[CI s a,<-iT];have f:s.data.toList.isEmpty=false:=by simpa using jw s a
   have g:s.data.toList.length<=20:=by rw[<-Yf];omega
   rw[f,decide_eq_true g];rfl
  rw[i];cases h1:uO (s[0].toNat:Int)with
  |false=>exact rS s w a O _ _ h1 rfl (.inl rfl)
  |true=>
    cases h2:xr s.data.toList with
    |true=>exact(rS s w a O _ _ h1 h2 (.inr rfl)).mono fun e w' ⟨b,k⟩=>⟨by simp[b],k⟩
    |false=>exact(IE s w a O h1 h2 _ rfl).mono fun e w' ⟨b,k⟩=>⟨by simp[b],k⟩
theorem rT(s:C6)(b:Bool)(h:xI s.data.toList=b)(w:C7):C3 44 #[s] w (C0 b w):=h▸MR s w
theorem iV{s:C6}{k:Nat}(h:k<s.size):s.data.toList.take (k+1)=s.data.toList.take k++[s[k]]:=by
 rw[Yt,vm s k h];rfl
theorem l5(l:List UInt8)(k:Nat):kT 0 (l.take k)<=kT 0 l:=by
 have e:kT 0 l=kT (kT 0 (l.take k)) (l.drop k):=by rw[<-EQ,Cv]
 rw[e];exact WS _ _
theorem uq(s:C6)(k:Nat)(a:k<s.size)(c:Int)(b:(s[k].toNat:Int)=c)(w:C7):(Instr.index 9 (.string s) (.int .i64 k)).run Tryz.prog w=.ok (.int .u8 c) w:=by
 subst b;have d:(0 :Int)<=(k:Int):=O
 simp[Instr.index,run_underlying underlying9,asIntOf,go_sem,a]
theorem o7(s:C6)(a:0<s.size)(c:Int)(b:(s[0].toNat:Int)=c)(w:C7):(Instr.index 9 (.string s) (.int .i64 0)).run Tryz.prog w=.ok (.int .u8 c) w:=uq s 0 a c b w
def WX(l:List UInt8)(w:C7)(e:Ending)(w':C7):Prop:=∃r,e=.returned (r:Int)/\decide (0<=r)=xM l/\w=w'
theorem Q7{s:C6}{k:Nat}(a:k<s.size)(b:s.data.toList.all kl=true):48<=s[k].toNat/\s[k].toNat<=57:=by
 have:=List.all_eq_true.1 b s[k] (List.mem_iff_getElem?.2 ⟨k,vm s k a⟩);simpa[kl]using this
theorem z8(s:C6)(k m:Nat)(a:k<s.size)(e:m=kT 0 (s.data.toList.take k))(c:Int)(_:(s[k].toNat:Int)=c)(_:48<=c)(_:(9223372036854775807-(c-48)) / 10<(m:Int)):xM s.data.toList=false:=by
 have b:=l5 s.data.toList (k+1);rw[iV a,iS,<-e]at b;have d:¬kT 0 s.data.toList<9223372036854775808:=O
 unfold xM;rw[decide_eq_false d,Bool.and_false]
theorem EU(s:C6)(d:0<s.size)(f:s.data.toList.all kl=true)(i:kT 0 s.data.toList<9223372036854775808):xM s.data.toList=(decide (s.size=1) || decide (s[0].toNat≠48)):=by
 unfold xM;have c:s.data.toList.isEmpty=false:=by simpa using jw s d
 rw[f,decide_eq_true i,c];have g:=CI s d;have j:s.size=s.data.toList.length:=rfl;rw[<-g,j];generalize s.data.toList=l at *;cases l with
 |nil=>simp at c
 |cons a t=>
   simp only[Cp,Du];rw[Yk];cases t with
   |nil=>
     simp;by_cases e:a=48
     .exact .inl e
     .exact .inr e
   |cons b r=>
     simp[<-UInt8.toNat_inj]
     all_goals exact decide_eq_true_iff.symm
theorem IF(s:C6)(w:C7)(g:0<s.size)(_:s.size<=281474976710656)(q:s.data.toList.all kl=true):
 C3 51 #[s] w (WX s.data.toList w):=by
 have t:=jw s g;have F:s.toList.isEmpty=false:=by rw[Ym];simpa using t
 have l:=U q;clear t q;go_enter func51,ntmps51;go_wp2
 go_loop [3,4,5] (fun n i _=>∃(k m:Nat),k<=s.size/\i=.int .i64 k/\n=.int .i64 m/\m=kT 0 (s.data.toList.take k)/\m<9223372036854775808) (fun _ i _=>s.size-(intOf i).toNat)
 case atStart=>exact⟨0,0,D1 _,rfl,rfl,by rw[Yx,g6],O⟩
 case round=>
  obtain⟨k,m,_,rfl,rfl,r,x⟩:=hrel;have d:=U r;clear r;by_cases b:k<s.size
  .obtain⟨c,a⟩:∃c:Int,(s[k].toNat:Int)=c:=⟨_,rfl⟩
   have z:=uq s k b c a;have j:=U a;have y:=Q7 b l.o;have v:48<=c:=O
   have E:c<=57:=O
   clear a y;by_cases B:(9223372036854775807-(c-48)) / 10<(m:Int)
   .go_wp2
    go_ret;exact⟨-1,rfl,by rw[z8 s k m b d.o c j.o v B];rfl,rfl⟩
   .go_wp2
    have C:=j.o;have A:((m*10+(s[k].toNat-48):Nat):Int)=(m:Int)*10+(c-48):=O;go_round
    case rel=>exact⟨k+1,m*10+(s[k].toNat-48),O,by go_num,by rw[A],by rw[iV b,iS,<-d.o],O⟩
    case measure=>simp[intOf];omega
  .have e:k=s.size:=by omega
   subst e
   have u:Do (m=kT 0 s.data.toList):=by
    unfold Do;rw[d.o,Ye (by rw[<-Yf];exact Dz _)]
   obtain⟨c,a⟩:∃c:Int,(s[0].toNat:Int)=c:=⟨_,rfl⟩
   have z:=o7 s g c a
   have f:Do (xM s.data.toList=(decide (s.size=1) || decide (c≠48))):=by
    unfold Do;rw[EU s g l.o (by rw[<-u.o];exact x)];congr 1;rw[Yk];simp;omega
   clear a;by_cases D:1<s.size
   .by_cases p:c=48
    .subst p
     go_wp2;go_ret;refine⟨-1,rfl,?_,rfl⟩;rw[f.o,decide_eq_false (show ¬s.size=1 by omega)];rfl
    .go_wp2
     go_ret;refine⟨m,rfl,?_,rfl⟩;rw[f.o,decide_eq_true p,Bool.or_true];simp
   .go_wp2
    go_ret;refine⟨m,rfl,?_,rfl⟩;rw[f.o,decide_eq_true (show s.size=1 by omega),Bool.true_or];simp
theorem EV{s:C6}(h:s.data.toList.all kl=false):xM s.data.toList=false:=by
 unfold xM;rw[h];simp
theorem o8(s:C6)(w:C7)(x:0<s.size)(y:s.size<=281474976710656)(b:Bool)(m:xM s.data.toList=b):
 C3 45 #[s] w (C0 b w):=by
 have d:=U m;clear m;go_enter func45,ntmps45;go_wp2
 go_loop [3] (fun i=>∃k:Nat,k<=s.size/\i=.int .i64 k/\∀(j:Nat) b,j<k->s.data.toList[j]?=some b->kl b=true) (fun i=>s.size-(intOf i).toNat)
 case atStart=>exact⟨0,D1 _,rfl,fun j b v=>absurd v O⟩
 case round=>
  obtain⟨k,_,rfl,l⟩:=hrel;have c:=U l;clear l;by_cases n:k<s.size
  .obtain⟨g,a⟩:=C4 (g8 (s[k].toNat:Int))
   have f:Do (kl s[k]=g):=by unfold Do;rw[<-a,iU]
   have q:=U a;clear a;cases g
   all_goals
    go_wp2_with (go_at_call 42;(with_reducible refine(nU _ _ q.o _).mono ?_);rintro e w' ⟨rfl,rfl⟩)
   .go_ret
    exact⟨zC ((EV (ET n f.o)).symm.trans d.o),rfl⟩
   .go_round
    case rel=>exact⟨k+1,O,by go_num,z7 n c.o f.o⟩
    case measure=>simp[intOf];omega
  .have e:k=s.size:=by omega
   subst e;have t:=U (ES c.o);go_wp2_with (go_at_call 51;(with_reducible refine(IF _ _ x y t.o).mono ?_);rintro e w' ⟨r,rfl,p,rfl⟩;have u:=U p;clear p);go_ret;exact⟨zC (u.o.trans d.o),rfl⟩
end Go.Proofs.YtjadgpiafjdnfaaGreatDoor
namespace Go.Proofs.YtjadgpiafjdnfaaGreatDoor
open Tryz
open Go.RowKit (wrap64 wrap32)
theorem jx(z:Int):(((BitVec.ofInt 64 z).toNat:Nat):Int)=z % 18446744073709551616:=by
 rw[BitVec.toNat_ofInt];have:(0 :Int)<=z % 18446744073709551616:=O
 show(((z % 18446744073709551616).toNat:Nat):Int)=_;omega
theorem yw(z:Int)(j:Nat)(d:j<=63):bits .and .i64 z ((2 ^ j-1 :Nat):Int)=z % (2 ^ j:Nat):=by
 have m:2 ^ j<=2 ^ 63:=Nat.pow_le_pow_right Us d;have g:1<=2 ^ j:=Nat.one_le_two_pow;have f:=jx z;show IntKind.i64.wrap ((BitVec.ofInt 64 z &&& BitVec.ofInt 64 ((2 ^ j-1 :Nat):Int)).toNat:Nat)=_;rw[BitVec.toNat_and]
 have e:(BitVec.ofInt 64 ((2 ^ j-1 :Nat):Int)).toNat=2 ^ j-1:=by
  exact Ob
 rw[e,Nat.and_two_pow_sub_one_eq_mod]
 have a:(((2 ^ j:Nat):Int)) ∣ 18446744073709551616:=by
  exact Oc
 have c:(((BitVec.ofInt 64 z).toNat % 2 ^ j:Nat):Int)=z % (2 ^ j:Nat):=by
  rw[Int.natCast_emod,f,Int.emod_emod_of_dvd _ a]
 rw[c];have k:=Int.emod_nonneg z (b:=((2 ^ j:Nat):Int)) O;have l:=Cw z (b:=((2 ^ j:Nat):Int)) O;rw[IntKind.wrap_i64];omega
theorem CJ(z:Int)(j:Nat)(d:j<=63):bits .and .u64 z ((2 ^ j-1 :Nat):Int)=z % (2 ^ j:Nat):=by
 have m:2 ^ j<=2 ^ 63:=Nat.pow_le_pow_right Us d;have g:1<=2 ^ j:=Nat.one_le_two_pow;have f:=jx z;show IntKind.u64.wrap ((BitVec.ofInt 64 z &&& BitVec.ofInt 64 ((2 ^ j-1 :Nat):Int)).toNat:Nat)=_;rw[BitVec.toNat_and]
 have e:(BitVec.ofInt 64 ((2 ^ j-1 :Nat):Int)).toNat=2 ^ j-1:=by
  exact Ob
 rw[e,Nat.and_two_pow_sub_one_eq_mod]
 have a:(((2 ^ j:Nat):Int)) ∣ 18446744073709551616:=by
  exact Oc
 have c:(((BitVec.ofInt 64 z).toNat % 2 ^ j:Nat):Int)=z % (2 ^ j:Nat):=by
  rw[Int.natCast_emod,f,Int.emod_emod_of_dvd _ a]
 rw[c];have k:=Int.emod_nonneg z (b:=((2 ^ j:Nat):Int)) O;have l:=Cw z (b:=((2 ^ j:Nat):Int)) O;rw[IntKind.wrap_u64];omega
theorem MS(b:Int):bits .and .i64 b 63=b % 64:=yw b 6 Us
theorem MT(b:Int):bits .and .u64 b 63=b % 64:=CJ b 6 Us
theorem IG(b:Int):bits .and .i64 b 255=b % 256:=yw b 8 Us
theorem CK(b:Int):bits .and .i64 b 65535=b % 65536:=yw b 16 Us
theorem l6(b:Int):bits .and .i64 b 4294967295=b % 4294967296:=yw b 32 Us
theorem EW(x i:Nat)(g:x<2 ^ (i+1)):x ^^^ 2 ^ i=if x<2 ^ i then x+2 ^ i else x-2 ^ i:=by
 have k:2 ^ (i+1)=2*2 ^ i:=by rw[Nat.pow_succ];omega
 split
 .rename_i d
  have c:x+2 ^ i=2 ^ i ||| x:=by rw[Nat.add_comm];exact Nat.two_pow_add_eq_or_of_lt d 1 |> fun e=>Kg
  rw[c];apply Nat.eq_of_testBit_eq;intro j;rw[Nat.testBit_xor,Nat.testBit_or,Nat.testBit_two_pow];by_cases a:i=j
  .subst a;simp[Nat.testBit_lt_two_pow d]
  .simp[a]
 .rename_i d
  obtain⟨b,rfl⟩:∃b,x=2 ^ i+b:=⟨x-2 ^ i,O⟩
  have f:b<2 ^ i:=O
  have c:2 ^ i+b=2 ^ i ||| b:=Nat.two_pow_add_eq_or_of_lt f 1 |> fun e=>Kg
  rw[Nat.add_sub_cancel_left,c];apply Nat.eq_of_testBit_eq;intro j;rw[Nat.testBit_xor,Nat.testBit_or,Nat.testBit_two_pow];by_cases a:i=j
  .subst a;simp[Nat.testBit_lt_two_pow f]
  .simp[a]
theorem hG(z:Int)(i:Nat)(d:i<=62)(c:0<=z)(_:z<(2 ^ (i+1):Nat)):bits .xor .i64 z ((2 ^ i:Nat):Int)=if z<(2 ^ i:Nat)then z+(2 ^ i:Nat)else z-(2 ^ i:Nat):=by
 have g:2 ^ (i+1)=2*2 ^ i:=by rw[Nat.pow_succ];omega
 have j:2 ^ i<=2 ^ 62:=Nat.pow_le_pow_right Us d;obtain⟨n,rfl⟩:=Int.eq_ofNat_of_zero_le c;have e:=jx (n:Int);have f:=jx ((2 ^ i:Nat):Int);have a:(BitVec.ofInt 64 (n:Int)).toNat=n:=O
 have b:(BitVec.ofInt 64 ((2 ^ i:Nat):Int)).toNat=2 ^ i:=O
 show IntKind.i64.wrap ((BitVec.ofInt 64 (n:Int) ^^^ BitVec.ofInt 64 ((2 ^ i:Nat):Int)).toNat:Nat)=_;rw[BitVec.toNat_xor,a,b,EW n i O,IntKind.wrap_i64];split<;>split<;>omega
theorem zar(a:Int):(bits .xor .i64 (a % 256) 128)-128=IntKind.i8.wrap a:=by
 have:=hG (a % 256) 7 Us O O;exact Oa
theorem WY(a:Int):(bits .xor .i64 (a % 65536) 32768)-32768=IntKind.i16.wrap a:=by
 have:=hG (a % 65536) 15 Us O O;exact Oa
theorem WZ(a:Int):(bits .xor .i64 (a % 4294967296) 2147483648)-2147483648=IntKind.i32.wrap a:=by
 have:=hG (a % 4294967296) 31 Us O O;exact Oa
theorem W6(a:Int)(b:(Lit.int .i64 a).wf=true):bits .xor .i64 (-1) a= -1-a:=by
 have d:=bounds_i64 b;have c:=jx a;show IntKind.i64.wrap ((BitVec.ofInt 64 (-1) ^^^ BitVec.ofInt 64 a).toNat:Nat)=_
 have e:BitVec.ofInt 64 (-1) ^^^ BitVec.ofInt 64 a= ~~~ (BitVec.ofInt 64 a):=by
  have:(BitVec.ofInt 64 (-1))=BitVec.allOnes 64:=Us
  rw[this,BitVec.allOnes_xor]
 rw[e,BitVec.toNat_not,IntKind.wrap_i64];have:=(BitVec.ofInt 64 a).isLt;omega
def rU(op a:Int):Int:=
 if op=20 then wrap64 (-a)else if op=21 then -1-a else if op=22 then(if a=0 then 1 else 0)else if op=23 then IntKind.i8.wrap a else if op=24 then IntKind.i16.wrap a
 else if op=25 then wrap32 a else if op=26 then a % 256 else if op=27 then a % 65536 else if op=28 then a % 4294967296 else 0
theorem uP{n:Int}(_: -9223372036854775808<=n/\n<=9223372036854775807):wrap64 n=n:=by unfold wrap64;omega
theorem Z6(a:Int): -128<=IntKind.i8.wrap a/\IntKind.i8.wrap a<=127:=by
 exact Oh
theorem Q8(a:Int): -32768<=IntKind.i16.wrap a/\IntKind.i16.wrap a<=32767:=by
 exact Oh
theorem zas(a:Int):IntKind.u16.wrap a=a % 65536:=by
 simp only[IntKind.wrap,IntKind.bits,IntKind.signed];simp
theorem zat(a:Int):IntKind.i32.wrap a=wrap32 a:=IntWalk.i32_left a
theorem zb5(a:Int):wrap64 (IntKind.i8.wrap a)=IntKind.i8.wrap a:=uP (by have:=Z6 a;omega)
theorem Z7(a:Int):wrap64 (IntKind.i16.wrap a)=IntKind.i16.wrap a:=uP (by have:=Q8 a;omega)
theorem zb6(a:Int):wrap64 (IntKind.u16.wrap a)=a % 65536:=by rw[zas];exact uP O
theorem Z8(a:Int):wrap64 (wrap32 a)=wrap32 a:=uP Gi
theorem zb7(a:Int)(h:(Lit.int .i64 a).wf=true):wrap64 (-1-a)= -1-a:=uP (by have:=bounds_i64 h;omega)
theorem zdj(a:Int):wrap64 (bits .xor .i64 (a % 256) 128-128)=IntKind.i8.wrap a:=by rw[zar];exact zb5 a
theorem zb8(a:Int):wrap64 (bits .xor .i64 (a % 65536) 32768-32768)=IntKind.i16.wrap a:=by rw[WY];exact Z7 a
theorem zb9(a:Int):wrap64 (bits .xor .i64 (a % 4294967296) 2147483648-2147483648)=wrap32 a:=by rw[WZ,zat];exact Z8 a
def cnt(b:Int):Nat:=(b % 64).toNat
def MU(b:Bool):Int:=if b then 1 else 0
def ur(op b:Int):Bool:=decide (1<=op)&&decide (op<=17)&&!((decide (op=4) || decide (op=5))&&decide (b=0))
def cmp(op a b:Int):Bool:=
 if op=12 then decide (a<b)else if op=13 then decide (a<=b)else if op=14 then decide (b<a)else if op=15 then decide (b<=a)else if op=16 then a == b else a != b
def sft(op a b:Int):Int:=
 if op=9 then wrap64 (a*2 ^ cnt b)else if op=10 then a / 2 ^ cnt b else wrap64 (a % 18446744073709551616 / 2 ^ cnt b)
def dvd(op a b:Int):Int:=if b=0 then 0 else if op=4 then wrap64 (a.tdiv b)else a.tmod b
def uI(op a b:Int):Int:=
 if op=1 then wrap64 (a+b)else if op=2 then wrap64 (a-b)else if op=3 then wrap64 (a*b)
 else if op=4\/op=5 then dvd op a b
 else if op=6 then bits .and .i64 a b else if op=7 then bits .or .i64 a b else if op=8 then bits .xor .i64 a b
 else if op=9\/op=10\/op=11 then sft op a b else if 12<=op/\op<=17 then MU (cmp op a b)else 0
theorem IH(b:Int):bits .and .u64 (IntKind.u64.wrap b) 63=b % 64:=by rw[MT,IntKind.wrap_u64];omega
theorem EY(op a b:Int)(_:op<1\/17<op):uI op a b=0:=by
 unfold uI
 repeat(rw[Dp O])
theorem EZ(op b:Int)(h:op<1\/17<op):ur op b=false:=by
 unfold ur;rcases h with h|h
 .have:decide (1<=op)=false:=by simpa using h
  simp[this]
 .have:decide (op<=17)=false:=by simpa using h
  simp[this]
def zcc:List (List UInt8):=[[],[43],[45],[42],[47],[37],[38],[124],[94],[60,60],[62,62],[62,62,62],[60],[60,61],[62],[62,61],[61,61],[33,61],[38,38],[124,124],[45],[126],[33],[105,56],[105,49,54],[105,51,50],[117,56],[117,49,54],[117,51,50]]
def zcd:List Int:=[0,9,9,10,10,10,5,3,4,8,8,8,7,7,7,7,6,6,2,1,0,0,0,0,0,0,0,0,0]
def Z9(k:Nat):C6:=⟨(zcc.getD k []).toArray⟩
def lvl(k:Nat):Int:=zcd.getD k 0
def xP(op:Int):C6:=if 1<=op/\op<=28 then Z9 op.toNat else⟨#[]⟩
def kG(op:Int):Int:=if 1<=op/\op<=28 then lvl op.toNat else 0
end Go.Proofs.YtjadgpiafjdnfaaGreatDoor
namespace Go.Proofs.YtjadgpiafjdnfaaGreatDoor
open Go.RowKit Tryz
inductive Ex where
 |mk (kind op n:Int) (name:C6) (args:List Ex)
inductive St where
 |mk (kind type:Int) (name:C6) (args:List Ex) (thn els:List St)
structure Pa where
 name:C6
 type:Int
structure Fu where
 name:C6
 type:Int
 params:List Pa
 body:List St
structure Ar where
 name:C6
 size:Int
structure Pr where
 wa:List Ar
 funcs:List Fu
def Ex.kind:Ex->Int | .mk k _ _ _ _=>k
def Ex.op:Ex->Int | .mk _ o _ _ _=>o
def Ex.n:Ex->Int | .mk _ _ n _ _=>n
def Ex.name:Ex->C6 | .mk _ _ _ s _=>s
def Ex.args:Ex->List Ex | .mk _ _ _ _ l=>l
def us(s:C6):Bool:=xI s.data.toList
def eB(s:C6):Bool:=decide (s.size=0)
def hH(t:Int):Bool:=decide (t=1\/t=2)
def zm(k op n:Int)(td:C6)(a:Nat):Bool:=
 if k=1 then decide (0<=n)&&decide (op=0)&&eB td&&decide (a=0)
 else if k=2 then decide (n=0\/n=1)&&decide (op=0)&&eB td&&decide (a=0)
 else if k=3 then us td&&decide (op=0)&&decide (n=0)&&decide (a=0)
 else if k=4 then decide (20<=op/\op<=28)&&decide (n=0)&&eB td&&decide (a=1)
 else if k=5 then decide (0<kG op)&&decide (n=0)&&eB td&&decide (a=2)
 else if k=6 then us td&&decide (op=0)&&decide (n=0)&&decide (a=1)
 else if k=7 then us td&&decide (op=0)&&decide (n=0)&&decide (a<=8)
 else if k=8 then decide (op=0)&&decide (n=0)&&eB td&&decide (a=0)
 else false
mutual
def yE:Ex->Nat->Bool
 |.mk k op n td tc,m=>decide (1<=m)&&zm k op n td tc.length&&zy tc (m-1)
def zy:List Ex->Nat->Bool
 |[],_=>true
 |e::r,m=>yE e m&&zy r m
end
def QP(tc:List Ex):Bool:=match tc with|e::_=>decide (e.kind=7) | []=>false
def zo(k b:Int)(td:C6)(a d c:Nat)(e:Bool):Bool:=
 if k=1 then hH b&&us td&&decide (a=1)&&decide (d=0)&&decide (c=0)
 else if k=2 then decide (b=0)&&us td&&decide (a=1)&&decide (d=0)&&decide (c=0)
 else if k=3 then decide (b=0)&&us td&&decide (a=2)&&decide (d=0)&&decide (c=0)
 else if k=4 then decide (b=0)&&eB td&&decide (a=1)
 else if k=5 then decide (b=0)&&eB td&&decide (a=1)&&decide (c=0)
 else if k=6\/k=7 then decide (b=0)&&eB td&&decide (a=0)&&decide (d=0)&&decide (c=0)
 else if k=8\/k=9 then decide (b=0)&&eB td&&decide (a=1)&&decide (d=0)&&decide (c=0)
 else if k=10 then decide (b=0)&&eB td&&decide (a=1)&&decide (d=0)&&decide (c=0)&&e
 else false
mutual
def uQ:St->Nat->Bool
 |.mk k ty td tc tg th,m=>decide (1<=m)&&zo k ty td tc.length tg.length th.length (QP tc)&&zy tc 100&&fL tg (m-1)&&fL th (m-1)
def fL:List St->Nat->Bool
 |[],_=>true
 |s::r,m=>uQ s m&&fL r m
end
def yn(a:Ar):Bool:=us a.name&&decide (1<=a.size/\a.size<=1000)
def ut(x:Pa):Bool:=us x.name&&hH x.type
def yo(f:Fu):Bool:=us f.name&&hH f.type&&decide (f.params.length<=8)&&f.params.all ut&&fL f.body 100
def f5(p:Pr):Bool:=p.wa.all yn&&p.funcs.all yo
def w3(lev:Int)(c:Int×Int×List UInt8):List UInt8:=if c.1=5/\kG c.2.1<lev then 40::(c.2.2++[41])else c.2.2
def yH:List (List UInt8)->List UInt8
 |[]=>[]
 |[x]=>x
 |x::y::r=>x++44::32::yH (y::r)
def zaa(b:Bool):List UInt8:=if b then[116,114,117,101]else[102,97,108,115,101]
def XA(t:Int):List UInt8:=if t=2 then[98,111,111,108]else[105,110,116]
def MV(a:List (Int×Int×List UInt8))(i:Nat):Int×Int×List UInt8:=a.getD i (0,0,[])
def Q9(k op n:Int)(td:C6)(a:List (Int×Int×List UInt8)):List UInt8:=
 if k=1 then Lib.itoa n
 else if k=2 then zaa (decide (n=1))
 else if k=3 then td.data.toList
 else if k=4 then(if 23<=op then(xP op).data.toList++40::((MV a 0).2.2++[41])else(xP op).data.toList++w3 11 (MV a 0))
 else if k=5 then w3 (kG op) (MV a 0)++32::((xP op).data.toList++32::w3 (kG op+1) (MV a 1))
 else if k=6 then td.data.toList++91::((MV a 0).2.2++[93])
 else if k=7 then td.data.toList++40::(yH (a.map (·.2.2))++[41])
 else[114,101,97,100,40,41]
mutual
def yl:Ex->List UInt8
 |.mk k op n td tc=>Q9 k op n td (g1 tc)
def g1:List Ex->List (Int×Int×List UInt8)
 |[]=>[]
 |e::r=>(e.kind,e.op,yl e)::g1 r
end
def opT(lev:Int)(e:Ex):List UInt8:=w3 lev (e.kind,e.op,yl e)
def CL(n:Nat):List UInt8:=List.replicate n 9
def k1(tc:List Ex)(i:Nat):List UInt8:=(MV (g1 tc) i).2.2
def yI(k a:Int)(td:C6)(tc:List Ex):List UInt8:=
 if k=1 then XA a++32::(td.data.toList++32::61::32::(k1 tc 0++[59]))
 else if k=2 then td.data.toList++32::61::32::(k1 tc 0++[59])
 else if k=3 then td.data.toList++91::(k1 tc 0++93::32::61::32::(k1 tc 1++[59]))
 else if k=4 then 105::102::32::40::(k1 tc 0++[41,32,123])
 else if k=5 then 119::104::105::108::101::32::40::(k1 tc 0++[41,32,123])
 else if k=6 then[98,114,101,97,107,59]
 else if k=7 then[99,111,110,116,105,110,117,101,59]
 else if k=8 then 114::101::116::117::114::110::32::(k1 tc 0++[59])
 else if k=9 then 112::114::105::110::116::40::(k1 tc 0++[41,59])
 else k1 tc 0++[59]
mutual
def QQ:St->Nat->List UInt8
 |.mk k ty td tc tg th,t=>
   CL t++(yI k ty td tc++10 ::
    (if k=4 then xQ tg (t+1)++((if th.length=0 then[]else CL t++([125,32,101,108,115,101,32,123]++10::xQ th (t+1)))++(CL t++[125,10]))
     else if k=5 then xQ tg (t+1)++(CL t++[125,10])else[]))
def xQ:List St->Nat->List UInt8
 |[],_=>[]
 |s::r,t=>QQ s t++xQ r t
end
def arT(a:Ar):List UInt8:=[105,110,116,32]++(a.name.data.toList++91::(Lib.itoa a.size++[93,59,10]))
def paT(x:Pa):List UInt8:=XA x.type++32::x.name.data.toList
def XC(f:Fu):List UInt8:=XA f.type++32::(f.name.data.toList++40::(yH (f.params.map paT)++[41,32,123,10]++(xQ f.body 1++[125,10])))
def K0(p:Pr):List UInt8:=(p.wa.map arT).flatten++(p.funcs.map XC).flatten
theorem kD(k op n:Int)(td:C6)(tc:List Ex)(m:Nat):yE (.mk k op n td tc) m=(decide (1<=m)&&zm k op n td tc.length&&zy tc (m-1)):=by rw[yE]
theorem uR(m:Nat):zy [] m=true:=by rw[zy]
theorem qr(e:Ex)(r:List Ex)(m:Nat):zy (e::r) m=(yE e m&&zy r m):=by rw[zy]
theorem qb{l:List Ex}{m:Nat}(c:zy l m=true){i:Nat}{e:Ex}(b:l[i]?=some e):yE e m=true:=by
 induction l generalizing i with
 |nil=>simp at b
 |cons a r d=>
   rw[qr,D3]at c;exact Og
theorem MX(a b:List Ex)(m:Nat):zy (a++b) m=(zy a m&&zy b m):=by
 induction a with
 |nil=>simp[uR]
 |cons e r c=>rw[Yv,qr,qr,c,Bool.and_assoc]
theorem lL{l:List Ex}{m i:Nat}{e:Ex}(a:l[i]?=some e):zy (l.take (i+1)) m=(zy (l.take i) m&&yE e m):=by
 rw[Yt,a];simp only[Option.toList_some];rw[MX,qr,uR,Bool.and_true]
theorem vE{l:List Ex}{m i:Nat}{e:Ex}(c:l[i]?=some e)(a:yE e m=false):zy l m=false:=by
 rw[Cl];intro b;rw[qb b c]at a;cases a
theorem jp(k a:Int)(td:C6)(tc:List Ex)(tg th:List St)(m:Nat):uQ (.mk k a td tc tg th) m=(decide (1<=m)&&zo k a td tc.length tg.length th.length (QP tc)&&zy tc 100&&fL tg (m-1)&&fL th (m-1)):=by rw[uQ]
theorem iW(m:Nat):fL [] m=true:=by rw[fL]
theorem ks(e:St)(r:List St)(m:Nat):fL (e::r) m=(uQ e m&&fL r m):=by rw[fL]
theorem l7{l:List St}{m:Nat}(c:fL l m=true){i:Nat}{e:St}(b:l[i]?=some e):uQ e m=true:=by
 induction l generalizing i with
 |nil=>simp at b
 |cons a r d=>
   rw[ks,D3]at c;exact Og
theorem MY(a b:List St)(m:Nat):fL (a++b) m=(fL a m&&fL b m):=by
 induction a with
 |nil=>simp[iW]
 |cons e r c=>rw[Yv,ks,ks,c,Bool.and_assoc]
theorem kU{l:List St}{m i:Nat}{e:St}(a:l[i]?=some e):fL (l.take (i+1)) m=(fL (l.take i) m&&uQ e m):=by
 rw[Yt,a];simp only[Option.toList_some];rw[MY,ks,iW,Bool.and_true]
theorem zg{l:List St}{m i:Nat}{e:St}(c:l[i]?=some e)(a:uQ e m=false):fL l m=false:=by
 rw[Cl];intro b;rw[l7 b c]at a;cases a
theorem nV(k op n:Int)(td:C6)(tc:List Ex):yl (.mk k op n td tc)=Q9 k op n td (g1 tc):=by rw[yl]
theorem hI(l:List Ex):g1 l=l.map fun e=>(e.kind,e.op,yl e):=by
 induction l with
 |nil=>rw[g1];rfl
 |cons e r a=>rw[g1,a];rfl
theorem zav{l:List Ex}{i:Nat}{e:Ex}(h:l[i]?=some e):MV (g1 l) i=(e.kind,e.op,yl e):=by
 unfold MV;rw[hI,Yl,Yn,h];rfl
theorem K1{l:List Ex}{i:Nat}{e:Ex}(h:l[i]?=some e):k1 l i=yl e:=by unfold k1;rw[zav h]
theorem rV(l:List (List UInt8))(x:List UInt8):yH (l++[x])=yH l++((if l.length=0 then[]else[44,32])++x):=by
 induction l with
 |nil=>simp[yH]
 |cons a r c=>
   cases r with
   |nil=>simp[yH]
   |cons b t=>
     have e:(a::b::t)++[x]=a::b::(t++[x]):=rfl;rw[e,yH,yH]
     have d:yH (b::(t++[x]))=yH (b::t)++([44,32]++x):=by
      have:=c;simpa using this
     rw[d];simp
theorem II(k a:Int)(td:C6)(tc:List Ex)(tg th:List St)(t:Nat):QQ (.mk k a td tc tg th) t=
 CL t++(yI k a td tc++10 ::
  (if k=4 then xQ tg (t+1)++((if th.length=0 then[]else CL t++([125,32,101,108,115,101,32,123]++10::xQ th (t+1)))++(CL t++[125,10]))
   else if k=5 then xQ tg (t+1)++(CL t++[125,10])else[])):=by rw[QQ]
theorem rW(t:Nat):xQ [] t=[]:=by rw[xQ]
theorem nW(s:St)(r:List St)(t:Nat):xQ (s::r) t=QQ s t++xQ r t:=by rw[xQ]
theorem RA(a b:List St)(t:Nat):xQ (a++b) t=xQ a t++xQ b t:=by
 induction a with
 |nil=>simp[rW]
 |cons s r c=>rw[Yv,nW,nW,c,Ya]
def Tab(w:C7):Prop:=∀k:Nat,k<=28->w.cell? (0,k*2)=some (.string (Z9 k))/\w.cell? (0,k*2+1)=some (.int .i64 (lvl k))
theorem Tab.size{w:C7}(h:Tab w):0<w.heap.size:=block_lt_of_cell (h 0 O).1
theorem RB(k:Nat)(_:1<=k)(b:k<=28)(w:C7)(a:Tab w):
 C3 145 #[((k:Int):Int)] w (Cz (.agg #[.string (Z9 k),(lvl k:Int)]) w):=by
 have c:=a.size;obtain⟨_,_⟩:=a k b;clear a;go_enter func145,ntmps145;go_wp2;exact bodyPost_ret (v:=.agg #[.string (Z9 k),(lvl k:Int)]) (by simp[results,results145,go_sem]) rfl ⟨rfl,Zb.alloc Zr _⟩
theorem MZ(op:Int)(h:op<1\/28<op)(w:C7):
 C3 145 #[(op:Int)] w (Cz (.agg #[.string ⟨#[]⟩,(0:Int)]) w):=by
 rcases h with h|h
 all_goals
  go_enter func145,ntmps145;go_wp2
  all_goals exact bodyPost_ret (v:=.agg #[.string ⟨#[]⟩,(0:Int)]) (by simp[results,results145,go_sem]) rfl ⟨rfl,Zb.alloc Zr _⟩
theorem M0(op:Int)(w:C7)(d:Tab w):
 C3 145 #[(op:Int)] w (Cz (.agg #[.string (xP op),(kG op:Int)]) w):=by
 by_cases a:1<=op/\op<=28
 .obtain⟨k,rfl⟩:=Int.eq_ofNat_of_zero_le (show 0<=op by omega)
  have b:xP (k:Int)=Z9 k:=by unfold xP;rw[Dq a];rfl
  have c:kG (k:Int)=lvl k:=by unfold kG;rw[Dq a];rfl
  rw[b,c];exact RB k O O w d
 .have b:xP op=⟨#[]⟩:=by unfold xP;rw[Dp a]
  have c:kG op=0:=by unfold kG;rw[Dp a]
  rw[b,c];exact MZ op O w
theorem M1(op:Int)(w:C7)(b:Tab w):
 C3 137 #[(op:Int)] w (Cz (kG op:Int) w):=by
 have c:∀(s:C6) (l:Int) (w:C7),(Instr.field 211 (.agg #[s,(l:Int)]) 1).run Tryz.prog w=.ok (.int .i64 l) w:=fun _ _ _=>by kernel_rfl
 go_enter func137,ntmps137;go_wp2_with (go_at_call 145;refine(M0 _ _ b).mono ?_;rintro e w' ⟨rfl,a⟩);go_ret;exact⟨rfl,a⟩
theorem M2(w:C7):C3 147 #[] w fun e w'=>∃C:Array C8,(∀j:Nat,j<28->C[j]?=some (.string (Z9 (j+1))))/\e=.returned (.slice (some ⟨w.heap.size,0,none⟩) 28 28)/\w'=w.alloc (.cells C 9):=by
 go_enter func147,ntmps147;go_wp2;go_ret;refine⟨_,?_,rfl,rfl⟩;intro j _;obtain rfl|rfl|rfl|rfl|rfl|rfl|rfl|rfl|rfl|rfl|rfl|rfl|rfl|rfl|rfl|rfl|rfl|rfl|rfl|rfl|rfl|rfl|rfl|rfl|rfl|rfl|rfl|rfl:j=0\/j=1\/j=2\/j=3\/j=4\/j=5\/j=6\/j=7\/j=8\/j=9\/j=10\/j=11\/j=12\/j=13\/j=14\/j=15\/j=16\/j=17\/j=18\/j=19\/j=20\/j=21\/j=22\/j=23\/j=24\/j=25\/j=26\/j=27:=O
 all_goals rfl
theorem RC(k:Nat)(b:k<28)(w:C7):C3 143 #[(((k:Int)+1):Int)] w (Cz (.string (Z9 (k+1))) w):=by
 go_enter func143,ntmps143;go_wp2_with (go_at_call 147;refine(M2 _).mono ?_;rintro e w' ⟨C,a,rfl,rfl⟩;have c:=a k b;clear a);go_ret;exact⟨rfl,Zb.alloc Zr _⟩
theorem M3(op:Int)(h:op<1\/28<op)(w:C7):C3 143 #[(op:Int)] w (Cz (.string ⟨#[]⟩) w):=by
 rcases h with h|h
 all_goals
  go_enter func143,ntmps143;go_wp2
  all_goals go_ret
  all_goals exact⟨rfl,D5 _ _⟩
theorem M4(op:Int)(w:C7):C3 143 #[(op:Int)] w (Cz (.string (xP op)) w):=by
 by_cases b:1<=op/\op<=28
 .obtain⟨k,_⟩:=Int.eq_ofNat_of_zero_le (show 0<=op-1 by omega)
  obtain rfl:op=(k:Int)+1:=O
  have a:xP ((k:Int)+1)=Z9 (k+1):=by unfold xP;rw[Dq b];rfl
  rw[a];exact RC k O w
 .have a:xP op=⟨#[]⟩:=by unfold xP;rw[Dp b]
  rw[a];exact M3 op O w
theorem M5(op:Int)(h:1<=op/\op<=19)(w:C7):C3 100 #[(op:Int)] w (C0 (kG op:Int) w):=by
 obtain rfl|rfl|rfl|rfl|rfl|rfl|rfl|rfl|rfl|rfl|rfl|rfl|rfl|rfl|rfl|rfl|rfl|rfl|rfl:op=1\/op=2\/op=3\/op=4\/op=5\/op=6\/op=7\/op=8\/op=9\/op=10\/op=11\/op=12\/op=13\/op=14\/op=15\/op=16\/op=17\/op=18\/op=19:=O
 all_goals clear h
 all_goals
  go_enter func100,ntmps100;go_wp2;go_ret;exact⟨rfl,rfl⟩
theorem M6(op:Int)(a:op<1\/19<op):kG op=0:=by
 unfold kG;split
 .rename_i b
  obtain rfl|rfl|rfl|rfl|rfl|rfl|rfl|rfl|rfl:op=20\/op=21\/op=22\/op=23\/op=24\/op=25\/op=26\/op=27\/op=28:=O
  all_goals rfl
 .rfl
theorem IJ(op:Int)(a:op<1\/19<op)(w:C7):C3 100 #[(op:Int)] w (C0 (0:Int) w):=by
 have n1:(op == 1)=false:=Ut
 have n2:(op == 2)=false:=Ut
 have m:(op == 3)=false:=Ut
 have n:(op == 4)=false:=Ut
 have o:(op == 5)=false:=Ut
 have p:(op == 6)=false:=Ut
 have q:(op == 7)=false:=Ut
 have r:(op == 8)=false:=Ut
 have s:(op == 9)=false:=Ut
 have b:(op == 10)=false:=Ut
 have c:(op == 11)=false:=Ut
 have d:(op == 12)=false:=Ut
 have e:(op == 13)=false:=Ut
 have f:(op == 14)=false:=Ut
 have g:(op == 15)=false:=Ut
 have i:(op == 16)=false:=Ut
 have j:(op == 17)=false:=Ut
 have k:(op == 18)=false:=Ut
 have l:(op == 19)=false:=Ut
 clear a;go_enter func100,ntmps100;go_wp2;go_ret;exact⟨rfl,rfl⟩
theorem rX(op:Int)(w:C7):C3 100 #[(op:Int)] w (C0 (kG op:Int) w):=by
 by_cases h:1<=op/\op<=19
 .exact M5 op h w
 .rw[M6 op O]
  exact IJ op O w
structure fQ (B:Nat) (w:C7):Prop where
 lt:0<B
 rows:Tab w
theorem fQ.below{B:Nat}{w w':C7}(a:fQ B w)(b:Below B w w'):fQ B w' where
 lt:=a.lt
 rows:=fun k c=>⟨(b.cell (p:=⟨0,k*2,none⟩) a.lt).trans (a.rows k c).1,(b.cell (p:=⟨0,k*2+1,none⟩) a.lt).trans (a.rows k c).2⟩
theorem fQ.mono{B a:Nat}{w:C7}(b:fQ B w)(c:B<=a):fQ a w where
 lt:=Yb b.lt c
 rows:=b.rows
theorem l8(s:C6)(b:Bool)(h:us s=b)(w:C7):C3 78 #[s] w (Cz b w):=WW s b h w
theorem qk(s:C6)(b:Bool)(h:us s=b)(w:C7):C3 44 #[s] w (C0 b w):=rT s b h w
theorem qW{W c:C7}(d:C2 W c):(∀b o,b<W.heap.size->c.cell? ⟨b,o,none⟩=W.cell? ⟨b,o,none⟩)/\(∀b o,b<W.heap.size->c.frozen? ⟨b,o,none⟩=W.frozen? ⟨b,o,none⟩):=
 ⟨fun b o a=>d.cell (p:=⟨b,o,none⟩) a,fun b o a=>d.frozen (p:=⟨b,o,none⟩) a⟩
def fK(B:Nat)(w:C7)(g o:Nat)(u:C8):Prop:=g<B/\w.cell? (g,o)=some u
def vq(v:C8)(n:Nat)(F:Nat->Nat->Prop):Prop:=
 ∃(a:Option Addr) (b:Nat),v=.slice a n b/\n<=281474976710656/\(0<n->∃g o,a=some ⟨g,o,none⟩/\F g o)
def fS(n:Int):Prop:=-9223372036854775808<=n/\n<=9223372036854775807
mutual
def z9(B:Nat)(w:C7):Ex->Nat->Nat->Prop
 | .mk k op n td tc,g,o=>fK B w g o (.int .i64 k)/\fK B w g (o+1) (.int .i64 op)/\fK B w g (o+2) (.int .i64 n)/\fK B w g (o+3) (.string td)/\
     fS n/\∃v,fK B w g (o+4) v/\vq v tc.length (kM B w tc)
def kM(B:Nat)(w:C7):List Ex->Nat->Nat->Prop
 |[],_,_=>True
 |e::r,g,o=>z9 B w e g o/\kM B w r g (o+5)
end
mutual
def E0(B:Nat)(w:C7):St->Nat->Nat->Prop
 | .mk k ty td tc tg th,g,o=>fK B w g o (.int .i64 k)/\fK B w g (o+1) (.int .i64 ty)/\fK B w g (o+2) (.string td)/\
     (∃v,fK B w g (o+3) v/\vq v tc.length (kM B w tc))/\(∃v,fK B w g (o+4) v/\vq v tg.length (xB B w tg))/\(∃v,fK B w g (o+5) v/\vq v th.length (xB B w th))
def xB(B:Nat)(w:C7):List St->Nat->Nat->Prop
 |[],_,_=>True
 |s::r,g,o=>E0 B w s g o/\xB B w r g (o+6)
end
theorem fK.below{B b:Nat}{w w':C7}(e:Below B w w')(d:B<=b){g o:Nat}{c:C8}(a:fK B w g o c):fK b w' g o c:=⟨Yb a.1 d,(e.cell (p:=(g,o)) a.1).trans a.2⟩
theorem vq.imp{v:C8}{n:Nat}{F G:Nat->Nat->Prop}(c:vq v n F)(k:∀g o,F g o->G g o):vq v n G:=by
 obtain⟨a,b,j,e,hF⟩:=c;exact⟨a,b,j,e,fun f=>by obtain⟨g,o,d,i⟩:=hF f;exact⟨g,o,d,k g o i⟩⟩
mutual
theorem z9.below{B c:Nat}{w w':C7}(b:Below B w w')(a:B<=c):∀(e:Ex) (g o:Nat),z9 B w e g o->z9 c w' e g o
 | .mk k op n td tc,g,o,h=>by
   rw[z9]at h ⊢;obtain⟨f,i,j,l,p,v,m,q⟩:=h;exact⟨f.below b a,i.below b a,j.below b a,l.below b a,p,v,m.below b a,q.imp fun d r=>kM.below b a tc d r⟩
theorem kM.below{B a:Nat}{w w':C7}(c:Below B w w')(b:B<=a):∀(l:List Ex) (g o:Nat),kM B w l g o->kM a w' l g o
 |[],_,_,_=>by rw[kM];trivial
 | e::r,g,o,h=>by
   rw[kM]at h ⊢;exact⟨z9.below c b e g o h.1,kM.below c b r g (o+5) h.2⟩
end
mutual
theorem E0.below{B f:Nat}{w w':C7}(b:Below B w w')(a:B<=f):∀(e:St) (g o:Nat),E0 B w e g o->E0 f w' e g o
 | .mk k ty td tc tg th,g,o,h=>by
   rw[E0]at h ⊢;obtain⟨i,j,l,⟨v,m,q⟩,⟨t,n,r⟩,⟨u,p,s⟩⟩:=h;exact⟨i.below b a,j.below b a,l.below b a,⟨v,m.below b a,q.imp fun c d=>kM.below b a tc c d⟩,⟨t,n.below b a,r.imp fun c d=>xB.below b a tg c d⟩,⟨u,p.below b a,s.imp fun c d=>xB.below b a th c d⟩⟩
theorem xB.below{B a:Nat}{w w':C7}(c:Below B w w')(b:B<=a):∀(l:List St) (g o:Nat),xB B w l g o->xB a w' l g o
 |[],_,_,_=>by rw[xB];trivial
 | e::r,g,o,h=>by
   rw[xB]at h ⊢;exact⟨E0.below c b e g o h.1,xB.below c b r g (o+6) h.2⟩
end
theorem kM.at{B:Nat}{w:C7}:∀(l:List Ex) (g o i:Nat) (e:Ex),kM B w l g o->l[i]?=some e->z9 B w e g (o+i*5)
 |[],_,_,_,_,_,h=>Xo
 | a::r,g,o,0,e,h,hi=>by
   rw[kM]at h;simp at hi;subst hi;simpa using h.1
 | a::r,g,o,i+1,e,h,hi=>by
   rw[kM]at h;have:=kM.at r g (o+5) i e h.2 Gs;rw[show o+(i+1)*5=o+5+i*5 by omega];exact this
theorem xB.at{B:Nat}{w:C7}:∀(l:List St) (g o i:Nat) (e:St),xB B w l g o->l[i]?=some e->E0 B w e g (o+i*6)
 |[],_,_,_,_,_,h=>Xo
 | a::r,g,o,0,e,h,hi=>by
   rw[xB]at h;simp at hi;subst hi;simpa using h.1
 | a::r,g,o,i+1,e,h,hi=>by
   rw[xB]at h;have:=xB.at r g (o+6) i e h.2 Gs;rw[show o+(i+1)*6=o+6+i*6 by omega];exact this
def kW(B:Nat)(w:C7)(v:C8)(l:List Ex):Prop:=vq v l.length (kM B w l)
def f6(B:Nat)(w:C7)(v:C8)(l:List St):Prop:=vq v l.length (xB B w l)
theorem kW.below{B a:Nat}{w w':C7}{v:C8}{l:List Ex}(b:kW B w v l)(d:Below B w w')(c:B<=a):kW a w' v l:=vq.imp b fun g o=>kM.below d c l g o
theorem f6.below{B a:Nat}{w w':C7}{v:C8}{l:List St}(b:f6 B w v l)(d:Below B w w')(c:B<=a):f6 a w' v l:=vq.imp b fun g o=>xB.below d c l g o
theorem kW.cells{B:Nat}{w:C7}{a:Option Addr}{n e:Nat}{l:List Ex}(j:kW B w (.slice a n e) l){i:Nat}{k op m:Int}{td:C6}{tc:List Ex}(c:l[i]?=some (.mk k op m td tc)):
 ∃(g o:Nat) (v:C8),a=some ⟨g,o,none⟩/\g<B/\w.cell? (g,o+i*5)=some (.int .i64 k)/\w.cell? (g,o+i*5+1)=some (.int .i64 op)/\w.cell? (g,o+i*5+2)=some (.int .i64 m)/\
   w.cell? (g,o+i*5+3)=some (.string td)/\w.cell? (g,o+i*5+4)=some v/\kW B w v tc:=by
 obtain⟨_,_,y,_,hF⟩:=j;injection y with f _ _;subst f;obtain⟨g,o,t,u⟩:=hF Ko;have d:=kM.at l g o i _ u c;rw[z9]at d;obtain⟨b,p,q,r,_,v,s,x⟩:=d;exact⟨g,o,v,t,b.1,b.2,p.2,q.2,r.2,s.2,x⟩
theorem kW.range{B:Nat}{w:C7}{v:C8}{l:List Ex}(c:kW B w v l){i:Nat}{k op m:Int}{td:C6}{tc:List Ex}(a:l[i]?=some (.mk k op m td tc)):fS m:=by
 obtain⟨_,_,_,_,hF⟩:=c;obtain⟨g,o,_,d⟩:=hF Xq;have b:=kM.at l g o i _ d a;rw[z9]at b;exact b.2.2.2.2.1
theorem f6.cells{B:Nat}{w:C7}{c:Option Addr}{n m:Nat}{l:List St}(q:f6 B w (.slice c n m) l){i:Nat}{k j:Int}{td:C6}{tc:List Ex}{tg th:List St}(e:l[i]?=some (.mk k j td tc tg th)):
 ∃(g o:Nat) (v a b:C8),c=some ⟨g,o,none⟩/\g<B/\w.cell? (g,o+i*6)=some (.int .i64 k)/\w.cell? (g,o+i*6+1)=some (.int .i64 j)/\w.cell? (g,o+i*6+2)=some (.string td)/\
   w.cell? (g,o+i*6+3)=some v/\w.cell? (g,o+i*6+4)=some a/\w.cell? (g,o+i*6+5)=some b/\kW B w v tc/\f6 B w a tg/\f6 B w b th:=by
 obtain⟨_,_,E,_,hF⟩:=q;injection E with p _ _;subst p;obtain⟨g,o,y,z⟩:=hF (by have:=(List.getElem?_eq_some_iff.1 e).1;omega);have f:=xB.at l g o i _ z e;rw[E0]at f;obtain⟨d,r,s,⟨v,t,A⟩,⟨a,u,C⟩,⟨b,x,D⟩⟩:=f;exact⟨g,o,v,a,b,y,d.1,d.2,r.2,s.2,t.2,u.2,x.2,A,C,D⟩
def uv{α:Type}(b:Nat)(F:α->Nat->Nat->Prop):List α->Nat->Nat->Prop
 |[],_,_=>True
 |a::r,g,o=>F a g o/\uv b F r g (o+b)
theorem uv.imp{α:Type}{b:Nat}{F G:α->Nat->Nat->Prop}(k:∀a g o,F a g o->G a g o):∀(l:List α) (g o:Nat),uv b F l g o->uv b G l g o
 |[],_,_,_=>trivial
 |a::r,g,o,h=>⟨k a g o h.1,uv.imp k r g (o+b) h.2⟩
theorem uv.at{α:Type}{b:Nat}{F:α->Nat->Nat->Prop}:∀(l:List α) (g o i:Nat) (a:α),uv b F l g o->l[i]?=some a->F a g (o+i*b)
 |[],_,_,_,_,_,h=>Xo
 | a::r,g,o,0,e,h,hi=>by
   simp at hi;subst hi;simpa using h.1
 | a::r,g,o,i+1,e,h,hi=>by
   have:=uv.at r g (o+b) i e h.2 Gs;rw[show o+(i+1)*b=o+b+i*b by rw[Nat.add_mul,Nat.one_mul];omega];exact this
def WD(B:Nat)(w:C7)(a:Ar)(g o:Nat):Prop:=fK B w g o (.string a.name)/\fK B w g (o+1) (.int .i64 a.size)
def RD(B:Nat)(w:C7)(a:Pa)(g o:Nat):Prop:=fK B w g o (.string a.name)/\fK B w g (o+1) (.int .i64 a.type)
def gN(B:Nat)(w:C7)(v:C8)(l:List Ar):Prop:=vq v l.length (uv 2 (WD B w) l)
def gU(B:Nat)(w:C7)(v:C8)(l:List Pa):Prop:=vq v l.length (uv 2 (RD B w) l)/\∀A n c,v=.slice A n c->n<=c
def WE(B:Nat)(w:C7)(f:Fu)(g o:Nat):Prop:=fK B w g o (.string f.name)/\fK B w g (o+1) (.int .i64 f.type)/\(∃v,fK B w g (o+2) v/\gU B w v f.params)/\(∃v,fK B w g (o+3) v/\f6 B w v f.body)
def gO(B:Nat)(w:C7)(v:C8)(l:List Fu):Prop:=vq v l.length (uv 4 (WE B w) l)
theorem WD.below{B b:Nat}{w w':C7}(e:Below B w w')(d:B<=b)(a:Ar)(g o:Nat)(c:WD B w a g o):WD b w' a g o:=⟨c.1.below e d,c.2.below e d⟩
theorem RD.below{B b:Nat}{w w':C7}(e:Below B w w')(d:B<=b)(a:Pa)(g o:Nat)(c:RD B w a g o):RD b w' a g o:=⟨c.1.below e d,c.2.below e d⟩
theorem gN.below{B b:Nat}{w w':C7}{v:C8}{l:List Ar}(c:gN B w v l)(e:Below B w w')(d:B<=b):gN b w' v l:=vq.imp c fun g o=>uv.imp (fun a g o=>WD.below e d a g o) l g o
theorem gU.below{B b:Nat}{w w':C7}{v:C8}{l:List Pa}(c:gU B w v l)(e:Below B w w')(d:B<=b):gU b w' v l:=⟨vq.imp c.1 fun g o=>uv.imp (fun a g o=>RD.below e d a g o) l g o,c.2⟩
theorem WE.below{B d:Nat}{w w':C7}(c:Below B w w')(b:B<=d)(a:Fu)(g o:Nat)(e:WE B w a g o):WE d w' a g o:=by
 obtain⟨f,i,⟨v,j,k⟩,⟨v',l,m⟩⟩:=e;exact⟨f.below c b,i.below c b,⟨v,j.below c b,k.below c b⟩,⟨v',l.below c b,m.below c b⟩⟩
theorem gO.below{B b:Nat}{w w':C7}{v:C8}{l:List Fu}(c:gO B w v l)(e:Below B w w')(d:B<=b):gO b w' v l:=vq.imp c fun g o=>uv.imp (fun a g o=>WE.below e d a g o) l g o
theorem vq.elem{v:C8}{n:Nat}{F:Nat->Nat->Prop}{a:Option Addr}{m c:Nat}(e:vq v n F)(i:v=.slice a m c)(f:0<n):∃g o,a=some ⟨g,o,none⟩/\F g o:=by
 obtain⟨_,_,b,_,hF⟩:=e;rw[i]at b;injection b with d _ _;subst d;exact hF f
theorem gN.cells{B:Nat}{w:C7}{b:Option Addr}{n d:Nat}{l:List Ar}(e:gN B w (.slice b n d) l){i:Nat}{a:Ar}(c:l[i]?=some a):
 ∃(g o:Nat),b=some ⟨g,o,none⟩/\g<B/\w.cell? (g,o+i*2)=some (.string a.name)/\w.cell? (g,o+i*2+1)=some (.int .i64 a.size):=by
 obtain⟨g,o,f,j⟩:=vq.elem e rfl Ko;have:=uv.at l g o i a j c;exact⟨g,o,f,this.1.1,this.1.2,this.2.2⟩
theorem gU.cells{B:Nat}{w:C7}{b:Option Addr}{n d:Nat}{l:List Pa}(e:gU B w (.slice b n d) l){i:Nat}{a:Pa}(c:l[i]?=some a):
 ∃(g o:Nat),b=some ⟨g,o,none⟩/\g<B/\w.cell? (g,o+i*2)=some (.string a.name)/\w.cell? (g,o+i*2+1)=some (.int .i64 a.type):=by
 obtain⟨g,o,f,j⟩:=vq.elem e.1 rfl Ko;have:=uv.at l g o i a j c;exact⟨g,o,f,this.1.1,this.1.2,this.2.2⟩
theorem gO.cells{B:Nat}{w:C7}{a:Option Addr}{n d:Nat}{l:List Fu}(e:gO B w (.slice a n d) l){i:Nat}{f:Fu}(c:l[i]?=some f):
 ∃(g o:Nat) (v v':C8),a=some ⟨g,o,none⟩/\g<B/\w.cell? (g,o+i*4)=some (.string f.name)/\w.cell? (g,o+i*4+1)=some (.int .i64 f.type)/\w.cell? (g,o+i*4+2)=some v/\w.cell? (g,o+i*4+3)=some v'/\gU B w v f.params/\f6 B w v' f.body:=by
 obtain⟨g,o,r,s⟩:=vq.elem e rfl Ko;obtain⟨b,j,⟨v,k,m⟩,⟨v',p,q⟩⟩:=uv.at l g o i f s c;exact⟨g,o,v,v',r,b.1,b.2,j.2,k.2,p.2,m,q⟩
theorem gN.form{B:Nat}{w:C7}{v:C8}{l:List Ar}(c:gN B w v l):∃a b,v=.slice a l.length b/\l.length<=281474976710656:=by
 obtain⟨a,b,e,d,_⟩:=c;exact⟨a,b,e,d⟩
theorem gU.form{B:Nat}{w:C7}{v:C8}{l:List Pa}(c:gU B w v l):∃a b,v=.slice a l.length b/\l.length<=281474976710656:=by
 obtain⟨a,b,e,d,_⟩:=c.1;exact⟨a,b,e,d⟩
theorem gO.form{B:Nat}{w:C7}{v:C8}{l:List Fu}(c:gO B w v l):∃a b,v=.slice a l.length b/\l.length<=281474976710656:=by
 obtain⟨a,b,e,d,_⟩:=c;exact⟨a,b,e,d⟩
theorem kW.form{B:Nat}{w:C7}{v:C8}{l:List Ex}(c:kW B w v l):∃a b,v=.slice a l.length b/\l.length<=281474976710656:=by
 obtain⟨a,b,e,d,_⟩:=c;exact⟨a,b,e,d⟩
theorem f6.form{B:Nat}{w:C7}{v:C8}{l:List St}(c:f6 B w v l):∃a b,v=.slice a l.length b/\l.length<=281474976710656:=by
 obtain⟨a,b,e,d,_⟩:=c;exact⟨a,b,e,d⟩
