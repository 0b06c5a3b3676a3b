/- Parts of the proof. -/
import Derived.Test.YtjghbciepinofaaGreatPL
import Derived.Test.YtjghbciepinofaaGreatPK25
set_option maxRecDepth 100000
set_option maxHeartbeats 16000000
namespace Go.Proofs.YtjghbciepinofaaGreat
open Go.Proofs.Tryz
open Value renaming int->J,slice->J1,pointer->J2,bool->J3,agg->J4
open IntKind renaming i64->I
open Obj renaming cells->J5
namespace Pv
open Go.RowKit
theorem q1F(l:List Int)(u:Value)(P:Nat->Prop)(w:World)(v:Int)(hu:Rep P w u 1 8 (inC l)) :
  Calls prog 169 #[u,J I v] w fun e w'=>(∃ r:Int,e=.returned (J I r)/\decide (0<=r)=decide (v∈l))/\w=w':=by
 obtain⟨A,C,rfl,n,-,g,-⟩:=hu.open (z0M _) (by decide)
 have o:=J6 g;have p:l.length<=17592186044405:=by omega
 obtain⟨G,c⟩:∃ G,decide (v∈l)=G:=⟨_,rfl⟩;have h:=J6 c;rw[c];clear g hu n c
 go_enter func169,ntmps169
 go_wp2
 go_loop [8] (fun i=>∃ (k:Nat),k<=l.length/\i=J I (k:Int)/\Hid (G=decide (v∈l.drop k))) (fun i=>l.length - (intOf i).toNat)
 case atStart=>exact⟨0,Nat.zero_le _,rfl,by rw[List.drop_zero];exact h.out.symm⟩
 case round =>
  obtain⟨k,z,rfl,d⟩:=hrel
  by_cases a:k<l.length
  ·have q:(k:Int)<(l.length:Int):=by omega
   obtain⟨x,j,hd⟩:=z7k a;obtain⟨s,t,rfl,-,y,hcell⟩:=o.out (by omega)
   have m:l.getD k 0=x:=by simp[List.getD,j]
   have p0:=z3f l k a;rw[m]at p0;have c0:w.cell? ⟨s,t+k,none⟩=some (J I x):=hcell _ _ p0;have b:Hid (G=decide (v∈x :: l.drop (k+1))):=by have:=d.out;rw[hd]at this;exact this
   clear d hd j m p0 hcell
   by_cases h1:v=x
   ·subst h1;have e:G=true:=by rw[b.out];simp
    subst e;clear b h;go_wp2;go_ret;exact⟨⟨_,rfl,by simp⟩,rfl⟩
   ·have f:Hid (G=decide (v∈l.drop (k+1))):=by rw[Hid,b.out];simp[h1]
    clear b;go_wp2
    go_round
    case rel=>exact⟨k+1,by omega,by go_num,f⟩
    case measure=>simp[intOf];omega
  ·obtain rfl:k=l.length:=by omega
   have e:G=false:=by have:=d.out;rw[List.drop_length]at this;simpa using this
   subst e;go_wp2;go_ret;exact⟨⟨_,rfl,by decide⟩,rfl⟩
theorem z7g(l:List Int)(u:Value)(P:Nat->Prop)(w:World)(v:Int)(hu:Rep P w u 1 8 (inC l)) :
  Calls prog 161 #[u,J I v] w fun e w'=>e=.returned (J3 (decide (v∈l)))/\w=w':=by
 have a:=J6 (q1F l u P w v hu);generalize decide (v∈l)=G at *;clear hu
 go_enter func161,ntmps161
 go_wp2_with (go_at_call 169;refine a.out.mono ?_;rintro e w1⟨⟨r,rfl,b⟩,rfl⟩)
 go_ret;subst b;exact⟨rfl,rfl⟩
theorem q3p(ao:Option Addr)(n c:Nat)(a:n<=c)(h0:ao=none->n=0)(b:(n:Int)<4611686018427387904)(w:World):Calls prog 162 #[J1 ao n c] w fun e w'=>e=.returned (J1 ao n n)/\w=w':=by
 have h1:(n:Int)<=(c:Int):=by omega
 have h2:(0:Int)<=(n:Int):=by omega
 go_enter func162,ntmps162
 cases ao
 ·obtain rfl:=h0 rfl;go_wp2;go_ret;exact⟨rfl,rfl⟩
 ·clear h0;go_wp2;go_ret;exact⟨rfl,rfl⟩
def z3Y(w:World)(g:Nat)(l:List Int):Prop:=∃ a:Array Value,w.heap[g]?=some (J5 a 3 (0,0))/\∀ (i:Nat) (x:Int),l[i]?=some x->a[i]?=some (Value.int .i64 x)
theorem z3Y.later{w w':World}{g:Nat}{l:List Int}(h:z3Y w g l)(c:Bl w w'):z3Y w' g l:=by
 obtain⟨a,b,d⟩:=h;exact⟨a,(c.block g (Array.getElem?_eq_some_iff.1 b).1).trans b,d⟩
theorem z3Y.cell{w:World}{g:Nat}{l:List Int}(h:z3Y w g l){i:Nat}(a:i<l.length):w.cell? ⟨g,i,none⟩=some (J I (l.getD i 0)):=by
 obtain⟨b,c,d⟩:=h;have e:l[i]?=some (l.getD i 0):=by simp[List.getD,a]
 have h1:=d i _ e;simp only[World.cell?,c]
 simp[h1]
theorem z3Y.free{w:World}{g:Nat}{l:List Int}(h:z3Y w g l)(o:Nat):w.frozen? ⟨g,o,none⟩=false:=by
 obtain⟨a,b,_⟩:=h
 simp[World.frozen?,b]
theorem z3Y.lt{w:World}{g:Nat}{l:List Int}(h:z3Y w g l):g<w.heap.size:=by
 obtain⟨a,b,_⟩:=h;exact (Array.getElem?_eq_some_iff.1 b).1
theorem z3Y.put{w:World}{g:Nat}{l:List Int}(h:z3Y w g l){i:Nat}(d:i<l.length)(x:Int):z3Y (w.setCell ⟨g,i,none⟩ (J I x)) g (l.set i x):=by
 obtain⟨b,f,e⟩:=h;have k:i<b.size:=(Array.getElem?_eq_some_iff.1 (e i _ (List.getElem?_eq_getElem d))).1;refine⟨b.setIfInBounds i (J I x),?_,fun j y a=>?_⟩
 ·simp[World.setCell,Array.getElem?_modify,f]
 ·rw[List.getElem?_set]at a
  by_cases c:i=j
  ·subst c;rw[if_pos rfl,if_pos d]at a
   simp at a
   subst a
   simp[k]
  ·rw[if_neg c]at a;have h1:=e j y a;simp only[Array.getElem?_setIfInBounds];rw[if_neg c];exact h1
theorem z3Y.rep{w:World}{g C:Nat}{l:List Int}(h:z3Y w g l)(c:l.length<=C)(hl:l.length * 8<=140737488351232):Rep (fun b=>b=g) w (J1 (some ⟨g,0,none⟩) l.length C) 1 8 (inC l):=by
 refine⟨_,l.length,C,rfl,by simp[inC],hl,⟨fun e=>(by cases e),c⟩,fun h0=>⟨g,0,rfl,rfl,h.lt,fun j u hu=>?_⟩⟩
 have a:j<l.length:=by have:=(List.getElem?_eq_some_iff.1 hu).1;rw[z0M]at this;omega
 rw[Nat.zero_add,h.cell a,<- hu,z3f l j a]
theorem q2D(x y:Int)(w:World):Calls prog 177 #[J I x,J I y] w fun e w'=>e=.returned (J3 (decide (x<y)))/\w=w':=by
 go_enter func177,ntmps177
 by_cases h:x<y
 ·go_wp2_with (go_at_call 136;refine (z5K _ _).mono ?_;rintro e w1⟨rfl,rfl⟩)
  all_goals (go_ret;exact⟨by simp[h],rfl⟩)
 ·go_wp2_with (go_at_call 136;refine (z5K _ _).mono ?_;rintro e w1⟨rfl,rfl⟩)
  all_goals (go_ret;exact⟨by simp,rfl⟩)
theorem q6a(g cap:Nat)(l:List Int)(w:World)(h:z3Y w g l)(hn:l.length<=12) :
  Calls prog 171 #[J1 (some ⟨g,0,none⟩) l.length cap,J I 0,J I (l.length:Int)] w fun e w'=>e=.returned (.tuple #[])/\z3Y w' g (z3V l)/\z2g g w w':=by
 have x:=J6 h;clear h
 go_enter func171,ntmps171
 go_wp2
 go_loopw [6] (fun i wl=>∃ m:Nat,i=J I ((m:Int)+1)/\(m+1<=l.length∨m=0)/\Hid (z3Y wl g (q1m l m)/\z2g g w wl)) (fun i _=>l.length - (intOf i).toNat)
 case atStart=>exact⟨0,rfl,.inr rfl,x.out,z2g.refl _ _⟩
 case round =>
  obtain⟨m,rfl,P,y⟩:=hrel
  by_cases Q:m+1<l.length
  ·rename World=>wo
   have G:(m:Int)+1<(l.length:Int):=by omega
   go_wp2_with fail
   go_loopw [7] (fun j wl=>∃ (p:Nat) (a:List Int),j=J I (p:Int)/\p<=m+1/\a.length=l.length/\Hid (q2X (m+1) (q1m l m)=q2X p a/\z3Y wl g a/\z2g g w wl)) (fun j _=>(intOf j).toNat)
   case atStart=>exact⟨m+1,q1m l m,by go_num,Nat.le_refl _,z3I _ _,rfl,y.out⟩
   case round =>
    obtain⟨p,a,rfl,hp,z,c⟩:=hrel;have R:w.heap.size<=wr.heap.size:=c.out.2.2.size;cases p with
    | zero =>
     have C:decide ((0:Int)<0)=false:=by decide
     go_upto_region 4 with fail
     go_quiet (fail);go_wp2;go_roundw
     case rel=>exact⟨m+1,by go_num,.inl (by omega),(by rw[q1m,c.out.1];exact c.out.2.1),(show z2g g w (wr.drewN nq) from c.out.2.2.drewN nq)⟩
     case measure=>simp[intOf];omega
    | succ p =>
     have k:p+1<a.length:=by omega
     have c0:=c.out.2.1.cell (i:=p+1) k;have H:=c.out.2.1.cell (i:=p) (by omega)
     have K:=q2D (a.getD (p+1) 0) (a.getD p 0);have S:=c.out.2.1.lt;have n:Hid (q2X (m+1) (q1m l m)=if a.getD (p+1) 0<a.getD p 0 then q2X p (swI a p) else a):=c.out.1;have b:=J6 c.out.2;clear c;generalize L:a.getD (p+1) 0=A at *;generalize M:a.getD p 0=B at *;have T:=J6 L;have U:=J6 M;clear L M;have V:IntKind.i64.wrap (((p+1:Nat):Int) - 1)=(p:Int):=by rw[show ((p+1:Nat):Int) - 1=(p:Int) by omega];exact z5V (by omega) (by omega)
     generalize hq:p+1=q at *;have f:=J6 hq;clear hq;have W:(0:Int)<=(q:Int):=by omega
     have X:(q:Int)<(l.length:Int):=by omega
     have Y:(0:Int)<=(p:Int):=by omega
     have Z:(p:Int)<(l.length:Int):=by have:=f.out;omega
     have C:decide (0<q)=true:=by have:=f.out;simp;omega
     go_upto_region 4 with fail
     go_region_held3 (fun wx=>wx.cell? ⟨g,q,none⟩=some (J I A)/\wx.cell? ⟨g,p,none⟩=some (J I B)) (first | go_keep | exact⟨c0,H⟩)
      (first | (go_at_call 177;refine (K _).mono ?_;rintro e w1⟨rfl,rfl⟩))
     rename_i hh;obtain⟨a0,a1⟩:=hh;have d:=b.out.1.later (w':=wr.drew) (show Bl wr wr.drew from (Below.refl _ wr).drew);have o:z2g g w wr.drew:=b.out.2.trans (z2g.of_below (show Bl wr wr.drew from (Below.refl _ wr).drew));generalize wr.drew=w1 at *;have r:=J6 d;have s:=J6 o;have f0:=d.free q;have f2:=d.free p;clear d o c0 H b K
     by_cases v:A<B
     ·have hd:decide (A<B)=true:=by simpa using v
      rw[hd];have D:=f.out;have n1:¬ p=q:=by omega
      have n2:¬ q=p:=by omega
      clear D
      go_upto_region 6 with fail
      go_region;have t:(a.set q B).set p A=swI a p:=by rw[swI,f.out,T.out,U.out]
      have E:Hid (z3Y (((w1.setCell ⟨g,q,none⟩ (J I B)).setCell ⟨g,p,none⟩ (J I A)).drew) g (swI a p)):=by
       rw[<- t];exact (r.out.put k B).put (by simp;omega) A
      have F:Hid (z2g g w (((w1.setCell ⟨g,q,none⟩ (J I B)).setCell ⟨g,p,none⟩ (J I A)).drew)):=((s.out.set _ _).set _ _).drew;have u:Hid (q2X (m+1) (q1m l m)=q2X p (swI a p)):=by rw[n.out];exact if_pos v
      clear t;generalize ((w1.setCell ⟨g,q,none⟩ (J I B)).setCell ⟨g,p,none⟩ (J I A)).drew=w2 at *;go_wp2;go_roundw
      case rel=>exact⟨p,swI a p,rfl,by have:=f.out;omega,(by rw[z6P];exact z),u.out,E.out,F.out⟩
      case measure=>have:=f.out;simp[intOf];omega
     ·have hd:decide (A<B)=false:=by simpa using v
      rw[hd];have u:Hid (q2X (m+1) (q1m l m)=a):=by rw[n.out];exact if_neg v
      go_wp2;go_roundw
      case rel=>exact⟨m+1,by go_num,.inl (by omega),(by rw[q1m,u.out];exact r.out),s.out⟩
      case measure=>simp[intOf];omega
  ·have N:z3V l=q1m l m:=by
    unfold z3V
    rcases P with h | rfl
    ·rw[show l.length - 1=m by omega]
    ·rcases (show l.length=0∨l.length=1 by omega) with h | h <;> rw[h]
   have u:=J6 N;clear N;go_wp2;go_end0;exact⟨rfl,by rw[u.out];exact y.out.1,y.out.2⟩
theorem q5I(g cap:Nat)(c:Int)(l:List Int)(w:World)(h:z3Y w g l)(f:l.length<=12) :
  Calls prog 170 #[J1 (some ⟨g,0,none⟩) l.length cap,J I 0,J I (l.length:Int),J I c] w fun e w'=>e=.returned (.tuple #[])/\z3Y w' g (z3V l)/\z2g g w w':=by
 have i:=q6a g cap l w h f;have j:(l.length:Int)<=12:=by omega
 clear h
 go_enter func170,ntmps170
 go_wp2_with fail
 go_loopw [1,2] (fun a b wl=>a=J I 0/\b=J I (l.length:Int)/\Hid (wl=w)) (fun _ _ _=>0)
 case atStart=>exact⟨rfl,rfl,rfl⟩
 case round =>
  obtain⟨rfl,rfl,d⟩:=hrel;have e:=d.out;subst e;clear d
  go_wp2_with (go_at_call 171;refine i.mono ?_;rintro e w1⟨rfl,h1⟩;have k:=J6 h1;clear h1)
  exact bodyPost_ret (v:=.tuple #[]) (by simp[results,results170]) rfl ⟨rfl,k.out⟩
theorem q4s(n:Nat)(b:n<=12)(w:World):Calls prog 87 #[.int .u64 (n:Int)] w fun e w'=>(∃ k,e=.returned (J I k))/\w=w':=by
 have a:=Ra.q6h n (by omega)
 go_enter func87,ntmps87
 go_wp2_with (go_at_call 135;refine (a _).mono ?_;rintro e w1⟨rfl,rfl⟩)
 go_ret;exact⟨⟨_,rfl⟩,rfl⟩
theorem q2L(g cap:Nat)(l:List Int)(w:World)(h:z3Y w g l)(b:l.length<=12) :
  Calls prog 163 #[J1 (some ⟨g,0,none⟩) l.length cap] w fun e w'=>e=.returned (.tuple #[])/\z3Y w' g (z3V l)/\z2g g w w':=by
 have c:=fun a=>q5I g cap a l w h b;have d:=q4s l.length b w;clear h
 go_enter func163,ntmps163
 go_wp2_with (first
  | (go_at_call 87;refine d.mono ?_;rintro e w1⟨⟨k,rfl⟩,rfl⟩)
  | (go_at_call 170;refine (c _).mono ?_;rintro e i⟨rfl,h1⟩;have f:=J6 h1;clear h1))
 go_end0;exact⟨rfl,f.out⟩
end Pv
section
open Go.RowKit
theorem z8W(f0 f1 f2 f3 bo wa bu n:Int)(w:World)(d:z0v f0 f1 f2 f3 bo wa bu=true)(a:0<=n)(b:n<=1125899906842624)(u:n<=bo) :
  Calls prog 143 #[J4 #[J I f0,J I f1,J I f2,J I f3,J I bo,J I wa,J I bu],J I 4,J I 5,J I n] w fun e w'=>e=.returned (.tuple #[J4 #[J I f0,J I f1,J I f2,J I f3,J I (bo - n),J I (wa+n),J I bu],J I 0])/\Bl w w':=by
 have p:=z0T f0 f1 f2 f3 bo wa bu;rw[d]at p;have q:=z2f n;rw[decide_eq_true ⟨a,b⟩]at q;unfold z0v at d;obtain⟨v,x,y,z,g4,A,B,C⟩:=of_decide_eq_true d;clear d;have N:wrap64 (bo - n)=bo - n:=z0a (by omega) (by omega)
 have P:wrap64 (wa+n)=wa+n:=z0a (by omega) (by omega)
 clear v x y z g4 A B C a b
 go_enter func143,ntmps143
 go_wp2_with fail
 refine (p _).mono ?_;rintro e w1⟨rfl,f⟩;have g:=((BAt.new w f0 f1 f2 f3 bo wa bu).alloc (J5 #[J I 0,J I 0,J I 0,J I 0,J I 0,J I 0,J I 0] 24)).later f (by simp;omega)
 have i:BAt w1 (w.heap.size+1) 0 0 0 0 0 0 0:=by
  have:=(BAt.new (w.alloc (J5 #[J I f0,J I f1,J I f2,J I f3,J I bo,J I wa,J I bu] 24)) 0 0 0 0 0 0 0).later f (by simp)
  simpa using this
 have r:Hid (Bl w w1):=((znw w _).alloc (by simp) _).trans (f.mono (by simp;omega))
 clear f;obtain⟨D,E,F,G,H,K,L⟩:=g.cells
 go_wp2_with (first
  | (go_at_call 138;refine (q _).mono ?_;rintro e Q⟨rfl,rfl⟩)
  | (go_at_call 157;refine (z0X f0 f1 f2 f3 bo wa bu _).mono ?_;rintro e j⟨rfl,h2⟩;have k:=i.later h2 i.lt;have s:=g.later h2 g.lt;have c:Hid (Bl w j):=zbt r.out h2;have l:w.heap.size<j.heap.size:=s.lt;have M:w.heap.size+1<j.heap.size:=k.lt;clear h2;clear g i r s D E F G H K L)
  | (go_at_call 158;refine (z1E f0 f1 f2 f3 (bo - n) (wa+n) bu _).mono ?_;rintro e t⟨rfl,h3⟩;have h:=(k.alloc _).later h3 (by simp;omega);have m:Hid (Bl w t):=(c.out.alloc (Nat.le_of_lt l) _).trans (h3.mono (by simp;omega));obtain⟨R,u1,u2,S,T,U,V⟩:=h.frees;obtain⟨v0,v1,v2,v3,W,X,Y⟩:=h.cells;have o:Hid (BAt t (w.heap.size+1) 0 0 0 0 0 0 0):=h;clear k h h3 c))
 exact z1Q o.out m.out f0 f1 f2 f3 (bo - n) (wa+n) bu 0 _ rfl rfl rfl
theorem z8E(f0 f1 f2 f3 bo wa bu n:Int)(w:World)(d:z0v f0 f1 f2 f3 bo wa bu=true)(a:0<=n)(b:n<=1125899906842624)(u:n<=bo) :
  Calls prog 143 #[J4 #[J I f0,J I f1,J I f2,J I f3,J I bo,J I wa,J I bu],J I 4,J I 6,J I n] w fun e w'=>e=.returned (.tuple #[J4 #[J I f0,J I f1,J I f2,J I f3,J I (bo - n),J I wa,J I (bu+n)],J I 0])/\Bl w w':=by
 have p:=z0T f0 f1 f2 f3 bo wa bu;rw[d]at p;have q:=z2f n;rw[decide_eq_true ⟨a,b⟩]at q;unfold z0v at d;obtain⟨v,x,y,z,g4,A,B,C⟩:=of_decide_eq_true d;clear d;have N:wrap64 (bo - n)=bo - n:=z0a (by omega) (by omega)
 have P:wrap64 (bu+n)=bu+n:=z0a (by omega) (by omega)
 clear v x y z g4 A B C a b
 go_enter func143,ntmps143
 go_wp2_with fail
 refine (p _).mono ?_;rintro e w1⟨rfl,f⟩;have g:=((BAt.new w f0 f1 f2 f3 bo wa bu).alloc (J5 #[J I 0,J I 0,J I 0,J I 0,J I 0,J I 0,J I 0] 24)).later f (by simp;omega)
 have i:BAt w1 (w.heap.size+1) 0 0 0 0 0 0 0:=by
  have:=(BAt.new (w.alloc (J5 #[J I f0,J I f1,J I f2,J I f3,J I bo,J I wa,J I bu] 24)) 0 0 0 0 0 0 0).later f (by simp)
  simpa using this
 have r:Hid (Bl w w1):=((znw w _).alloc (by simp) _).trans (f.mono (by simp;omega))
 clear f;obtain⟨D,E,F,G,H,K,L⟩:=g.cells
 go_wp2_with (first
  | (go_at_call 138;refine (q _).mono ?_;rintro e Q⟨rfl,rfl⟩)
  | (go_at_call 157;refine (z0X f0 f1 f2 f3 bo wa bu _).mono ?_;rintro e j⟨rfl,h2⟩;have k:=i.later h2 i.lt;have s:=g.later h2 g.lt;have c:Hid (Bl w j):=zbt r.out h2;have l:w.heap.size<j.heap.size:=s.lt;have M:w.heap.size+1<j.heap.size:=k.lt;clear h2;clear g i r s D E F G H K L)
  | (go_at_call 158;refine (z1E f0 f1 f2 f3 (bo - n) wa (bu+n) _).mono ?_;rintro e t⟨rfl,h3⟩;have h:=(k.alloc _).later h3 (by simp;omega);have m:Hid (Bl w t):=(c.out.alloc (Nat.le_of_lt l) _).trans (h3.mono (by simp;omega));obtain⟨R,u1,u2,S,T,U,V⟩:=h.frees;obtain⟨v0,v1,v2,v3,W,X,Y⟩:=h.cells;have o:Hid (BAt t (w.heap.size+1) 0 0 0 0 0 0 0):=h;clear k h h3 c))
 exact z1Q o.out m.out f0 f1 f2 f3 (bo - n) wa (bu+n) 0 _ rfl rfl rfl
theorem z8V(f0 f1 f2 f3 bo wa bu n:Int)(w:World)(d:z0v f0 f1 f2 f3 bo wa bu=true)(a:0<=n)(b:n<=1125899906842624)(u:n<=wa) :
  Calls prog 143 #[J4 #[J I f0,J I f1,J I f2,J I f3,J I bo,J I wa,J I bu],J I 5,J I 6,J I n] w fun e w'=>e=.returned (.tuple #[J4 #[J I f0,J I f1,J I f2,J I f3,J I bo,J I (wa - n),J I (bu+n)],J I 0])/\Bl w w':=by
 have p:=z0T f0 f1 f2 f3 bo wa bu;rw[d]at p;have q:=z2f n;rw[decide_eq_true ⟨a,b⟩]at q;unfold z0v at d;obtain⟨v,x,y,z,g4,A,B,C⟩:=of_decide_eq_true d;clear d;have N:wrap64 (wa - n)=wa - n:=z0a (by omega) (by omega)
 have P:wrap64 (bu+n)=bu+n:=z0a (by omega) (by omega)
 clear v x y z g4 A B C a b
 go_enter func143,ntmps143
 go_wp2_with fail
 refine (p _).mono ?_;rintro e w1⟨rfl,f⟩;have g:=((BAt.new w f0 f1 f2 f3 bo wa bu).alloc (J5 #[J I 0,J I 0,J I 0,J I 0,J I 0,J I 0,J I 0] 24)).later f (by simp;omega)
 have i:BAt w1 (w.heap.size+1) 0 0 0 0 0 0 0:=by
  have:=(BAt.new (w.alloc (J5 #[J I f0,J I f1,J I f2,J I f3,J I bo,J I wa,J I bu] 24)) 0 0 0 0 0 0 0).later f (by simp)
  simpa using this
 have r:Hid (Bl w w1):=((znw w _).alloc (by simp) _).trans (f.mono (by simp;omega))
 clear f;obtain⟨D,E,F,G,H,K,L⟩:=g.cells
 go_wp2_with (first
  | (go_at_call 138;refine (q _).mono ?_;rintro e Q⟨rfl,rfl⟩)
  | (go_at_call 157;refine (z0X f0 f1 f2 f3 bo wa bu _).mono ?_;rintro e j⟨rfl,h2⟩;have k:=i.later h2 i.lt;have s:=g.later h2 g.lt;have c:Hid (Bl w j):=zbt r.out h2;have l:w.heap.size<j.heap.size:=s.lt;have M:w.heap.size+1<j.heap.size:=k.lt;clear h2;clear g i r s D E F G H K L)
  | (go_at_call 158;refine (z1E f0 f1 f2 f3 bo (wa - n) (bu+n) _).mono ?_;rintro e t⟨rfl,h3⟩;have h:=(k.alloc _).later h3 (by simp;omega);have m:Hid (Bl w t):=(c.out.alloc (Nat.le_of_lt l) _).trans (h3.mono (by simp;omega));obtain⟨R,u1,u2,S,T,U,V⟩:=h.frees;obtain⟨v0,v1,v2,v3,W,X,Y⟩:=h.cells;have o:Hid (BAt t (w.heap.size+1) 0 0 0 0 0 0 0):=h;clear k h h3 c))
 exact z1Q o.out m.out f0 f1 f2 f3 bo (wa - n) (bu+n) 0 _ rfl rfl rfl
theorem q9y(b:Bk)(n:Int)(w:World) :
  Calls prog 143 #[J4 #[J I b.f0,J I b.f1,J I b.f2,J I b.f3,J I b.bo,J I b.wa,J I b.bu],J I 5,J I 0,J I n] w fun e w'=>e=.returned (.tuple #[J4 #[J I (mv b 5 0 n).1.f0,J I (mv b 5 0 n).1.f1,J I (mv b 5 0 n).1.f2,J I (mv b 5 0 n).1.f3,J I (mv b 5 0 n).1.bo,J I (mv b 5 0 n).1.wa,J I (mv b 5 0 n).1.bu],J I (mv b 5 0 n).2])/\Bl w w':=by
 by_cases c:b.good=true
 ·by_cases a:0<=n/\n<=1125899906842624
  ·have h1:¬ (b.good=false∨¬ (0<=n/\n<=1125899906842624)):=by rw[c];simp[a]
   by_cases hl:b.wa<n
   ·have e:mv b 5 0 n=(b,7):=by rw[mv,if_neg h1,if_pos (show b.get 5<n from hl)]
    rw[e];exact z1P b.f0 b.f1 b.f2 b.f3 b.bo b.wa b.bu _ n w c a.1 a.2 hl
   ·have e:mv b 5 0 n=((b.put 5 (b.wa - n)).put 0 (b.f0+n),0):=by rw[mv,if_neg h1,if_neg (show ¬ b.get 5<n from hl)];rfl
    rw[e];exact z8M b.f0 b.f1 b.f2 b.f3 b.bo b.wa b.bu n w c a.1 a.2 (by omega)
  ·have e:mv b 5 0 n=(b,2):=by rw[mv,if_pos (.inr a)]
   rw[e];exact z1e b.f0 b.f1 b.f2 b.f3 b.bo b.wa b.bu _ _ n w c a
 ·have e:mv b 5 0 n=(b,2):=by rw[mv,if_pos (.inl (by simpa using c))]
  rw[e];exact z0W b.f0 b.f1 b.f2 b.f3 b.bo b.wa b.bu _ _ n w (by simpa [Bk.good] using c)
theorem q8P(b:Bk)(n:Int)(w:World) :
  Calls prog 143 #[J4 #[J I b.f0,J I b.f1,J I b.f2,J I b.f3,J I b.bo,J I b.wa,J I b.bu],J I 5,J I 1,J I n] w fun e w'=>e=.returned (.tuple #[J4 #[J I (mv b 5 1 n).1.f0,J I (mv b 5 1 n).1.f1,J I (mv b 5 1 n).1.f2,J I (mv b 5 1 n).1.f3,J I (mv b 5 1 n).1.bo,J I (mv b 5 1 n).1.wa,J I (mv b 5 1 n).1.bu],J I (mv b 5 1 n).2])/\Bl w w':=by
 by_cases c:b.good=true
 ·by_cases a:0<=n/\n<=1125899906842624
  ·have h1:¬ (b.good=false∨¬ (0<=n/\n<=1125899906842624)):=by rw[c];simp[a]
   by_cases hl:b.wa<n
   ·have e:mv b 5 1 n=(b,7):=by rw[mv,if_neg h1,if_pos (show b.get 5<n from hl)]
    rw[e];exact z1P b.f0 b.f1 b.f2 b.f3 b.bo b.wa b.bu _ n w c a.1 a.2 hl
   ·have e:mv b 5 1 n=((b.put 5 (b.wa - n)).put 1 (b.f1+n),0):=by rw[mv,if_neg h1,if_neg (show ¬ b.get 5<n from hl)];rfl
    rw[e];exact z9r b.f0 b.f1 b.f2 b.f3 b.bo b.wa b.bu n w c a.1 a.2 (by omega)
  ·have e:mv b 5 1 n=(b,2):=by rw[mv,if_pos (.inr a)]
   rw[e];exact z1e b.f0 b.f1 b.f2 b.f3 b.bo b.wa b.bu _ _ n w c a
 ·have e:mv b 5 1 n=(b,2):=by rw[mv,if_pos (.inl (by simpa using c))]
  rw[e];exact z0W b.f0 b.f1 b.f2 b.f3 b.bo b.wa b.bu _ _ n w (by simpa [Bk.good] using c)
theorem q8M(b:Bk)(n:Int)(w:World) :
  Calls prog 143 #[J4 #[J I b.f0,J I b.f1,J I b.f2,J I b.f3,J I b.bo,J I b.wa,J I b.bu],J I 5,J I 2,J I n] w fun e w'=>e=.returned (.tuple #[J4 #[J I (mv b 5 2 n).1.f0,J I (mv b 5 2 n).1.f1,J I (mv b 5 2 n).1.f2,J I (mv b 5 2 n).1.f3,J I (mv b 5 2 n).1.bo,J I (mv b 5 2 n).1.wa,J I (mv b 5 2 n).1.bu],J I (mv b 5 2 n).2])/\Bl w w':=by
 by_cases c:b.good=true
 ·by_cases a:0<=n/\n<=1125899906842624
  ·have h1:¬ (b.good=false∨¬ (0<=n/\n<=1125899906842624)):=by rw[c];simp[a]
   by_cases hl:b.wa<n
   ·have e:mv b 5 2 n=(b,7):=by rw[mv,if_neg h1,if_pos (show b.get 5<n from hl)]
    rw[e];exact z1P b.f0 b.f1 b.f2 b.f3 b.bo b.wa b.bu _ n w c a.1 a.2 hl
   ·have e:mv b 5 2 n=((b.put 5 (b.wa - n)).put 2 (b.f2+n),0):=by rw[mv,if_neg h1,if_neg (show ¬ b.get 5<n from hl)];rfl
    rw[e];exact z9w b.f0 b.f1 b.f2 b.f3 b.bo b.wa b.bu n w c a.1 a.2 (by omega)
  ·have e:mv b 5 2 n=(b,2):=by rw[mv,if_pos (.inr a)]
   rw[e];exact z1e b.f0 b.f1 b.f2 b.f3 b.bo b.wa b.bu _ _ n w c a
 ·have e:mv b 5 2 n=(b,2):=by rw[mv,if_pos (.inl (by simpa using c))]
  rw[e];exact z0W b.f0 b.f1 b.f2 b.f3 b.bo b.wa b.bu _ _ n w (by simpa [Bk.good] using c)
theorem q9L(b:Bk)(n:Int)(w:World) :
  Calls prog 143 #[J4 #[J I b.f0,J I b.f1,J I b.f2,J I b.f3,J I b.bo,J I b.wa,J I b.bu],J I 5,J I 3,J I n] w fun e w'=>e=.returned (.tuple #[J4 #[J I (mv b 5 3 n).1.f0,J I (mv b 5 3 n).1.f1,J I (mv b 5 3 n).1.f2,J I (mv b 5 3 n).1.f3,J I (mv b 5 3 n).1.bo,J I (mv b 5 3 n).1.wa,J I (mv b 5 3 n).1.bu],J I (mv b 5 3 n).2])/\Bl w w':=by
 by_cases c:b.good=true
 ·by_cases a:0<=n/\n<=1125899906842624
  ·have h1:¬ (b.good=false∨¬ (0<=n/\n<=1125899906842624)):=by rw[c];simp[a]
   by_cases hl:b.wa<n
   ·have e:mv b 5 3 n=(b,7):=by rw[mv,if_neg h1,if_pos (show b.get 5<n from hl)]
    rw[e];exact z1P b.f0 b.f1 b.f2 b.f3 b.bo b.wa b.bu _ n w c a.1 a.2 hl
   ·have e:mv b 5 3 n=((b.put 5 (b.wa - n)).put 3 (b.f3+n),0):=by rw[mv,if_neg h1,if_neg (show ¬ b.get 5<n from hl)];rfl
    rw[e];exact z8C b.f0 b.f1 b.f2 b.f3 b.bo b.wa b.bu n w c a.1 a.2 (by omega)
  ·have e:mv b 5 3 n=(b,2):=by rw[mv,if_pos (.inr a)]
   rw[e];exact z1e b.f0 b.f1 b.f2 b.f3 b.bo b.wa b.bu _ _ n w c a
 ·have e:mv b 5 3 n=(b,2):=by rw[mv,if_pos (.inl (by simpa using c))]
  rw[e];exact z0W b.f0 b.f1 b.f2 b.f3 b.bo b.wa b.bu _ _ n w (by simpa [Bk.good] using c)
theorem j0W(b:Bk)(n:Int)(w:World) :
  Calls prog 143 #[J4 #[J I b.f0,J I b.f1,J I b.f2,J I b.f3,J I b.bo,J I b.wa,J I b.bu],J I 4,J I 5,J I n] w fun e w'=>e=.returned (.tuple #[J4 #[J I (mv b 4 5 n).1.f0,J I (mv b 4 5 n).1.f1,J I (mv b 4 5 n).1.f2,J I (mv b 4 5 n).1.f3,J I (mv b 4 5 n).1.bo,J I (mv b 4 5 n).1.wa,J I (mv b 4 5 n).1.bu],J I (mv b 4 5 n).2])/\Bl w w':=by
 by_cases c:b.good=true
 ·by_cases a:0<=n/\n<=1125899906842624
  ·have h1:¬ (b.good=false∨¬ (0<=n/\n<=1125899906842624)):=by rw[c];simp[a]
   by_cases hl:b.bo<n
   ·have e:mv b 4 5 n=(b,7):=by rw[mv,if_neg h1,if_pos (show b.get 4<n from hl)]
    rw[e];exact z4o b.f0 b.f1 b.f2 b.f3 b.bo b.wa b.bu _ n w c a.1 a.2 hl
   ·have e:mv b 4 5 n=((b.put 4 (b.bo - n)).put 5 (b.wa+n),0):=by rw[mv,if_neg h1,if_neg (show ¬ b.get 4<n from hl)];rfl
    rw[e];exact z8W b.f0 b.f1 b.f2 b.f3 b.bo b.wa b.bu n w c a.1 a.2 (by omega)
  ·have e:mv b 4 5 n=(b,2):=by rw[mv,if_pos (.inr a)]
   rw[e];exact z1e b.f0 b.f1 b.f2 b.f3 b.bo b.wa b.bu _ _ n w c a
 ·have e:mv b 4 5 n=(b,2):=by rw[mv,if_pos (.inl (by simpa using c))]
  rw[e];exact z0W b.f0 b.f1 b.f2 b.f3 b.bo b.wa b.bu _ _ n w (by simpa [Bk.good] using c)
theorem q9d(b:Bk)(n:Int)(w:World) :
  Calls prog 143 #[J4 #[J I b.f0,J I b.f1,J I b.f2,J I b.f3,J I b.bo,J I b.wa,J I b.bu],J I 4,J I 6,J I n] w fun e w'=>e=.returned (.tuple #[J4 #[J I (mv b 4 6 n).1.f0,J I (mv b 4 6 n).1.f1,J I (mv b 4 6 n).1.f2,J I (mv b 4 6 n).1.f3,J I (mv b 4 6 n).1.bo,J I (mv b 4 6 n).1.wa,J I (mv b 4 6 n).1.bu],J I (mv b 4 6 n).2])/\Bl w w':=by
 by_cases c:b.good=true
 ·by_cases a:0<=n/\n<=1125899906842624
  ·have h1:¬ (b.good=false∨¬ (0<=n/\n<=1125899906842624)):=by rw[c];simp[a]
   by_cases hl:b.bo<n
   ·have e:mv b 4 6 n=(b,7):=by rw[mv,if_neg h1,if_pos (show b.get 4<n from hl)]
    rw[e];exact z4o b.f0 b.f1 b.f2 b.f3 b.bo b.wa b.bu _ n w c a.1 a.2 hl
   ·have e:mv b 4 6 n=((b.put 4 (b.bo - n)).put 6 (b.bu+n),0):=by rw[mv,if_neg h1,if_neg (show ¬ b.get 4<n from hl)];rfl
    rw[e];exact z8E b.f0 b.f1 b.f2 b.f3 b.bo b.wa b.bu n w c a.1 a.2 (by omega)
  ·have e:mv b 4 6 n=(b,2):=by rw[mv,if_pos (.inr a)]
   rw[e];exact z1e b.f0 b.f1 b.f2 b.f3 b.bo b.wa b.bu _ _ n w c a
 ·have e:mv b 4 6 n=(b,2):=by rw[mv,if_pos (.inl (by simpa using c))]
  rw[e];exact z0W b.f0 b.f1 b.f2 b.f3 b.bo b.wa b.bu _ _ n w (by simpa [Bk.good] using c)
theorem q8D(b:Bk)(n:Int)(w:World) :
  Calls prog 143 #[J4 #[J I b.f0,J I b.f1,J I b.f2,J I b.f3,J I b.bo,J I b.wa,J I b.bu],J I 5,J I 6,J I n] w fun e w'=>e=.returned (.tuple #[J4 #[J I (mv b 5 6 n).1.f0,J I (mv b 5 6 n).1.f1,J I (mv b 5 6 n).1.f2,J I (mv b 5 6 n).1.f3,J I (mv b 5 6 n).1.bo,J I (mv b 5 6 n).1.wa,J I (mv b 5 6 n).1.bu],J I (mv b 5 6 n).2])/\Bl w w':=by
 by_cases c:b.good=true
 ·by_cases a:0<=n/\n<=1125899906842624
  ·have h1:¬ (b.good=false∨¬ (0<=n/\n<=1125899906842624)):=by rw[c];simp[a]
   by_cases hl:b.wa<n
   ·have e:mv b 5 6 n=(b,7):=by rw[mv,if_neg h1,if_pos (show b.get 5<n from hl)]
    rw[e];exact z1P b.f0 b.f1 b.f2 b.f3 b.bo b.wa b.bu _ n w c a.1 a.2 hl
   ·have e:mv b 5 6 n=((b.put 5 (b.wa - n)).put 6 (b.bu+n),0):=by rw[mv,if_neg h1,if_neg (show ¬ b.get 5<n from hl)];rfl
    rw[e];exact z8V b.f0 b.f1 b.f2 b.f3 b.bo b.wa b.bu n w c a.1 a.2 (by omega)
  ·have e:mv b 5 6 n=(b,2):=by rw[mv,if_pos (.inr a)]
   rw[e];exact z1e b.f0 b.f1 b.f2 b.f3 b.bo b.wa b.bu _ _ n w c a
 ·have e:mv b 5 6 n=(b,2):=by rw[mv,if_pos (.inl (by simpa using c))]
  rw[e];exact z0W b.f0 b.f1 b.f2 b.f3 b.bo b.wa b.bu _ _ n w (by simpa [Bk.good] using c)
theorem q5b(b:Bk)(d n:Int)(w:World):Calls prog 100 #[J4 #[J I b.f0,J I b.f1,J I b.f2,J I b.f3,J I b.bo,J I b.wa,J I b.bu],J I d,J I n] w fun e w'=>e=.returned (.tuple #[J4 #[J I (z3R b d n).1.f0,J I (z3R b d n).1.f1,J I (z3R b d n).1.f2,J I (z3R b d n).1.f3,J I (z3R b d n).1.bo,J I (z3R b d n).1.wa,J I (z3R b d n).1.bu],J I (z3R b d n).2])/\Bl w w':=by
 by_cases h:0<=d/\d<4
 ·rw[z3R,if_pos h];refine q4u b.f0 b.f1 b.f2 b.f3 b.bo b.wa b.bu d n (mv b 5 d.toNat n).1.f0 (mv b 5 d.toNat n).1.f1 (mv b 5 d.toNat n).1.f2 (mv b 5 d.toNat n).1.f3 (mv b 5 d.toNat n).1.bo (mv b 5 d.toNat n).1.wa (mv b 5 d.toNat n).1.bu (mv b 5 d.toNat n).2 w h.1 h.2 ?_;intro w
  rcases (show d=0∨d=1∨d=2∨d=3 by omega) with rfl | rfl | rfl | rfl
  ·exact q9y b n w
  ·exact q8P b n w
  ·exact q8M b n w
  ·exact q9L b n w
 ·rw[z3R,if_neg h];exact q7I b.f0 b.f1 b.f2 b.f3 b.bo b.wa b.bu d n w h
theorem q4f(b:Bk)(x y:Int)(w:World):Calls prog 142 #[J4 #[J I b.f0,J I b.f1,J I b.f2,J I b.f3,J I b.bo,J I b.wa,J I b.bu],J I x,J I y] w fun e w'=>e=.returned (.tuple #[J4 #[J I (z0Y b x y).1.f0,J I (z0Y b x y).1.f1,J I (z0Y b x y).1.f2,J I (z0Y b x y).1.f3,J I (z0Y b x y).1.bo,J I (z0Y b x y).1.wa,J I (z0Y b x y).1.bu],J I (z0Y b x y).2])/\Bl w w':=by
 refine q0X b.f0 b.f1 b.f2 b.f3 b.bo b.wa b.bu x y (mv b 4 6 x).1.f0 (mv b 4 6 x).1.f1 (mv b 4 6 x).1.f2 (mv b 4 6 x).1.f3 (mv b 4 6 x).1.bo (mv b 4 6 x).1.wa (mv b 4 6 x).1.bu (mv b 4 6 x).2 (mv (mv b 4 6 x).1 5 6 y).1.f0 (mv (mv b 4 6 x).1 5 6 y).1.f1 (mv (mv b 4 6 x).1 5 6 y).1.f2 (mv (mv b 4 6 x).1 5 6 y).1.f3 (mv (mv b 4 6 x).1 5 6 y).1.bo (mv (mv b 4 6 x).1 5 6 y).1.wa (mv (mv b 4 6 x).1 5 6 y).1.bu (mv (mv b 4 6 x).1 5 6 y).2 (z0Y b x y).1.f0 (z0Y b x y).1.f1 (z0Y b x y).1.f2 (z0Y b x y).1.f3 (z0Y b x y).1.bo (z0Y b x y).1.wa (z0Y b x y).1.bu (z0Y b x y).2 w ?_ (q9d b x) (q8D (mv b 4 6 x).1 y);unfold z0Y
 by_cases h1:(mv b 4 6 x).2=0
 ·by_cases h2:(mv (mv b 4 6 x).1 5 6 y).2=0
  ·rw[if_pos h1,if_pos h2];exact .inr (.inr ⟨h1,h2,rfl,rfl,rfl,rfl,rfl,rfl,rfl,rfl⟩)
  ·rw[if_pos h1,if_neg h2];exact .inr (.inl ⟨h1,h2,rfl,rfl,rfl,rfl,rfl,rfl,rfl,rfl⟩)
 ·rw[if_neg h1];exact .inl ⟨h1,rfl,rfl,rfl,rfl,rfl,rfl,rfl,rfl⟩
end
end Go.Proofs.YtjghbciepinofaaGreat
