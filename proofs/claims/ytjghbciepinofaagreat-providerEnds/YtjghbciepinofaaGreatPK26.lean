/- Parts of the proof. -/
import Derived.Test.YtjghbciepinofaaGreatPL
import Derived.Test.YtjghbciepinofaaGreatPK22
import Derived.Test.YtjghbciepinofaaGreatPK40
import Derived.SliceStrings
set_option maxRecDepth 100000
set_option maxHeartbeats 16000000
namespace Go.Proofs.YtjghbciepinofaaGreat
open Go.Proofs.Tryz
open Value renaming int->J,slice->J1,pointer->J2,bool->J3,agg->J4
open IntKind renaming i64->I
open Obj renaming cells->J5
namespace Pv
open Go.RowKit
structure Alt(g:Nat)(w w':World):Prop where
 os:w'.os=w.os
 tape:w'.tape=w.tape
 output:w'.output=w.output
 size:w.heap.size<=w'.heap.size
 block:∀ k,k<w.heap.size->k≠g->w'.heap[k]?=w.heap[k]?
theorem Alt.refl(g:Nat)(w:World):Alt g w w:=⟨rfl,rfl,rfl,Nat.le_refl _,fun _ _ _=>rfl⟩
theorem Alt.trans{g:Nat}{w w1 a:World}(h:Alt g w w1)(k:Alt g w1 a):Alt g w a:=⟨k.os.trans h.os,k.tape.trans h.tape,k.output.trans h.output,Nat.le_trans h.size k.size,fun i b c=>(k.block i (Nat.lt_of_lt_of_le b h.size) c).trans (h.block i b c)⟩
theorem Alt.of{g:Nat}{w w':World}(h:Bl w w'):Alt g w w':=⟨h.os,h.tape,h.output,h.size,fun k a _=>h.block k a⟩
theorem Alt.below{g B:Nat}{w w':World}(h:Alt g w w')(a:B<=g)(b:B<=w.heap.size):Below B w w':=⟨h.os,h.tape,h.output,h.size,fun k c=>h.block k (by omega) (by omega)⟩
theorem Alt.set{g:Nat}{w w':World}(h:Alt g w w')(o:Nat)(v:Value):Alt g w (w'.setCell ⟨g,o,none⟩ v):=
 ⟨h.os,h.tape,h.output,(by simp[World.setCell];exact h.size),fun k b a=>(Below.heap_setCell _ _ _ _ a).trans (h.block k b a)⟩
theorem Alt.sets{g:Nat}:∀ (a:List Value) {w w':World} (_:Alt g w w') (o:Nat),Alt g w (w'.setCells g o a)
 | [],_,_,h,_=>h
 | _ :: r,_,_,h,o=>Alt.sets r (h.set o _) (o+1)
theorem Alt.cat{g:Nat}{w w':World}(h:Alt g w w'){b:Nat}(a:b≠g){t:TypeId}{cs:Array Value}(c:CAt t w b cs):CAt t w' b cs:=(h.block b c.lt a).trans c
theorem Alt.rep{g:Nat}{w w':World}(h:Alt g w w'){P:Nat->Prop}(c:¬ P g){v:Value}{sz bts:Nat}{cs:List Value}(d:Rep P w v sz bts cs):Rep P w' v sz bts cs:=d.keep fun b f a=>h.block b a (fun e=>c (e ▸ f))
def New(P:Nat->Prop)(w:World)(k b:Nat):Prop:=(P b/\b<w.heap.size)∨w.heap.size+k<=b
theorem q0w{P:Nat->Prop}{w:World}{k j:Nat}(h:j<k):¬ New P w k (w.heap.size+j):=fun a=>by
 rcases a with⟨_,h1⟩ | h1 <;> omega
end Pv
namespace Cd
open Go.RowKit
def encS(k i v n:Int)(S:List (Int×Int))(D:List Int):ByteArray:=if z0o k i v n S D=0 then strOfNums (enc k i v n S D) else ⟨#[]⟩
theorem q0M(k i v n:Int)(S:List (Int×Int))(D:List Int)(sa da:Option Addr)(cs cd sb so db dO:Nat)(w:World)(L:q3M w S D sa da sb so db dO) :
  Calls prog 6 #[J4 #[J I k,J I i,J I v,J I n,J1 sa S.length cs,J1 da D.length cd]] w fun e w'=>e=.returned (.tuple #[.string (encS k i v n S D),J I (z0o k i v n S D)])/\Bl w w':=by
 by_cases h:z0o k i v n S D=0
 ·rw[encS,if_pos h,h];exact q2W k i v n S D sa da cs cd sb so db dO w L.hls L.hld L.hsa L.hda L.PS L.PD h
 ·rw[encS,if_neg h];exact q1d k i v n S D sa da cs cd sb so db dO w L.hls L.hld L.hsa L.hda L.PS L.PD h
end Cd
section
open Go.RowKit
theorem z4K{V:Nat->Vd}:∀ k,(∀ i,i<k->inA (V i).tok=true)->0<=z5c V k/\z5c V k<=1125899906842624 * (k:Int)
 | 0,_=>by simp[z5c]
 | k+1,h=>by
  have h1:=z4K k (fun i a=>h i (by omega))
  have h2:=z1n.1 (h k (by omega))
  simp only[z5c]at *;omega
theorem z3M{V:Nat->Vd}:∀ k,(∀ i,i<k->inA (V i).lost=true)->0<=z2l V k/\z2l V k<=1125899906842624 * (k:Int)
 | 0,_=>by simp[z2l]
 | k+1,h=>by
  have h1:=z3M k (fun i a=>h i (by omega))
  have h2:=z1n.1 (h k (by omega))
  simp only[z2l]at *;omega
theorem z7Z{W:List Wt}{k:Nat}{x:Wt}(h:W[k]?=some x):z1N (W.take (k+1))=z1N (W.take k)+x.amt:=by
 have a:=(List.getElem?_eq_some_iff.1 h).1;rw[List.take_succ_eq_append_getElem a];have e:W[k]=x:=by simpa [List.getElem?_eq_getElem a] using h
 rw[e];generalize W.take k=l
 induction l with
 | nil=>simp[z1N]
 | cons y r ih=>simp only[List.cons_append,z1N,ih];omega
theorem z4L:∀ {l:List Wt},(∀ x∈l,inA x.amt=true)->0<=z1N l/\z1N l<=1125899906842624 * (l.length:Int)
 | [],_=>by simp[z1N]
 | x :: r,h=>by
  have h1:=z4L (l:=r) (fun y a=>h y (List.mem_cons_of_mem _ a));have h2:=z1n.1 (h x List.mem_cons_self);simp only[z1N,List.length_cons];omega
theorem z6a(s:St)(ao:Option Addr)(sb so c b:Nat)(w:World)(h:SAt w b (stC s (J1 ao s.W.length c)))(H:z1R w ao sb so s.W)(hl:s.W.length<=60)
  (K:∀ i,i<6->inA (s.V i).tok=true/\inA (s.V i).lost=true) (L:∀ x∈s.W,inA x.amt=true) :
  Calls prog 78 #[J2 (some ⟨b,0,none⟩)] w fun e w'=>e=.returned (J3 (bal s))/\Bl w w':=by
 have M:Hid (SAt w b (stC s (J1 ao s.W.length c))):=h;have q:Hid (∀ i,i<6->inA (s.V i).tok=true/\inA (s.V i).lost=true):=K;have N:Hid (∀ x∈s.W,inA x.amt=true):=L;have t:Hid (z1R w ao sb so s.W):=H;have j:=z5J h;have m:b<w.heap.size:=h.lt;clear K L h H
 go_enter func78,ntmps78
 go_upto_region 2 with fail
 apply wp_region_lit
 iterate 9 go_step
 refine wpList_load_mid rfl 27 _ rfl b 7 rfl _ _ j underlying27 rfl (by rw[q0s];rfl) ?_
 clear j
 go_wp2_with fail
 go_loopw [3,4,14] (fun T U i wl=>∃ k:Nat,k<=6/\i=.int .i64 (k:Int)/\T=.int .i64 (z5c s.V k)/\U=.int .i64 (z2l s.V k)/\Hid (Bl w wl)) (fun _ _ i _=>(6 - intOf i).toNat)
 case atStart=>exact⟨0,by omega,rfl,rfl,rfl,Below.refl _ _⟩
 case round =>
  obtain⟨k,P,rfl,rfl,rfl,n⟩:=hrel;have o:w.heap.size<=wr.heap.size:=n.out.size
  by_cases f:k<6
  ·have X:=fun w=>ixV w s.V k f;have b1:=z4K (V:=s.V) k (fun i Y=>(q.out i (by omega)).1)
   have b2:=z3M (V:=s.V) k (fun i Y=>(q.out i (by omega)).2)
   have b3:=z1n.1 (q.out k f).1;have b4:=z1n.1 (q.out k f).2;have u:Hid (z5c s.V (k+1)=z5c s.V k+(s.V k).tok):=rfl;have Z:Hid (z2l s.V (k+1)=z2l s.V k+(s.V k).lost):=rfl
   go_wp2_with fail
   go_roundw
   case rel=>exact⟨k+1,by omega,by go_num,by rw[u.out],by rw[Z.out],n.out.alloc o _⟩
   case measure=>simp[intOf];omega
  ·obtain rfl:k=6:=by omega
   rename World=>w1
   have g:=M.out.later n.out m;obtain⟨v,z,A,B,Q,R,S,C,D⟩:=z0g g;have E:Hid (SAt w1 b (stC s (J1 ao s.W.length c))):=g;have F:Hid (z1R w1 ao sb so s.W):=t.out.over n.out;have d:=t.out.adr;clear v z A B Q R S D g M t
   go_wp2_with fail
   clear C
   go_loopw [5,31] (fun s5 i wl=>∃ k:Nat,k<=s.W.length/\i=.int .i64 (k:Int)/\s5=.int .i64 (z1N (s.W.take k))/\Hid (Bl w1 wl)) (fun _ i _=>s.W.length - (intOf i).toNat)
   case atStart=>exact⟨0,by omega,rfl,rfl,Below.refl _ _⟩
   case round =>
    obtain⟨k,P,rfl,rfl,a⟩:=hrel;have p:w1.heap.size<=wr.heap.size:=a.out.size
    by_cases G:k<s.W.length
    ·obtain⟨x,r,_⟩:=drop_at G;obtain⟨c0,c1,c2,c3,c4,c5,c6,c7⟩:=(F.out.over a.out).cell k x r;have u:Hid (z1N (s.W.take (k+1))=z1N (s.W.take k)+x.amt):=z7Z r;have b1:=z4L (l:=s.W.take k) (fun y hy=>N.out y (List.mem_of_mem_take hy));rw[List.length_take,Nat.min_eq_left P]at b1;have b2:=z1n.1 (N.out x (List.mem_of_getElem? r));obtain rfl:=d (by omega)
     clear d r
     go_wp2_with fail
     go_roundw
     case rel=>exact⟨k+1,by omega,by go_num,by rw[u.out],a.out.alloc p _⟩
     case measure=>simp[intOf];omega
    ·have g:=E.out.later a.out (by omega)
     obtain⟨v,z,A,B,Q,R,S,C,D⟩:=z0g g;have HF:Hid (bal s=(decide (z5c s.V 6=s.b.bo) && decide (z1N (s.W.take k)=s.b.wa) && decide (z2l s.V 6=s.b.bu))):=by rw[List.take_of_length_le (by omega)];exact rfl
     clear v z A B C D g;generalize z5c s.V 6=pt at *;generalize z2l s.V 6=pl at *;generalize z1N (s.W.take k)=pa at *
     go_wp2_with fail
     all_goals (go_ret;refine⟨?_,n.out.trans (a.out.mono o)⟩;rw[HF.out];congr 1;congr 1;first | (simp_all;done) | (simp_all;rfl))
theorem z9Z{s:St}:∀ {n k:Nat},k<n->z6t s k=false->pvs s n=false
  | 0,_,h,_=>by omega
  | n+1,k,h,hk=>by
    rw[pvs]
    rcases (show k<n∨k=n by omega) with a | rfl
    · rw[z9Z a hk,Bool.false_and]
    · rw[hk,Bool.and_false]
theorem z6h{s:St}:∀ {n k:Nat},pvs s n=true->k<n->z6t s k=true
  | 0,_,_,h=>by omega
  | n+1,k,h,hk=>by
    rw[pvs,Bool.and_eq_true]at h
    rcases (show k<n∨k=n by omega) with a | rfl
    · exact z6h h.1 a
    · exact h.2
theorem z1G{x:Vd}(h:vOk x=true):inA x.tok=true/\inA x.sh=true/\inA x.lost=true:=by
  unfold vOk at h;simp only[Bool.and_eq_true]at h;exact⟨h.1.1.1.1,h.1.1.1.2,h.1.1.2⟩
theorem z5U{next:Int}:∀ {l:List Wt} {last:Int},wOk next last l=true->∀ x∈l,inA x.amt=true
  | [],_,_,x,a=>by cases a
  | y :: r,last,h,x,a=>by
    rw[wOk,Bool.and_eq_true]at h
    rcases List.mem_cons.1 a with rfl | a
    · have:=h.1;unfold q1W at this;simp only[Bool.and_eq_true]at this;exact this.1.1.2
    · exact z5U h.2 x a
theorem z5M(s:St)(ao:Option Addr)(sb so c:Nat)(w:World)(B:z1R w ao sb so s.W) :
    Calls prog 33 #[J4 (stC s (J1 ao s.W.length c))] w fun e w'=>e=.returned (J3 (z0j s))/\Bl w w':=by
  have y:=SAt.new w (stC s (J1 ao s.W.length c));have j:Hid (Bl w (w.alloc (J5 (stC s (J1 ao s.W.length c)) 32))):=znw w _;have F:Hid (z1R w ao sb so s.W):=B;have G:=B.len;have l:=z0u s.b.f0 s.b.f1 s.b.f2 s.b.f3 s.b.bo s.b.wa s.b.bu;have m:=fun w h=>z6W s.W ao sb so c s.next w h
  have z:Hid (z0j s=(z0v s.b.f0 s.b.f1 s.b.f2 s.b.f3 s.b.bo s.b.wa s.b.bu && decide (1<=s.next) && decide (s.next<=1125899906842624) && decide (s.W.length<=60) && wOk s.next 0 s.W && pvs s 6 && bal s)):=rfl
  have n:Hid (wOk s.next 0 s.W=true->∀ x∈s.W,inA x.amt=true):=z5U
  generalize z0v s.b.f0 s.b.f1 s.b.f2 s.b.f3 s.b.bo s.b.wa s.b.bu=t1 at *;generalize wOk s.next 0 s.W=t2 at *
  clear B
  go_enter func33,ntmps33
  go_upto_region 1 with fail
  generalize w.alloc (J5 (stC s (J1 ao s.W.length c)) 32)=w0 at *;obtain⟨L,M,N,P,Q,R,T,U,X⟩:=z0g y
  go_wp2_with (first
    | (go_at_call 74;refine (l _).mono ?_;rintro e w1⟨rfl,h1⟩;have A:=y.later h1 y.lt;have a:Hid (Bl w w1):=zbt j.out h1;obtain⟨y0,y1,y2,Y,Z,y5,y6,y7,y8⟩:=z0g A;clear L M N P Q R T U X y0 y1 y2 Y Z y5 y6 h1 y j)
    | (go_at_call 75;refine (m _ (by exact F.out.over a.out)).mono ?_;rintro e C⟨rfl,h2⟩;have o:Hid (Bl w C):=zbt a.out h2;have D:=A.later h2 A.lt;clear h2 A y7 y8))
  all_goals first
    | (go_ret;first | (refine⟨?_,o.out⟩;rw[z.out];congr 1;congr 1;first | (simp_all;done) | (cases t2 <;> simp_all <;> omega) | (simp_all;omega) | (simp_all;intros;omega)) | (refine⟨?_,a.out⟩;rw[z.out];congr 1;congr 1;first | (simp_all;done) | (simp_all;omega) | (simp_all;intros;omega)))
    | skip
  have p:s.W.length<=60:=by omega
  have q:z0j s=(pvs s 6 && bal s):=by rw[z.out];simp_all
  have r:Hid (z0j s=(pvs s 6 && bal s)):=q;have HA:Hid (∀ x∈s.W,inA x.amt=true):=n.out (by simp_all)
  have t:w.heap.size<C.heap.size:=D.lt;clear z n l m a;clear q;obtain rfl:t2=true:=by simp_all
  simp only[Bool.not_true,Bool.or_false]
  go_loopw [30] (fun i wl=>∃ k:Nat,k<=6/\i=J I (k:Int)/\Hid (pvs s k=true/\Bl C wl)) (fun i _=>(6 - intOf i).toNat)
  case atStart=>exact⟨0,by omega,rfl,rfl,Below.refl _ _⟩
  case round =>
    obtain⟨k,hk,rfl,g⟩:=hrel;have d:Hid (Bl w wr):=o.out.trans (g.out.2.mono (Nat.le_of_lt t));have u:=D.later g.out.2 t;clear D
    by_cases f:k<6
    · obtain⟨c0,c1,c2,c3,H⟩:=u.val k f
      have a0:(k:Int)<6:=by omega
      have j1:=z4G w.heap.size (7+k * 5) (s.V k) wr c0 c1 c2 c3 H;have j2:=z6g s (J1 ao s.W.length c) w.heap.size k f wr u;have K:Hid (z6t s k=(vOk (s.V k) && q0d s.S k (s.V k).sh)):=rfl;generalize vOk (s.V k)=t3 at *;generalize q0d s.S k (s.V k).sh=t4 at *;clear c0 c1 c2 c3 H u
      go_wp2_with (first
        | (go_at_call 76;refine j1.mono ?_;rintro e w4⟨rfl,rfl⟩)
        | (go_at_call 77;refine j2.mono ?_;rintro e w4⟨rfl,rfl⟩))
      all_goals first
        | (go_ret;refine⟨?_,d.out⟩;rw[r.out,z9Z f (by rw[K.out];simp_all)];rfl)
        | (go_roundw
           case rel =>
             have hp:pvs s (k+1)=true:=by rw[pvs,g.out.1,K.out];simp_all
             exact⟨k+1,by omega,by go_num,hp,g.out.2⟩
           case measure=>simp[intOf];omega)
    · obtain rfl:k=6:=by omega
      have hj:=z6a s ao sb so c w.heap.size wr u (F.out.over d.out) p (fun i hi=>by have h:=z6h g.out.1 hi;rw[z6t,Bool.and_eq_true]at h;exact⟨(z1G h.1).1,(z1G h.1).2.2⟩) HA.out
      have v:z0j s=bal s:=by rw[r.out,g.out.1,Bool.true_and]
      have E:Hid (z0j s=bal s):=v;clear v;generalize bal s=t5 at *;clear u
      go_wp2_with (go_at_call 78;refine hj.mono ?_;rintro e w5⟨rfl,h5⟩)
      go_ret;refine⟨?_,zbt d.out h5⟩;rw[E.out];rfl
theorem z1T(s:St)(ao:Option Addr)(sb so c b:Nat)(v:Int)(w:World)(h:SAt w b (stC s (J1 ao s.W.length c)))(d:z1R w ao sb so s.W) :
  Calls prog 144 #[J2 (some ⟨b,0,none⟩),J I v] w fun e w'=>e=.returned (J I (z4W s v))/\Bl w w':=by
 have a:=h.range;have f:=z5M s ao sb so c w d;have g:=z5F v;unfold z4W;generalize z0j s=t1 at *;generalize isV v=t2 at *;clear h d
 go_enter func144,ntmps144
 go_upto_region 1 with fail
 apply wp_region_lit
 iterate 6 go_step
 refine wpList_load_mid rfl 32 _ rfl b 0 rfl _ _ a underlying32 rfl (by rw[z0l];rfl) ?_
 clear a
 go_wp2_with (first
  | (go_at_call 33;refine f.mono ?_;rintro e w1⟨rfl,i⟩)
  | (go_at_call 90;refine (g _).mono ?_;rintro e j⟨rfl,rfl⟩))
 all_goals (go_ret;refine⟨?_,i⟩;first | (simp_all;done) | (congr 1;congr 1;simp_all))
theorem z2S(s:St)(ao:Option Addr)(sb so c b:Nat)(d v:Int)(w:World)(h:SAt w b (stC s (J1 ao s.W.length c)))(a:z1R w ao sb so s.W) :
  Calls prog 103 #[J2 (some ⟨b,0,none⟩),J I d,J I v] w fun e w'=>e=.returned (J I (z1i s d v))/\Bl w w':=by
 have f:=z1T s ao sb so c b v w h a;have g:=z6u d;unfold z1i;generalize z4W s v=t1 at *;generalize isD d=t2 at *;clear h a
 go_enter func103,ntmps103
 go_wp2_with (first
  | (go_at_call 144;refine f.mono ?_;rintro e w1⟨rfl,i⟩)
  | (go_at_call 120;refine (g _).mono ?_;rintro e j⟨rfl,rfl⟩))
 all_goals (go_ret;refine⟨?_,i⟩;first | (simp_all;done) | (congr 1;congr 1;simp_all))
end
namespace Pv
open Go.ChangeShapes Go.WideShapes Go.ChangeAt Go.RowKit Go.Deep
section
variable {H:Type} {enc:TypeId×Value->H} {W:World}
theorem q2Z{β:Type}(g:β->List Value)(sz:Nat)(c:∀ b,(g b).length=sz):∀ (L:List β) (i:Nat) (x:β) (j:Nat),L[i]?=some x->j<sz->(L.flatMap g)[i * sz+j]?=(g x)[j]?
 | [],i,x,j,h,_=>by simp at h
 | a :: L,0,x,j,h,hj=>by
  simp at h
  subst h;rw[List.flatMap_cons,Nat.zero_mul,Nat.zero_add,List.getElem?_append_left (by rw[c];exact hj)]
 | a :: L,i+1,x,j,h,hj=>by
  rw[List.flatMap_cons,List.getElem?_append_right (by rw[c,Nat.succ_mul];omega),c,show (i+1) * sz+j - sz=i * sz+j by rw[Nat.succ_mul];omega]
  exact q2Z g sz c L i x j (by simpa using h) hj
theorem z5m{β:Type}(g:β->List Value)(sz:Nat)(c:∀ b,(g b).length=sz):∀ (L:List β),(L.flatMap g).length=L.length * sz
 | []=>by simp
 | a :: L=>by rw[List.flatMap_cons,List.length_append,c,z5m g sz c L,List.length_cons,Nat.succ_mul];omega
theorem z3O{P:Program}{e:TypeId}:∀ {l:List (DataW H)} {d:DataW H},d∈l->∀ x∈DataW.weights P e d,x∈DataW.weightsAll P e l
 | a :: l,d,hd,x,hx=>by
  rw[DataW.weightsAll,List.mem_append]
  rcases List.mem_cons.1 hd with rfl | hd
  ·exact .inl hx
  ·exact .inr (z3O hd x hx)
theorem z4c{β:Type}(X:β)(g:β->List Value)(Q:β->Prop){t e:TypeId}{sz bts:Nat}(C:prog.underlying t=some (.slice e))(Y:prog.cellsOf e=sz)(E:prog.bytesOf e=bts)(r:∀ b,(g b).length=sz)(z:0<sz){m:Nat}{l:List Value}{y:DataW H×List MemPlace}
  (h:DataW.trod enc prog W 0 (fun _=>true) true m t l=some y) (P:∀ x∈DataW.weights prog t y.1,x<=reachBytes)
  (Z:∀ {m':Nat} {R:List Value} {S:DataW H×List MemPlace},DataW.trod enc prog W 0 (fun _=>true) true m' e R=some S->(∀ x∈DataW.weights prog e S.1,x<=reachBytes)->∃ b,R=g b/\Q b) :
  ∃ (L:List β) (v:Value),l=[v]/\Rep (fun _=>True) W v sz bts (L.flatMap g)/\(∀ b∈L,Q b)/\L.length * bts<=140737488351232:=by
 rcases open_slice C h with⟨h0,_⟩ | ⟨a,len,cap,k,n,D,Pl,rfl,_,hlc,hmx,hk,hy,A⟩
 ·exact⟨[],J1 none 0 0,h0,Rep.nil _ _ _ _,fun b B=>by simp at B,by simp⟩
 simp only[if_true]at hk;subst hk;rw[Y]at A
 have F:∀ i,i<len->∀ x∈DataW.weights prog e (D i),x<=reachBytes:=fun i o x A=>P x (by
  subst hy;simp only[DataW.weights,C];refine List.mem_cons_of_mem _ (List.mem_append_left _ (z3O (d:=D i) ?_ x A))
  exact List.mem_map.2 ⟨i,List.mem_range.2 o,rfl⟩)
 obtain⟨f,T⟩:=z6V (n:=len) (p:=fun i (b:β)=>W.cells? 0 (a.add (i * sz)) sz=some (g b)/\Q b) X (fun i o=>by
  obtain⟨a0,h1,h2⟩:=A i (by omega)
  obtain⟨b,rfl,hq⟩:=Z h2 (F i o)
  exact⟨b,h1,hq⟩)
 have c:((List.range len).map f).length=len:=by simp
 have B:len * bts<=140737488351232:=by
  subst hy;have:=P ((len+(k - len)) * bts) (by simp[DataW.weights,C,E])
  have e:reachBytes=140737488351232:=rfl;have:=Nat.mul_le_mul_right bts (show len<=len+(k - len) by omega)
  omega
 refine⟨(List.range len).map f,J1 (some a) len k,rfl,⟨some a,len,k,rfl,by rw[z5m g sz r,c],B,⟨fun h=>(by cases h),hlc⟩,fun h0=>?_⟩,fun b G=>?_,by rw[c];exact B⟩
 ·have hcell:∀ i,i<len->∀ j v,(g (f i))[j]?=some v->W.cell? ((a.add (i * sz)).add j)=some v:=fun i o j v U=>by
   obtain⟨_,K,M⟩:=World.cells?_some (T i o).1;have N:j<sz:=by have:=(List.getElem?_eq_some_iff.1 U).1;rwa [r]at this
   rw[M j N];exact U
  obtain⟨b,off,s⟩:=a
  have q:s=none:=by
   have:=hcell 0 h0 0 _ (List.getElem?_eq_getElem (by rw[r];exact z))
   simpa [Addr.add] using World.cell?_spot this
  subst q
  have hall:∀ j u,(((List.range len).map f).flatMap g)[j]?=some u->W.cell? ⟨b,off+j,none⟩=some u:=fun j u hu=>by
   have N:j<len * sz:=by have:=(List.getElem?_eq_some_iff.1 hu).1;rwa [z5m g sz r,c]at this
   have o:j / sz<len:=(Nat.div_lt_iff_lt_mul z).2 N;have hm:j % sz<sz:=Nat.mod_lt _ z;have V:j / sz * sz+j % sz=j:=by rw[Nat.mul_comm];exact Nat.div_add_mod j sz
   have w:=q2Z g sz r ((List.range len).map f) (j / sz) (f (j / sz)) (j % sz) (by simp[o]) hm
   rw[V,hu]at w;have:=hcell (j / sz) o (j % sz) u w.symm;rw[Addr.add_lit,Addr.add_lit,Nat.add_assoc,V]at this;exact this
  have h1:0<(((List.range len).map f).flatMap g).length:=by rw[z5m g sz r,c];exact Nat.mul_pos h0 z
  exact⟨b,off,rfl,trivial,World.block_lt_of_cell? W _ (hall 0 _ (List.getElem?_eq_getElem h1)),hall⟩
 ·obtain⟨i,o,rfl⟩:=List.mem_map.1 G;exact (T i (List.mem_range.1 o)).2
theorem cPw:prog.cellsOf 74=2:=by kernel_rfl
theorem j0D:prog.cellsOf 33=1:=by kernel_rfl
theorem cIs:prog.cellsOf 34=1:=by kernel_rfl
theorem cStr:prog.cellsOf 9=1:=by kernel_rfl
theorem j0z:prog.cellsOf 35=1:=by kernel_rfl
theorem cLn:prog.cellsOf 37=4:=by kernel_rfl
theorem cPk:prog.cellsOf 49=6:=by kernel_rfl
theorem cHd:prog.cellsOf 39=4:=by kernel_rfl
theorem yI:prog.bytesOf 3=8:=by kernel_rfl
theorem yPw:prog.bytesOf 74=16:=by kernel_rfl
theorem j1B:prog.bytesOf 9=16:=by kernel_rfl
theorem q8e{m:Nat}{l:List Value}{y:DataW H×List MemPlace}(h:DataW.trod enc prog W 0 (fun _=>true) true m 74 l=some y):∃ b:Int×Int,l=[.int .i64 b.1,.int .i64 b.2]:=by
 obtain⟨i,n,_,_,hl,a,c⟩:=DataW.trod_struct underlying74 h;rw[cPw]at hl
 match l,hl with
 | [a0,a1],_ =>
  match i,a with
  | [y0,y1],_ =>
   have d:=c 0 _ rfl;have e:=c 1 _ rfl
   simp[cI]at d e
   obtain⟨q0,f⟩:=z0P d;obtain⟨q1,g⟩:=z0P e
   simp at f g
   subst f g;exact⟨(q0,q1),rfl⟩
theorem q8E{m:Nat}{l:List Value}{y:DataW H×List MemPlace}(h:DataW.trod enc prog W 0 (fun _=>true) true m 9 l=some y):∃ b:ByteArray,l=[.string b]:=by
 obtain⟨q,e,_⟩:=DataW.trod_string underlying9 h;exact⟨q,e⟩
theorem z9g{m:Nat}{l:List Value}{y:DataW H×List MemPlace}(h:DataW.trod enc prog W 0 (fun _=>true) true m 33 l=some y)(a:∀ x∈DataW.weights prog 33 y.1,x<=reachBytes):∃ (L:List (Int×Int)) (v:Value),l=[v]/\Rep (fun _=>True) W v 2 16 (pwC L):=by
 obtain⟨L,v,e,c,-,-⟩:=z4c (0,0) (fun b:Int×Int=>[.int .i64 b.1,.int .i64 b.2]) (fun _=>True) underlying33 cPw yPw (fun _=>rfl) (by decide) h a (fun h _=>by obtain⟨b,e⟩:=q8e h;exact⟨b,e,trivial⟩)
 exact⟨L,v,e,c⟩
theorem z7j{β:Type}(f:β->Value):∀ L:List β,L.flatMap (fun b=>[f b])=L.map f
 | []=>rfl
 | a :: L=>by rw[List.flatMap_cons,z7j f L];rfl
theorem z7o{m:Nat}{l:List Value}{y:DataW H×List MemPlace}(h:DataW.trod enc prog W 0 (fun _=>true) true m 34 l=some y)(c:∀ x∈DataW.weights prog 34 y.1,x<=reachBytes):∃ (L:List Int) (v:Value),l=[v]/\Rep (fun _=>True) W v 1 8 (inC L):=by
 obtain⟨L,v,e,a,-,-⟩:=z4c 0 (fun b:Int=>[.int .i64 b]) (fun _=>True) underlying34 cI yI (fun _=>rfl) (by decide) h c (fun h _=>by obtain⟨b,e⟩:=z0P h;exact⟨b,e,trivial⟩)
 rw[z7j]at a;exact⟨L,v,e,a⟩
theorem q6k{m:Nat}{l:List Value}{y:DataW H×List MemPlace}(h:DataW.trod enc prog W 0 (fun _=>true) true m 35 l=some y)(c:∀ x∈DataW.weights prog 35 y.1,x<=reachBytes):∃ (L:List ByteArray) (v:Value),l=[v]/\Rep (fun _=>True) W v 1 16 (txC L):=by
 obtain⟨L,v,e,a,-,-⟩:=z4c ByteArray.empty (fun b:ByteArray=>[.string b]) (fun _=>True) underlying35 cStr j1B (fun _=>rfl) (by decide) h c (fun h _=>by obtain⟨b,e⟩:=q8E h;exact⟨b,e,trivial⟩)
 rw[z7j]at a;exact⟨L,v,e,a⟩
theorem q7x{m:Nat}{l:List Value}{y:DataW H×List MemPlace}(h:DataW.trod enc prog W 0 (fun _=>true) true m 49 l=some y)(d:∀ x∈DataW.weights prog 49 y.1,x<=reachBytes):∃ (x:Pkt) (u:Value×Value),l=[.int .i64 x.k,.int .i64 x.i,.int .i64 x.v,.int .i64 x.n,u.1,u.2]/\Rep (fun _=>True) W u.1 2 16 (pwC x.S)/\Rep (fun _=>True) W u.2 1 8 (inC x.D):=by
 obtain⟨A,n,_,b,hl,c,a⟩:=DataW.trod_struct underlying49 h;rw[cPk]at hl
 match l,hl with
 | [a0,a1,a2,a3,a4,a5],_ =>
  match A,c with
  | [y0,y1,y2,y3,y4,y5],_ =>
   have e:=a 0 _ rfl;have f:=a 1 _ rfl;have g:=a 2 _ rfl;have j:=a 3 _ rfl;have o:=a 4 _ rfl;have p:=a 5 _ rfl
   simp[cI,j0D,cIs]at e f g j o p
   subst b;have B:∀ x∈DataW.weights prog 33 y4.1,x<=reachBytes:=fun x a=>d x (by simp[DataW.weights,underlying49,DataW.weightsEach,a])
   have w5:∀ x∈DataW.weights prog 34 y5.1,x<=reachBytes:=fun x a=>d x (by simp[DataW.weights,underlying49,DataW.weightsEach,a])
   obtain⟨q0,q⟩:=z0P e;obtain⟨q1,r⟩:=z0P f;obtain⟨q2,s⟩:=z0P g;obtain⟨q3,t⟩:=z0P j;obtain⟨S,F,w,C⟩:=z9g o B;obtain⟨D,G,z,E⟩:=z7o p w5
   simp at q r s t w z
   subst q r s t w z;exact⟨⟨q0,q1,q2,q3,S,D⟩,(a4,a5),rfl,C,E⟩
theorem q8n{m:Nat}{l:List Value}{y:DataW H×List MemPlace}(h:DataW.trod enc prog W 0 (fun _=>true) true m 37 l=some y)(d:∀ x∈DataW.weights prog 37 y.1,x<=reachBytes):∃ (x:Ln.Line) (u:Value×Value),l=[u.1,u.2,.int .i64 x.g,J3 x.cl]/\Rep (fun _=>True) W u.1 1 16 (txC x.S)/\Rep (fun _=>True) W u.2 1 8 (inC x.D):=by
 obtain⟨r,n,_,b,hl,c,a⟩:=DataW.trod_struct underlying37 h;rw[cLn]at hl
 match l,hl with
 | [a0,a1,a2,a3],_ =>
  match r,c with
  | [y0,y1,y2,y3],_ =>
   have e:=a 0 _ rfl;have f:=a 1 _ rfl;have i:=a 2 _ rfl;have j:=a 3 _ rfl
   simp[cI,cT,j0z,cIs]at e f i j
   subst b;have w0:∀ x∈DataW.weights prog 35 y0.1,x<=reachBytes:=fun x a=>d x (by simp[DataW.weights,underlying37,DataW.weightsEach,a])
   have w1:∀ x∈DataW.weights prog 34 y1.1,x<=reachBytes:=fun x a=>d x (by simp[DataW.weights,underlying37,DataW.weightsEach,a])
   obtain⟨S,t,k,s⟩:=q6k e w0;obtain⟨D,u1,o,r1⟩:=z7o f w1;obtain⟨q2,p⟩:=z0P i;obtain⟨q3,q⟩:=z6m j
   simp at k o p q
   subst k o p q;exact⟨⟨S,D,q2,q3⟩,(a0,a1),rfl,s,r1⟩
theorem q6X{m:Nat}{l:List Value}{y:DataW H×List MemPlace}(h:DataW.trod enc prog W 0 (fun _=>true) true m 39 l=some y):∃ a b c d:Int,l=[.int .i64 a,.int .i64 b,.int .i64 c,.int .i64 d]:=by
 obtain⟨s,n,_,_,hl,f,e⟩:=DataW.trod_struct underlying39 h;rw[cHd]at hl
 match l,hl with
 | [a0,a1,a2,a3],_ =>
  match s,f with
  | [y0,y1,y2,y3],_ =>
   have g:=e 0 _ rfl;have i:=e 1 _ rfl;have j:=e 2 _ rfl;have k:=e 3 _ rfl
   simp[cI]at g i j k
   obtain⟨q0,o⟩:=z0P g;obtain⟨q1,p⟩:=z0P i;obtain⟨q2,q⟩:=z0P j;obtain⟨q3,r⟩:=z0P k
   simp at o p q r
   subst o p q r;exact⟨q0,q1,q2,q3,rfl⟩
end
end Pv
end Go.Proofs.YtjghbciepinofaaGreat
