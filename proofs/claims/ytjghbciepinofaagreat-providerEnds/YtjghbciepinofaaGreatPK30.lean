/- Parts of the proof. -/
import Derived.Test.YtjghbciepinofaaGreatPL
import Derived.Test.YtjghbciepinofaaGreatPK23
set_option maxRecDepth 100000
set_option maxHeartbeats 16000000
namespace Go.Proofs.YtjghbciepinofaaGreat
open Go.Proofs.Tryz
open Value renaming int->J,slice->J1,pointer->J2,bool->J3,agg->J4
open IntKind renaming i64->I
open Obj renaming cells->J5
namespace Pv
open Go.RowKit
def z3E(l:List (Int×Pkt))(c:Int):Bool:=l.any fun b=>b.1 == c
def q8R(z:QS):Pr:={ z.p with q:=z.left }
def z1H(r:Pr)(a:Int×Pkt):Pr:=if z3E r.q a.1=true then { r with q:=r.q ++ [a] } else if (z0y r a.1.toNat a.2).2=true then (z0y r a.1.toNat a.2).1 else { (z0y r a.1.toNat a.2).1 with q:=r.q ++ [a] }
theorem q5v(p:Pr)(l:List (Int×Pkt))(c:Nat)(x:Pkt):z0y { p with q:=l } c x=({ (z0y p c x).1 with q:=l },(z0y p c x).2):=by
 unfold z0y
 repeat' split
 all_goals rfl
structure Waits(z:QS):Prop where
 eq:∀ c:Nat,c<2->z.wt c=z3E z.left (c:Int)
theorem z8N(l:List (Int×Pkt))(a:Int×Pkt)(c:Int):z3E (l ++ [a]) c=(z3E l c || (a.1 == c)):=by unfold z3E;simp
theorem q5A{z:QS}(h:Waits z){a:Int×Pkt}(h0:0<=a.1)(h1:a.1<2):z1H (q8R z) a=q8R (z1M z a)/\Waits (z1M z a):=by
 obtain⟨c,i⟩:∃ c:Nat,a.1=(c:Int):=⟨a.1.toNat,by omega⟩
 have e:=h.eq c (by omega)
 unfold z1H z1M;rw[i,Int.toNat_natCast]
 show (if z3E z.left (c:Int)=true then _ else _)=_/\_
 rw[<- e]
 by_cases f:z.wt c=true
 ·rw[if_pos f,if_pos f];refine⟨rfl,⟨fun d hd=>?_⟩⟩
  show z.wt d=z3E (z.left ++ [a]) (d:Int)
  rw[z8N,<- h.eq d hd,i]
  by_cases b:d=c
  ·subst b;rw[f];rfl
  ·rw[show ((c:Int) == (d:Int))=false by simp;omega,Bool.or_false]
 ·rw[if_neg f,if_neg f];have hd:=q5v z.p z.left c a.2
  show (if (z0y { z.p with q:=z.left } c a.2).2=true then (z0y { z.p with q:=z.left } c a.2).1 else { (z0y { z.p with q:=z.left } c a.2).1 with q:=z.left ++ [a] })=_/\_
  rw[hd]
  by_cases g:(z0y z.p c a.2).2=true
  ·rw[if_pos g,if_pos g];exact⟨rfl,⟨fun d hd=>h.eq d hd⟩⟩
  ·rw[if_neg g,if_neg g];have j:(z0y z.p c a.2).1=z.p:=z4N (by simpa using g)
   refine⟨by rw[j];rfl,⟨fun d hd=>?_⟩⟩
   show (if d=c then true else z.wt d)=z3E (z.left ++ [a]) (d:Int)
   rw[z8N,<- h.eq d hd,i]
   by_cases b:d=c
   ·subst b;rw[if_pos rfl];simp
   ·rw[if_neg b,show ((c:Int) == (d:Int))=false by simp;omega,Bool.or_false]
theorem z7V:∀ (l:List (Int×Pkt)) (z:QS),Waits z->(∀ a∈l,0<=a.1/\a.1<2)->l.foldl z1H (q8R z)=q8R (l.foldl z1M z)
 | [],_,_,_=>rfl
 | a :: l,z,hw,h=>by
  obtain⟨e,c⟩:=q5A hw (h a List.mem_cons_self).1 (h a List.mem_cons_self).2;rw[List.foldl_cons,List.foldl_cons,e];exact z7V l _ c fun b d=>h b (List.mem_cons_of_mem _ d)
theorem q2J(p:Pr)(h:∀ a∈p.q,0<=a.1/\a.1<2):p.q.foldl z1H { p with q:=[] }=z0H p:=by
 rw[show ({ p with q:=[] }:Pr)=q8R ⟨p,fun _=>false,[]⟩ from rfl,z7V p.q _ ⟨fun c _=>rfl⟩ h]
 rfl
theorem q4V{l m:List (Int×Int)}(hl:z2h (-1) l=true)(b:z2h (-1) m=true):(Df.z2x l m).length=0↔l=m:=by
 constructor
 ·intro h;have e:=q2g hl b;rw[List.length_eq_zero_iff.1 h]at e;obtain⟨a,c⟩:=q4b hl;rw[a,Df.q2U c]at e;rw[<- e];exact a
 ·rintro rfl;rw[Df.q3v];rfl
theorem q6u(l:List (Int×Int))(ao:Option Addr)(c b off:Nat)(w:World)(hl:Df.PIn w l ao b off) :
  Calls prog 47 #[J1 ao l.length c] w fun e w'=>e=.returned (J I (Df.z6c l))/\Bl w w':=by
 have o:=hl.len;have p:=J6 hl;clear hl
 go_enter func47,ntmps47
 go_upto_region 3 with fail
 go_loopw [3,8] (fun s i wl=>∃ k:Nat,k<=l.length/\i=J I (k:Int)/\s=J I (Df.z6c (l.take k))/\Hid (Bl w wl)) (fun _ i _=>l.length - (intOf i).toNat)
 case atStart=>exact⟨0,Nat.zero_le _,rfl,rfl,Below.refl _ _⟩
 case round =>
  obtain⟨k,u,rfl,rfl,f⟩:=hrel
  by_cases d:k<l.length
  ·have q:(k:Int)<(l.length:Int):=by omega
   obtain⟨c0,c1⟩:=(p.out.over f.out).cells k d;have g:=J6 (Df.z9z l k d);have h:=p.out.adr (by omega)
   subst h;generalize l.getD k (0,0)=x at *;obtain⟨v,n⟩:=x;dsimp only at c0 c1 g;generalize Df.z6c (l.take k)=s0 at *;obtain⟨j,a⟩:∃ j,Df.z6c (l.take (k+1))=j:=⟨_,rfl⟩;rw[a]at g;have m:=J6 a;have r:wrap64 (s0+n)=j:=by rw[g.out];unfold wrap64;rfl
   clear g a;go_wp2;exact⟨⟨k+1,by omega,by go_num,by rw[m.out,r],f.out.alloc f.out.size _⟩,by simp[intOf];omega⟩
  ·obtain rfl:k=l.length:=by omega
   have t:Hid (l.take l.length=l):=List.take_length;go_wp2;go_ret;exact⟨by rw[t.out];rfl,f.out⟩
theorem q4a(l:List (Int×Int))(v:Value)(P:Nat->Prop)(w:World)(h:Rep P w v 2 16 (pwC l)) :
  Calls prog 101 #[v] w fun e w'=>e=.returned (J4 #[J I (Df.z0i l 0),J I (Df.z0i l 1),J I (Df.z0i l 2),J I (Df.z0i l 3),J I (Df.z0i l 4),J I (Df.z0i l 5)])/\Bl w w':=by
 obtain⟨A,C,rfl,hs,-,T,-⟩:=h.open (z0r _) (by decide)
 have U:=J6 T;have V:l.length<=8796093022202:=by omega
 have q:=J6 (fun k (W:k<l.length)=>Df.z6z l k W);clear T h hs
 go_enter func101,ntmps101
 go_upto_region 2 with fail
 have X:Df.QAt ((w.alloc (J5 #[J I 0,J I 0,J I 0,J I 0,J I 0,J I 0] 28)).alloc (J5 #[J I 0,J I 0,J I 0,J I 0,J I 0,J I 0] 28)) w.heap.size Df.z2e:=(Df.QAt.new w Df.z2e).alloc _
 have Y:Df.QAt ((w.alloc (J5 #[J I 0,J I 0,J I 0,J I 0,J I 0,J I 0] 28)).alloc (J5 #[J I 0,J I 0,J I 0,J I 0,J I 0,J I 0] 28)) (w.heap.size+1) Df.z2e:=by
  have:=Df.QAt.new (w.alloc (J5 #[J I 0,J I 0,J I 0,J I 0,J I 0,J I 0] 28)) Df.z2e
  rwa [show (w.alloc (J5 #[J I 0,J I 0,J I 0,J I 0,J I 0,J I 0] 28)).heap.size=w.heap.size+1 by simp]at this
 have Z:Bl w ((w.alloc (J5 #[J I 0,J I 0,J I 0,J I 0,J I 0,J I 0] 28)).alloc (J5 #[J I 0,J I 0,J I 0,J I 0,J I 0,J I 0] 28)):=(znw w _).alloc (by simp) _
 generalize (w.alloc (J5 #[J I 0,J I 0,J I 0,J I 0,J I 0,J I 0] 28)).alloc (J5 #[J I 0,J I 0,J I 0,J I 0,J I 0,J I 0] 28)=w0 at *;have D:=J6 (show _/\_/\_ from⟨X,Y,Z⟩);clear X Y Z
 go_upto_region 3 with fail
 go_loopw [4] (fun i wl=>∃ (k:Nat),k<=l.length/\i=J I ((k:Int) - 1)/\Hid (Df.QAt wl w.heap.size Df.z2e)/\Hid (Df.QAt wl (w.heap.size+1) (Df.z0i (l.drop k)))/\Hid (Bl w wl)) (fun i _=>(intOf i+1).toNat)
 case atStart=>exact⟨l.length,Nat.le_refl _,rfl,D.out.1,by rw[List.drop_length];exact D.out.2.1,D.out.2.2⟩
 case round =>
  obtain⟨k,W,rfl,c,d,f⟩:=hrel;cases k with
  | zero =>
   obtain⟨⟨c0,c1,c2,c3,c4,c5⟩,-⟩:=d.out.facts;obtain⟨⟨d0,d1,d2,d3,d4,d5⟩,j⟩:=c.out.facts;have E:=j 0;have F:=j 1;have G:=j 2;have H:=j 3;have K:=j 4;have L:=j 5;have a0:=c.out.lt;rw[List.drop_zero]at c0 c1 c2 c3 c4 c5;have HS:=J6 (show _/\_ from⟨Df.q3Q c.out (Df.z0i l),Df.z3v (J I (Df.z0i l 0)) (J I (Df.z0i l 1)) (J I (Df.z0i l 2)) (J I (Df.z0i l 3)) (J I (Df.z0i l 4)) (J I (Df.z0i l 5)) f.out (Nat.le_refl _)⟩);clear j c d f D U q;go_wp2;obtain⟨M,N⟩:=HS.out
   show bodyPost prog f101 _ Exit.ret _ (Df.z7C wr w.heap.size (J I (Df.z0i l 0)) (J I (Df.z0i l 1)) (J I (Df.z0i l 2)) (J I (Df.z0i l 3)) (J I (Df.z0i l 4)) (J I (Df.z0i l 5)))
   clear d0 d1 d2 d3 d4 d5 c0 c1 c2 c3 c4 c5 E F G H K L;generalize Df.z7C wr w.heap.size (J I (Df.z0i l 0)) (J I (Df.z0i l 1)) (J I (Df.z0i l 2)) (J I (Df.z0i l 3)) (J I (Df.z0i l 4)) (J I (Df.z0i l 5))=w9 at *;obtain⟨⟨E,F,G,H,K,L⟩,-⟩:=M.facts;exact bodyPost_ret (v:=J4 #[J I (Df.z0i l 0),J I (Df.z0i l 1),J I (Df.z0i l 2),J I (Df.z0i l 3),J I (Df.z0i l 4),J I (Df.z0i l 5)]) (by simp[results,results101,go_sem,E,F,G,H,K,L]) rfl ⟨rfl,N⟩
  | succ k =>
   have r:k<l.length:=by omega
   have a1:(k:Int)<(l.length:Int):=by omega
   have a2:(0:Int)<=(k:Int):=by omega
   have he:((k+1:Nat):Int) - 1=(k:Int):=by omega
   rw[he];obtain⟨b,off,rfl,-,s,hcell⟩:=U.out (by omega)
   obtain⟨x,Q⟩:∃ x,l.getD k (0,0)=x:=⟨_,rfl⟩;obtain⟨p0,p1⟩:=z2t l k r;rw[Q]at p0 p1;have c0:wr.cell? ⟨b,off+k * 2,none⟩=some (J I x.1):=(f.out.cell (p:=⟨b,off+k * 2,none⟩) s).trans (hcell _ _ p0);have c1:wr.cell? ⟨b,off+k * 2+1,none⟩=some (J I x.2):=(f.out.cell (p:=⟨b,off+k * 2+1,none⟩) s).trans (hcell _ _ p1);have n:=q.out k r;rw[Q]at n;have t:=J6 n;have a3:IntKind.i64.wrap ((k:Int) - 1)=(k:Int) - 1:=by simp[IntKind.wrap,IntKind.bits,IntKind.signed];omega
   clear hcell p0 p1 Q n;obtain⟨g,u⟩:=x;dsimp only at c0 c1
   by_cases hv:0<=g/\g<6
   ·obtain⟨m,rfl⟩:∃ m:Nat,g=(m:Int):=⟨g.toNat,by omega⟩
    have y:m<6:=by omega
    have a4:(m:Int)<6:=by omega
    have a5:(0:Int)<=(m:Int):=by omega
    have q1:=d.out.one y;have f1:=d.out.facts.2 m;have a6:=d.out.lt;have a7:b≠w.heap.size+1:=by omega
    have R:=d.out.put y u;rw[<- t.out]at R;have Q3:Df.QAt (wr.setCell ⟨w.heap.size+1,m,none⟩ (J I u)) w.heap.size Df.z2e:=(Below.heap_setCell _ _ _ _ (show w.heap.size≠w.heap.size+1 by omega)).trans c.out
    have B3:=f.out.setCell (p:=⟨w.heap.size+1,m,none⟩) (by show w.heap.size<=w.heap.size+1;omega) (J I u)
    have o:=J6 (show _/\_/\_ from⟨R,Q3,B3⟩);clear R Q3 B3 c d f
    go_upto_region 6 with fail
    apply z2d (fun w5=>w5=(wr.setCell ⟨w.heap.size+1,m,none⟩ (J I u)).drew)
    ·refine wp_region_noPanic ?_
     go_region_with (fail)
     all_goals exact NoPanic.normal ⟨rfl,rfl,rfl⟩
    intro w5 z
    have a:Hid (Df.QAt w5 (w.heap.size+1) (Df.z0i (l.drop k))/\Df.QAt w5 w.heap.size Df.z2e/\Bl w w5):=by
     rw[z];exact⟨o.out.1,o.out.2.1,o.out.2.2.drew⟩
    clear z o c0 c1 q1 f1;go_wp2
    first | exact⟨⟨k,by omega,rfl,a.out.2.1,a.out.1,a.out.2.2⟩,by simp[intOf]⟩ | ((repeat apply Exists.intro);exact⟨⟨k,by omega,rfl,a.out.2.1,a.out.1,a.out.2.2⟩,rfl⟩)
   ·have B:Df.z7v (Df.z0i (l.drop (k+1))) (g,u)=Df.z0i (l.drop (k+1)):=by unfold Df.z7v;rw[if_neg hv]
    have o:Hid (Df.QAt wr (w.heap.size+1) (Df.z0i (l.drop k))):=by rw[t.out,B];exact d.out
    have S:¬ 0<=g∨(0<=g/\¬ g<6):=by omega
    clear hv B
    rcases S with h1 | ⟨h1,h2⟩
    all_goals
     go_wp2
     first | exact⟨⟨k,by omega,rfl,c,o,f⟩,by simp[intOf]⟩ | ((repeat apply Exists.intro);exact⟨⟨k,by omega,rfl,c,o,f⟩,rfl⟩)
theorem q2R(a b:List (Int×Int))(A B:Value)(L M:Nat->Prop)(w:World)(C:Rep L w A 2 16 (pwC a))(p:Rep M w B 2 16 (pwC b)) :
  Calls prog 51 #[A,B] w fun e w'=>∃ v,e=.returned v/\Rep (fun b=>w.heap.size<=b) w' v 2 16 (pwC (Df.z2x a b))/\Bl w w':=by
 obtain⟨V,W,D,E,F⟩:=info_parts z9H;have q:=J6 (q4a a A L w C);have r:=J6 (fun w' (h:Bl w w')=>q4a b B M w' (p.over h));have G:=J6 (Df.z1W (fun v=>decide (Df.z0i b v≠Df.z0i a v)) (Df.z0i b) 6);unfold Df.z2x;generalize Df.z0i a=P at *;generalize Df.z0i b=R at *;obtain⟨A0,n0,C0,rfl,-⟩:=id C;obtain⟨A1,n1,C1,rfl,-⟩:=id p;clear C p
 go_enter func51,ntmps51
 go_upto_region 3 with (first
  | (go_at_call 101;have _m:=X;refine (r.out _ f.out).mono ?_;rintro e g⟨rfl,s⟩;have c:=J6 (zbt f.out s);clear s)
  | (go_at_call 101;refine q.out.mono ?_;rintro e w1⟨rfl,t⟩;have f:=J6 t;have X:True:=trivial;clear t))
 have H:=(Df.QAt.new g P).alloc (J5 #[J I (R 0),J I (R 1),J I (R 2),J I (R 3),J I (R 4),J I (R 5)] 28);have z:=Df.QAt.new (g.alloc (J5 #[J I (P 0),J I (P 1),J I (P 2),J I (P 3),J I (P 4),J I (P 5)] 28)) R;rw[show (g.alloc (J5 #[J I (P 0),J I (P 1),J I (P 2),J I (P 3),J I (P 4),J I (P 5)] 28)).heap.size=g.heap.size+1 by simp]at z
 have N:=(c.out.alloc c.out.size (J5 #[J I (P 0),J I (P 1),J I (P 2),J I (P 3),J I (P 4),J I (P 5)] 28)).alloc (Nat.le_trans c.out.size (by simp)) (J5 #[J I (R 0),J I (R 1),J I (R 2),J I (R 3),J I (R 4),J I (R 5)] 28)
 have Y:w.heap.size<=g.heap.size:=c.out.size;clear q r f c;generalize g.heap.size=b6 at *;generalize (g.alloc (J5 #[J I (P 0),J I (P 1),J I (P 2),J I (P 3),J I (P 4),J I (P 5)] 28)).alloc (J5 #[J I (R 0),J I (R 1),J I (R 2),J I (R 3),J I (R 4),J I (R 5)] 28)=w3 at *;have Z:b6<w3.heap.size:=H.lt;have Q:b6+1<w3.heap.size:=z.lt;have x:=J6 (show _/\_/\_ from⟨H,z,N⟩);clear H z N
 go_upto_region 4 with fail
 go_loopw [7,13] (fun v i wl=>∃ k:Nat,k<=6/\i=J I (k:Int)/\Hid (z3w wl w3.heap.size v (Df.those (fun v=>decide (R v≠P v)) R k))/\Hid (Bl w3 wl)) (fun _ i _=>(6 - intOf i).toNat)
 case atStart=>exact⟨0,by omega,rfl,z3w.nil _ _,Below.refl _ _⟩
 case round =>
  obtain⟨k,hk,rfl,d,j⟩:=hrel;have a0:w3.heap.size<=wr.heap.size:=j.out.size
  by_cases l:k<6
  ·have a1:(k:Int)<6:=by omega
   have a2:(0:Int)<=(k:Int):=by omega
   have cP:=(x.out.1.later j.out Z).one l;have cR:=(x.out.2.1.later j.out Q).one l;have K:=J6 (fun (wx:World) (h:Bl w3 wx)=>(x.out.2.1.later h Q).one l);have S:=J6 (Df.z1j (fun v=>decide (R v≠P v)) R k);have T:=Df.z1W (fun v=>decide (R v≠P v)) R k;generalize R k=rk at *;generalize P k=pk at *
   by_cases m:rk=pk
   ·subst m;have a3:(rk != rk)=false:=by simp
    go_upto_region 6 with fail
    go_quiet (fail);simp only[Exit.then];apply_assumption;go_wp2;go_roundw
    case rel=>exact⟨k+1,by omega,by go_num,by rw[S.out,if_neg (by simp)];exact d.out,below_drewN j.out _⟩
    case measure=>simp[intOf];omega
   ·have U:(pk != rk)=true:=by simpa using fun h:pk=rk=>m h.symm
    go_upto_region 6 with fail
    go_quiet (fail);have c:=J6 (below_drewN j.out nq);have hown:z3w (wr.drewN nq) w3.heap.size u7 _:=d.out;have a4:=K.out _ c.out;clear cP cR j d;generalize wr.drewN nq=ws at *;have y:w3.heap.size<=ws.heap.size:=c.out.size;simp only[Exit.then];apply_assumption
    go_wp2_with (at_builtin;refine wpList_append_own_at _ rfl _ _ 33 rfl w3.heap.size 74 V (J4 #[J I 0,J I 0]) 2 16 underlying33 W D E F rfl (by decide) _ _ _ rfl (World.ownsRow.alloc hown _) ⟨ws.heap.size,0,none⟩ 1 1 [J I (k:Int),J I rk] rfl rfl (z7h _ _ _ _) (by intro u hu;simp at hu;rcases hu with rfl | rfl <;> rfl) (by unfold maxLen;omega) (by omega) (by simp;omega) ?_;intro v' w1 n o _ a5)
    have p:Bl w3 w1:=z3w.grow hown c.out o (Nat.le_refl _) y;go_roundw
    case rel=>exact⟨k+1,by omega,by go_num,by rw[S.out,if_pos (by simpa using m)];exact z3w.append n rfl,p⟩
    case measure=>simp[intOf];omega
  ·obtain rfl:k=6:=by omega
   go_wp2;go_ret;have h6:=G.out;exact⟨_,rfl,(Rep.j0C d.out (by omega)).mono fun b _ h=>by have:=x.out.2.2.size;omega,zbt x.out.2.2 j.out⟩
end Pv
namespace Cd
open Go.RowKit
theorem z3r(v c:Int)(n:Nat)(w:World)(a:c=(n:Int))(d:0<=v)(b:v<=9223372036854775807)(f:n<=7) :
  Calls prog 102 #[J I v,J I c] w fun e w'=>e=.returned (.string (strOfNums (be v n)))/\Bl w w':=by
 subst a;exact z8I v n w d b f
theorem z6f(B:Nat)(w1 w:World):Below B w1 w.drew↔Below B w1 w:=⟨fun h=>⟨h.os,h.tape,h.output,h.size,h.block⟩,fun h=>h.drew⟩
attribute [local simp] z6f
theorem z1Y(b B:Nat)(w1:World)(k i v n:Int)(s:Value)(l:b<B)(j:B<=w1.heap.size)(x d:Int)(m:Nat)(f:d=(m:Int))(o:0<=x)(g:x<=9223372036854775807)(q:m<=7)(w:World)
  (r:w.cell? ⟨b,0,none⟩=some (J I k)/\w.cell? ⟨b,1,none⟩=some (J I i)/\w.cell? ⟨b,2,none⟩=some (J I v)/\w.cell? ⟨b,3,none⟩=some (J I n)/\w.cell? ⟨b,4,none⟩=some s/\Below B w1 w) :
  Calls prog 102 #[J I x,J I d] w fun e w'=>e=.returned (.string (strOfNums (be x m))) /\
   (w'.cell? ⟨b,0,none⟩=some (J I k)/\w'.cell? ⟨b,1,none⟩=some (J I i)/\w'.cell? ⟨b,2,none⟩=some (J I v)/\w'.cell? ⟨b,3,none⟩=some (J I n)/\w'.cell? ⟨b,4,none⟩=some s/\Below B w1 w'):=by
 refine (z3r x d m w f o g q).mono ?_;rintro e w'⟨rfl,c⟩;obtain⟨h0,h1,h2,h3,t,h⟩:=r;have a:b<w.heap.size:=Nat.lt_of_lt_of_le l (Nat.le_trans j h.size)
 exact⟨rfl,(c.cell (p:=⟨b,0,none⟩) a).trans h0,(c.cell (p:=⟨b,1,none⟩) a).trans h1,(c.cell (p:=⟨b,2,none⟩) a).trans h2,(c.cell (p:=⟨b,3,none⟩) a).trans h3,(c.cell (p:=⟨b,4,none⟩) a).trans t,
  h.trans (c.mono (Nat.le_trans j h.size))⟩
theorem z4r(b B:Nat)(w1:World)(y z:Int)(i:B<=w1.heap.size)(x c:Int)(m:Nat)(d:c=(m:Int))(j:0<=x)(f:x<=9223372036854775807)(k:m<=7)(w:World)
  (l:w.cell? ⟨b,0,none⟩=some (J I y)/\w.cell? ⟨b,1,none⟩=some (J I z)/\Below B w1 w) :
  Calls prog 102 #[J I x,J I c] w fun e w'=>e=.returned (.string (strOfNums (be x m))) /\
   (w'.cell? ⟨b,0,none⟩=some (J I y)/\w'.cell? ⟨b,1,none⟩=some (J I z)/\Below B w1 w'):=by
 refine (z3r x c m w d j f k).mono ?_;rintro e w'⟨rfl,g⟩;obtain⟨h0,h1,h⟩:=l;have a:b<w.heap.size:=World.block_lt_of_cell? w _ h0;exact⟨rfl,(g.cell (p:=⟨b,0,none⟩) a).trans h0,(g.cell (p:=⟨b,1,none⟩) a).trans h1,h.trans (g.mono (Nat.le_trans i h.size))⟩
theorem q0r{α:Type}{l:List α}{m:Nat}(d:α)(h:m<l.length):l.getD m d∈l:=by
 simp[List.getD,h]
theorem j0H(k i v n:Int)(S:List (Int×Int))(D:List Int)(sa da:Option Addr)(cs cd sb so db dO:Nat)(w:World)(L:q3M w S D sa da sb so db dO)(Z:z0o k i v n S D=0) :
  Calls prog 52 #[J4 #[J I k,J I i,J I v,J I n,J1 sa S.length cs,J1 da D.length cd]] w fun e w'=>e=.returned (.tuple #[.string (strOfNums (enc k i v n S D)),J I 0])/\Bl w w':=by
 obtain⟨x,A,a8,a9⟩:=z6x Z;have g:=q0N S (-1) (by omega) x
 have B:=z8Z D (-1) (by omega) A
 have a0:Hid _:=g;have a1:Hid _:=B;obtain⟨b1,b2,b3,b4,b5,b6,b7,b8⟩:=z9a Z;have b:=q2w k i v n S D sa da cs cd sb so db dO _ (L.later (z0m w (J5 #[J I k,J I i,J I v,J I n,J1 sa S.length cs,J1 da D.length cd] 49)));rw[Z]at b;have C:Hid ((0<S.length->sb<w.heap.size+1)/\(0<D.length->db<w.heap.size+1)):=⟨fun h=>Nat.lt_succ_of_lt (L.PS.lt h),fun h=>Nat.lt_succ_of_lt (L.PD.lt h)⟩;clear Z x A g B
 go_enter func52,ntmps52
 go_wp2_with fail
 refine b.mono ?_;rintro e w1⟨rfl,l⟩;clear b;have r:q4I w1 w.heap.size k i v n (J1 sa S.length cs) (J1 da D.length cd):=(z5n _ _ _ _ _ _ _).later l (by simp)
 have E:Hid (Bl w w1):=z1A l;have L1:=L.later E.out;have a:w.heap.size+1<=w1.heap.size:=(by have:=l.size;simpa using this)
 clear l L;obtain⟨c0,c1,c2,c3,c4,c5⟩:=id r;have F:¬ 9223372036854775807<(strOfNums (be k 1)).size+(strOfNums (be i 6)).size:=by simp only[strOfNums_size,z0A];omega
 have g2:¬ 9223372036854775807<(strOfNums (be k 1)).size+(strOfNums (be i 6)).size+(strOfNums (be v 1)).size:=by simp only[strOfNums_size,z0A];omega
 have g3:¬ 9223372036854775807<(strOfNums (be k 1)).size+(strOfNums (be i 6)).size+(strOfNums (be v 1)).size+(strOfNums (be n 7)).size:=by simp only[strOfNums_size,z0A];omega
 have g4:¬ 9223372036854775807<(strOfNums (be k 1)).size+(strOfNums (be i 6)).size+(strOfNums (be v 1)).size+(strOfNums (be n 7)).size+(strOfNums (be (S.length:Int) 1)).size:=by simp only[strOfNums_size,z0A];omega
 go_wp2_with fail
 have o:Below (w.heap.size+1) w1 w1:=Below.refl _ _
 go_region_held3 (fun w'=>w'.cell? ⟨w.heap.size,0,none⟩=some (J I k)/\w'.cell? ⟨w.heap.size,1,none⟩=some (J I i)/\w'.cell? ⟨w.heap.size,2,none⟩=some (J I v)/\w'.cell? ⟨w.heap.size,3,none⟩=some (J I n)/\w'.cell? ⟨w.heap.size,4,none⟩=some (J1 sa S.length cs)/\Below (w.heap.size+1) w1 w') (go_keep)
  (first
   | (go_at_call_of 102 (Value.int .i64 k);refine (z1Y w.heap.size (w.heap.size+1) w1 k i v n (J1 sa S.length cs) (Nat.lt_succ_self _) a k _ 1 rfl (by omega) (by omega) (by omega) _ ?_).mono ?_;(simp[*]);rintro e wA⟨rfl,hA⟩)
   | (go_at_call_of 102 (Value.int .i64 i);refine (z1Y w.heap.size (w.heap.size+1) w1 k i v n (J1 sa S.length cs) (Nat.lt_succ_self _) a i _ 6 rfl (by omega) (by omega) (by omega) _ ?_).mono ?_;(simp[*]);rintro e wB⟨rfl,hB⟩)
   | (go_at_call_of 102 (Value.int .i64 v);refine (z1Y w.heap.size (w.heap.size+1) w1 k i v n (J1 sa S.length cs) (Nat.lt_succ_self _) a v _ 1 rfl (by omega) (by omega) (by omega) _ ?_).mono ?_;(simp[*]);rintro e wC⟨rfl,hC⟩)
   | (go_at_call_of 102 (Value.int .i64 n);refine (z1Y w.heap.size (w.heap.size+1) w1 k i v n (J1 sa S.length cs) (Nat.lt_succ_self _) a n _ 7 rfl (by omega) (by omega) (by omega) _ ?_).mono ?_;(simp[*]);rintro e wD⟨rfl,hD⟩)
   | (go_at_call_of 102 (Value.int .i64 (S.length:Int));refine (z1Y w.heap.size (w.heap.size+1) w1 k i v n (J1 sa S.length cs) (Nat.lt_succ_self _) a (S.length:Int) _ 1 rfl (by omega) (by omega) (by omega) _ ?_).mono ?_;(simp[*]);rintro e wE⟨rfl,hE⟩))
 clear F g2 g3 g4 o hA hB hC hD;obtain⟨G,H,K,M,N,o⟩:=id hE;have P:Hid (Below (w.heap.size+1) w1 wE):=o;clear c0 c1 c2 c3 c4 c5 o hE
 go_wp2_with fail
 clear G H K M N
 go_loopw [5,38] (fun s j wl=>∃ m:Nat,m<=S.length/\j=J I m/\s=.string (strOfNums (z5h k i v n S.length ++ (S.take m).flatMap z4w))/\Hid (Below (w.heap.size+1) w1 wl)) (fun _ j _=>S.length - (intOf j).toNat)
 case atStart=>exact⟨0,Nat.zero_le _,rfl,by simp[z2o,z5h],P⟩
 case round =>
  obtain⟨m,hm,rfl,rfl,Q⟩:=hrel;clear P;have p:w.heap.size+1<=wr.heap.size:=Nat.le_trans a Q.out.size;have R:(z5h k i v n S.length ++ (S.take m).flatMap z4w).length<=64:=by rw[List.length_append,z1S,z2z];have:=take_len S m;omega
  by_cases c:m<S.length
  ·have hcell:=L1.PS.z3G Q.out C.out.1 m c;have d:=z4n z4w S (0,0) m c;have f:=a0.out _ (q0r (0,0) c);obtain⟨y,T⟩:∃ y,S.getD m (0,0)=y:=⟨_,rfl⟩;rw[T]at hcell d f;obtain⟨y,z⟩:=y;obtain⟨U,V⟩:=hcell;dsimp only at U V;obtain⟨q1,q2,q3,q4⟩:=f;dsimp only at q1 q2 q3 q4;have e:=L1.hsa (by omega)
   subst e;have HX:Hid (z5h k i v n S.length ++ (S.take (m+1)).flatMap z4w=z5h k i v n S.length ++ (S.take m).flatMap z4w ++ (be y 1 ++ be z 7)):=by show _=_;rw[d,<- List.append_assoc];rfl
   clear d T;generalize z5h k i v n S.length ++ (S.take m).flatMap z4w=X at *;have F:¬ 9223372036854775807<(strOfNums (be y 1)).size+(strOfNums (be z 7)).size:=by simp only[strOfNums_size,z0A];omega
   have g2:¬ 9223372036854775807<(strOfNums X).size+((strOfNums (be y 1)).size+(strOfNums (be z 7)).size):=by simp only[strOfNums_size,z0A];omega
   go_wp2_with fail
   have a2:(wr.alloc (Obj.cells #[Value.int IntKind.i64 y,Value.int IntKind.i64 z] 74)).cell? ⟨wr.heap.size,0,none⟩=some (J I y):=by simp[World.cell?_alloc_at]
   have a3:(wr.alloc (Obj.cells #[Value.int IntKind.i64 y,Value.int IntKind.i64 z] 74)).cell? ⟨wr.heap.size,1,none⟩=some (J I z):=by simp[World.cell?_alloc_at]
   have g:Below (w.heap.size+1) w1 (wr.alloc (Obj.cells #[Value.int IntKind.i64 y,Value.int IntKind.i64 z] 74)):=Q.out.alloc p _;clear U V
   go_region_held3 (fun w'=>w'.cell? ⟨wr.heap.size,0,none⟩=some (J I y)/\w'.cell? ⟨wr.heap.size,1,none⟩=some (J I z)/\Below (w.heap.size+1) w1 w') (go_keep)
    (first
     | (go_at_call_of 102 (Value.int .i64 y);refine (z4r wr.heap.size (w.heap.size+1) w1 y z a y _ 1 rfl (by omega) (by omega) (by omega) _ ?_).mono ?_;(simp[*]);rintro e wF⟨rfl,hF⟩)
     | (go_at_call_of 102 (Value.int .i64 z);refine (z4r wr.heap.size (w.heap.size+1) w1 y z a z _ 7 rfl (by omega) (by omega) (by omega) _ ?_).mono ?_;(simp[*]);rintro e wG⟨rfl,hG⟩))
   have a4:Hid (Below (w.heap.size+1) w1 wG):=hG.2.2;clear hF hG a2 a3 g F g2;go_wp2;go_roundw
   case rel=>exact⟨m+1,by omega,by go_num,by rw[z2o,z2o,HX.out],a4⟩
   case measure=>simp[intOf];omega
  ·have a5:m=S.length:=by omega
   subst a5;rw[List.take_length]at *;have t:=r.later Q.out (Nat.lt_succ_self _);obtain⟨G,H,K,M,N,d5⟩:=t;have F:¬ 9223372036854775807<(strOfNums (z5h k i v n S.length ++ S.flatMap z4w)).size+(strOfNums (be (D.length:Int) 1)).size:=by simp only[strOfNums_size,z0A];omega
   clear R
   go_wp2_with fail
   refine (z3r _ _ 1 _ rfl (by omega) (by omega) (by omega)).mono ?_
   rintro e w2⟨rfl,W⟩;have u:Hid (Below (w.heap.size+1) w1 w2):=Q.out.trans (W.mono p);clear G H K M N d5 W;have t:=r.later u.out (Nat.lt_succ_self _);obtain⟨G,H,K,M,N,d5⟩:=t
   go_wp2_with fail
   clear G H K M N d5 F
   go_loopw [5,61] (fun s j wl=>∃ m:Nat,m<=D.length/\j=J I m/\s=.string (strOfNums (z5h k i v n S.length ++ S.flatMap z4w ++ be D.length 1 ++ (D.take m).flatMap (be · 1)))/\Hid (Below (w.heap.size+1) w1 wl)) (fun _ j _=>D.length - (intOf j).toNat)
   case atStart=>exact⟨0,Nat.zero_le _,rfl,by rw[z2o];simp,u⟩
   case round =>
    obtain⟨m,hm,rfl,rfl,q⟩:=hrel;clear u;have p:w.heap.size+1<=wr.heap.size:=Nat.le_trans a q.out.size;have R:(z5h k i v n S.length ++ S.flatMap z4w ++ be D.length 1 ++ (D.take m).flatMap (be · 1)).length<=80:=by rw[List.length_append,List.length_append,List.length_append,z1S,z2z,z4X,z0A];have:=take_len D m;omega
    by_cases c:m<D.length
    ·have hcell:=L1.PD.z3G q.out C.out.2 m c;have d:=z4n (be · 1) D 0 m c;have f:=a1.out _ (q0r 0 c);obtain⟨y,T⟩:∃ y,D.getD m 0=y:=⟨_,rfl⟩;rw[T]at hcell d f;obtain⟨q1,q2⟩:=f;have e:=L1.hda (by omega)
     subst e;have HX:Hid (z5h k i v n S.length ++ S.flatMap z4w ++ be D.length 1 ++ (D.take (m+1)).flatMap (be · 1)=z5h k i v n S.length ++ S.flatMap z4w ++ be D.length 1 ++ (D.take m).flatMap (be · 1) ++ be y 1):=by show _=_;rw[d,<- List.append_assoc]
     clear d T;generalize z5h k i v n S.length ++ S.flatMap z4w ++ be D.length 1 ++ (D.take m).flatMap (be · 1)=X at *;have g2:¬ 9223372036854775807<(strOfNums X).size+(strOfNums (be y 1)).size:=by simp only[strOfNums_size,z0A];omega
     go_wp2_with fail
     refine (z3r _ _ 1 _ rfl (by omega) (by omega) (by omega)).mono ?_
     rintro e w3⟨rfl,Y⟩;have a6:Hid (Below (w.heap.size+1) w1 w3):=q.out.trans (Y.mono p);clear Y hcell;go_wp2;go_roundw
     case rel=>exact⟨m+1,by omega,by go_num,by rw[z2o,HX.out],a6⟩
     case measure=>simp[intOf];omega
    ·have a7:m=D.length:=by omega
     subst a7;have HE:Hid (enc k i v n S D=z5h k i v n S.length ++ S.flatMap z4w ++ be D.length 1 ++ (D.take D.length).flatMap (be · 1)):=by rw[List.take_length];rfl
     have HF:Hid (Bl w wr):=E.out.trans (q.out.mono (Nat.le_succ _));go_wp2;go_ret2;exact⟨by rw[HE.out];rfl,HF.out⟩
end Cd
namespace Cd
open Go.RowKit
theorem q9c(k i v n:Int)(S:List (Int×Int))(D:List Int)(sa da:Option Addr)(cs cd sb so db dO:Nat)(w:World)(L:q3M w S D sa da sb so db dO)(c:z0o k i v n S D≠0) :
  Calls prog 52 #[J4 #[J I k,J I i,J I v,J I n,J1 sa S.length cs,J1 da D.length cd]] w fun e w'=>e=.returned (.tuple #[.string ⟨#[]⟩,J I (z0o k i v n S D)])/\Bl w w':=by
 have a:=q2w k i v n S D sa da cs cd sb so db dO _ (L.later (z0m w (J5 #[J I k,J I i,J I v,J I n,J1 sa S.length cs,J1 da D.length cd] 49)));have d:Hid (Bl w (w.alloc (J5 #[J I k,J I i,J I v,J I n,J1 sa S.length cs,J1 da D.length cd] 49))):=z0m w _;generalize z0o k i v n S D=G at *;have f:(G != 0)=true:=by simpa using c
 clear L c
 go_enter func52,ntmps52
 go_wp2_with (go_at_call 94;refine a.mono ?_;rintro e w1⟨rfl,b⟩)
 go_ret2;exact⟨rfl,zbt d.out b⟩
theorem q6x(k i v n:Int)(S:List (Int×Int))(D:List Int)(sa da:Option Addr)(cs cd sb so db dO:Nat)(w:World)(L:q3M w S D sa da sb so db dO) :
  Calls prog 52 #[J4 #[J I k,J I i,J I v,J I n,J1 sa S.length cs,J1 da D.length cd]] w fun e w'=>e=.returned (.tuple #[.string (encS k i v n S D),J I (z0o k i v n S D)])/\Bl w w':=by
 by_cases h:z0o k i v n S D=0
 ·rw[encS,if_pos h,h];exact j0H k i v n S D sa da cs cd sb so db dO w L h
 ·rw[encS,if_neg h];exact q9c k i v n S D sa da cs cd sb so db dO w L h
end Cd
end Go.Proofs.YtjghbciepinofaaGreat
