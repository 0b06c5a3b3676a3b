/- Parts of the proof. -/
import Derived.Test.YtjghbciepinofaaGreatPL
import Derived.Test.YtjghbciepinofaaGreatPK26
set_option maxRecDepth 100000
set_option maxHeartbeats 16000000
namespace Go.Proofs.YtjghbciepinofaaGreat
open Go.Proofs.Tryz
open Value renaming int->J,slice->J1,pointer->J2,bool->J3,agg->J4
open IntKind renaming i64->I
open Obj renaming cells->J5
namespace Cd
open Go.RowKit
theorem q5h(k i v n:Int)(S:List (Int×Int))(D:List Int)(sa da:Option Addr)(cs cd sb so db dO:Nat)(w:World)(L:q3M w S D sa da sb so db dO)(Q:1<=i)(R:i<=1099511627776)
  (T:(k=1/\v=0/\n=0)∨(k=2/\v=0/\n=0/\S.length<=0/\D.length<=0)∨((k=3∨k=4)/\0<=v/\v<=5/\1<=n/\n<=1125899906842624/\S.length<=0/\D.length<=0))
  (F:Int) (N:F=if z0e (-1) S=true/\z0k (-1) D=true then 0 else 2) :
  Calls prog 94 #[J4 #[J I k,J I i,J I v,J I n,J1 sa S.length cs,J1 da D.length cd]] w fun e w'=>e=.returned (J I F)/\Bl w w':=by
 have s:Hid _:=N;have hls:=L.hls;have hld:=L.hld;unfold maxLen at hls hld;have C:=z5n w k i v n (J1 sa S.length cs) (J1 da D.length cd);have o:=L.later (z0m w (J5 #[J I k,J I i,J I v,J I n,J1 sa S.length cs,J1 da D.length cd] 49));have f:Hid ((0<S.length->sb<w.heap.size+1)/\(0<D.length->db<w.heap.size+1)):=⟨fun h=>Nat.lt_succ_of_lt (L.PS.lt h),fun h=>Nat.lt_succ_of_lt (L.PD.lt h)⟩;clear N L
 rcases T with⟨rfl,rfl,rfl⟩ | ⟨rfl,rfl,rfl,h1,h2⟩ | ⟨rfl | rfl,h1,h2,h3,G,h5,h6⟩
 all_goals go_enter func94,ntmps94
 all_goals go_wp2
 ·go_loopw [4,88] (fun last j wl=>∃ (m:Nat) (x:Int),m<=S.length/\j=J I m/\last=J I x/\-1<=x/\Hid (z0e (-1) S=z0e x (S.drop m))/\Hid (Below (w.heap.size+1) (w.alloc (J5 #[J I 1,J I i,J I 0,J I 0,J1 sa S.length cs,J1 da D.length cd] 49)) wl)) (fun _ j _=>S.length - (intOf j).toNat)
  case atStart=>exact⟨0,-1,Nat.zero_le _,rfl,rfl,by omega,by simp[Hid],Below.refl _ _⟩
  case round =>
   obtain⟨m,x,U,rfl,rfl,V,c,d⟩:=hrel;have g:w.heap.size+1<=wr.heap.size:=by have:=d.out.size;simpa using this
   by_cases l:m<S.length
   ·have hcell:=o.PS.z3G d.out f.out.1 m l;have hd:=z5R S m l x;obtain⟨y,u⟩:∃ y,S.getD m (0,0)=y:=⟨_,rfl⟩;rw[u]at hcell hd;obtain⟨y,z⟩:=y;have e:=o.hsa (by omega)
    subst e;dsimp only at hd;obtain⟨H,K⟩:=hcell;dsimp only at H K;have q:Hid _:=hd;clear hd u;have r:∀ w',Below (w.heap.size+1) (w.alloc (J5 #[J I 1,J I i,J I 0,J I 0,J1 (some ⟨sb,so,none⟩) S.length cs,J1 da D.length cd] 49)) w'->Bl w w':=fun w' h=>z1A (by simpa using h)
    have b:Hid _:=r;clear r
    by_cases a:y<=x∨5<y∨z<0∨1125899906842624<z
    ·have E:Hid (F=2):=by
      have:z0e (-1) S=false:=by
       rw[c.out,q.out]
       rcases a with h | h | h | h
       ·rw[decide_eq_false (by omega)];simp
       ·rw[z4A (by omega)];simp
       ·rw[decide_eq_false (p:=0<=z) (by omega)];simp
       ·rw[decide_eq_false (p:=z<=1125899906842624) (by omega)];simp
      show _=_
      rw[s.out,if_neg (by rw[this];simp)]
     clear s c q
     by_cases h1:y<=x
     ·go_wp2;go_ret;exact⟨by rw[E.out];rfl,b.out _ (d.out.alloc g _)⟩
     by_cases h2:5<y
     ·go_wp2;go_ret;exact⟨by rw[E.out];rfl,b.out _ (d.out.alloc g _)⟩
     by_cases h3:z<0
     ·go_wp2;go_ret;exact⟨by rw[E.out];rfl,b.out _ (d.out.alloc g _)⟩
     have G:1125899906842624<z:=by omega
     clear a;go_wp2;go_ret;exact⟨by rw[E.out];rfl,b.out _ (d.out.alloc g _)⟩
    ·have h1:x<y:=by omega
     have h2:y<=5:=by omega
     have h3:0<=z:=by omega
     have G:z<=1125899906842624:=by omega
     have E:Hid (z0e (-1) S=z0e y (S.drop (m+1))):=by
      show _=_
      rw[c.out,q.out,decide_eq_true h1,z7w (by omega) (by omega),decide_eq_true h3,decide_eq_true G];simp
     clear a q c;go_wp2;go_roundw
     case rel=>exact⟨m+1,y,by omega,by go_num,rfl,by omega,E,d.out.alloc g _⟩
     case measure=>simp[intOf];omega
   ·have M:=C.later d.out (Nat.lt_succ_self _);obtain⟨c0,c1,c2,c3,W,X⟩:=M;have Y:Hid (z0e (-1) S=true):=by show _=_;rw[c.out,List.drop_of_length_le (by omega)];rfl
    have P:q3M wr S D sa da sb so db dO:=⟨o.hls,o.hld,o.hsa,o.hda,o.PS.z3G d.out f.out.1,o.PD.z3G d.out f.out.2⟩;have t:Hid (Bl w wr):=z1A (by simpa using d.out)
    clear c d C o f;go_wp2;clear c0 c1 c2 c3 W X
    go_loop [4,117] (fun last j=>∃ (m:Nat) (x:Int),m<=D.length/\j=J I m/\last=J I x/\-1<=x/\Hid (z0k (-1) D=z0k x (D.drop m))) (fun _ j=>D.length - (intOf j).toNat)
    case atStart=>exact⟨0,-1,Nat.zero_le _,rfl,rfl,by omega,by simp[Hid]⟩
    case round =>
     obtain⟨m,x,U,rfl,rfl,V,c⟩:=hrel
     by_cases l:m<D.length
     ·have hcell:=P.PD m l;have hd:=z6O D m l x;obtain⟨y,u⟩:∃ y,D.getD m 0=y:=⟨_,rfl⟩;rw[u]at hcell hd;have e:=P.hda (by omega)
      subst e;have q:Hid _:=hd;clear hd u
      by_cases a:y<=x∨5<y
      ·have E:Hid (F=2):=by
        have:z0k (-1) D=false:=by
         rw[c.out,q.out]
         rcases a with h | h
         ·rw[decide_eq_false (by omega)];simp
         ·rw[z4A (by omega)];simp
        show _=_
        rw[s.out,if_neg (by rw[this];simp)]
       clear s c q
       by_cases h1:y<=x
       ·go_wp2;go_ret;exact⟨by rw[E.out];rfl,t.out⟩
       have h2:5<y:=by omega
       clear a;go_wp2;go_ret;exact⟨by rw[E.out];rfl,t.out⟩
      ·have h1:x<y:=by omega
       have h2:y<=5:=by omega
       have E:Hid (z0k (-1) D=z0k y (D.drop (m+1))):=by
        show _=_
        rw[c.out,q.out,decide_eq_true h1,z7w (by omega) (by omega)];simp
       clear a q c;go_wp2
       go_round
       case rel=>exact⟨m+1,y,by omega,by go_num,rfl,by omega,E⟩
       case measure=>simp[intOf];omega
     ·have E:Hid (F=0):=by
       show _=_
       rw[s.out,if_pos ⟨Y.out,by rw[c.out,List.drop_of_length_le (by omega)];rfl⟩]
      go_wp2;go_ret;exact⟨by rw[E.out];rfl,t.out⟩
 all_goals
  have A:S=[]:=List.eq_nil_of_length_eq_zero (by omega)
  have B:D=[]:=List.eq_nil_of_length_eq_zero (by omega)
  have E:Hid (F=0):=by
   show _=_
   rw[s.out,A,B];rfl
  clear A B s C o f;refine wp_loop_rounds 1 ?_;rw[rounds_succ];go_wp2;refine wp_loop_rounds 1 ?_;rw[rounds_succ];go_wp2;go_ret;exact⟨by rw[E.out];rfl,z0m _ _⟩
theorem q8X:z3N 1=false:=rfl
theorem q9O:z3N 2=false:=rfl
theorem z6T{k v n:Int}{a b:Nat}(h:z3N k=true)(c:k≠1):z4x k v n a b=decide (0<a∨0<b):=by
  rw[Bool.eq_iff_iff]
  simp[z4x,h,c];omega
theorem z4v{v n:Int}{a b:Nat}:z4x 2 v n a b=decide (v≠0∨n≠0∨0<a∨0<b):=by
  rw[Bool.eq_iff_iff]
  simp[z4x,q9O];omega
theorem z6Z{v n:Int}{a b:Nat}:z4x 1 v n a b=decide (v≠0∨n≠0):=by
  rw[Bool.eq_iff_iff]
  simp[z4x,q8X]
theorem z4z{k i v n:Int}{S:List (Int×Int)}{D:List Int}(h1:1<=k)(h2:k<=4)(h3:1<=i)(c:i<=1099511627776)(a:¬ (z3N k=true/\(isV v=false∨n<1∨1125899906842624<n)))(b:z4x k v n S.length D.length=false) :
    z0o k i v n S D=if z0e (-1) S=true/\z0k (-1) D=true then 0 else 2:=by
  rw[z0o,if_neg (by omega),if_neg (by omega),if_neg a,if_neg (by rw[b];simp)]
  cases z0e (-1) S <;> cases z0k (-1) D <;> rfl
theorem z1J{k i v n:Int}{S:List (Int×Int)}{D:List Int}(h1:1<=k)(h2:k<=4)(h3:1<=i)(c:i<=1099511627776)(a:¬ (z3N k=true/\(isV v=false∨n<1∨1125899906842624<n)))(b:z4x k v n S.length D.length=true) :
    z0o k i v n S D=1:=by
  rw[z0o,if_neg (by omega),if_neg (by omega),if_neg a,if_pos b]
theorem z2X{k i v n:Int}{S:List (Int×Int)}{D:List Int}(h1:1<=k)(h2:k<=4)(h3:1<=i)(b:i<=1099511627776)(a:z3N k=true/\(isV v=false∨n<1∨1125899906842624<n)) :
    z0o k i v n S D=2:=by
  rw[z0o,if_neg (by omega),if_neg (by omega),if_pos a]
theorem q4X(k i v n:Int)(S:List (Int×Int))(D:List Int) :
    (k<1/\z0o k i v n S D=3)∨(1<=k/\4<k/\z0o k i v n S D=3)∨(1<=k/\k<=4/\i<1/\z0o k i v n S D=2)∨(1<=k/\k<=4/\1<=i/\1099511627776<i/\z0o k i v n S D=2) ∨
    (1<=i/\i<=1099511627776 /\
     (((k=3∨k=4)/\(v<0/\z0o k i v n S D=2∨0<=v/\5<v/\z0o k i v n S D=2∨0<=v/\v<=5/\n<1/\z0o k i v n S D=2∨0<=v/\v<=5/\1<=n/\1125899906842624<n/\z0o k i v n S D=2 ∨
        0<=v/\v<=5/\1<=n/\n<=1125899906842624/\(0<S.length/\z0o k i v n S D=1∨S.length<=0/\0<D.length/\z0o k i v n S D=1))) ∨
      (k=2/\((v != 0)=true/\z0o k i v n S D=1∨v=0/\(n != 0)=true/\z0o k i v n S D=1∨v=0/\n=0/\(0<S.length/\z0o k i v n S D=1∨S.length<=0/\0<D.length/\z0o k i v n S D=1))) ∨
      (k=1/\((v != 0)=true/\z0o k i v n S D=1∨v=0/\(n != 0)=true/\z0o k i v n S D=1)) ∨
      (((k=1/\v=0/\n=0)∨(k=2/\v=0/\n=0/\S.length<=0/\D.length<=0)∨((k=3∨k=4)/\0<=v/\v<=5/\1<=n/\n<=1125899906842624/\S.length<=0/\D.length<=0)) /\
        z0o k i v n S D=if z0e (-1) S=true/\z0k (-1) D=true then 0 else 2))):=by
  rcases Int.lt_or_le k 1 with h | h1
  · left;exact⟨h,by rw[z0o,if_pos (Or.inl h)]⟩
  right
  rcases Int.lt_or_le 4 k with h | h2
  · left;exact⟨h1,h,by rw[z0o,if_pos (Or.inr h)]⟩
  right
  rcases Int.lt_or_le i 1 with h | h3
  · left;exact⟨h1,h2,h,by rw[z0o,if_neg (by omega),if_pos (Or.inl h)]⟩
  right
  rcases Int.lt_or_le 1099511627776 i with h | b
  · left;exact⟨h1,h2,h3,h,by rw[z0o,if_neg (by omega),if_pos (Or.inr h)]⟩
  right
  refine⟨h3,b,?_⟩
  by_cases g:k=3∨k=4
  · have j:=z7c g
    have e:k≠1:=by omega
    rcases Int.lt_or_le v 0 with h | a
    · left;exact⟨g,.inl ⟨h,z2X h1 h2 h3 b ⟨j,.inl (z4A (by omega))⟩⟩⟩
    rcases Int.lt_or_le 5 v with h | f
    · left;exact⟨g,.inr (.inl ⟨a,h,z2X h1 h2 h3 b ⟨j,.inl (z4A (by omega))⟩⟩)⟩
    rcases Int.lt_or_le n 1 with h | c
    · left;exact⟨g,.inr (.inr (.inl ⟨a,f,h,z2X h1 h2 h3 b ⟨j,.inr (.inl h)⟩⟩))⟩
    rcases Int.lt_or_le 1125899906842624 n with h | l
    · left;exact⟨g,.inr (.inr (.inr (.inl ⟨a,f,c,h,z2X h1 h2 h3 b ⟨j,.inr (.inr h)⟩⟩)))⟩
    have d:¬ (z3N k=true/\(isV v=false∨n<1∨1125899906842624<n)):=by rw[z7w a (by omega)];simp;omega
    rcases Nat.lt_or_ge 0 S.length with h | m
    · left;exact⟨g,.inr (.inr (.inr (.inr ⟨a,f,c,l,.inl ⟨h,z1J h1 h2 h3 b d (by rw[z6T j e];simp;omega)⟩⟩)))⟩
    rcases Nat.lt_or_ge 0 D.length with h | hd
    · left;exact⟨g,.inr (.inr (.inr (.inr ⟨a,f,c,l,.inr ⟨m,h,z1J h1 h2 h3 b d (by rw[z6T j e];simp;omega)⟩⟩)))⟩
    · right;right;right;exact⟨.inr (.inr ⟨g,a,f,c,l,m,hd⟩),z4z h1 h2 h3 b d (by rw[z6T j e];exact decide_eq_false (by omega))⟩
  right
  have d:¬ (z3N k=true/\(isV v=false∨n<1∨1125899906842624<n)):=by rw[q0t (by omega) (by omega)];simp
  by_cases o:k=2
  · subst o
    by_cases a:v=0
    · by_cases c:n=0
      · rcases Nat.lt_or_ge 0 S.length with h | m
        · left;exact⟨rfl,.inr (.inr ⟨a,c,.inl ⟨h,z1J h1 h2 h3 b d (by rw[z4v];simp;omega)⟩⟩)⟩
        rcases Nat.lt_or_ge 0 D.length with h | hd
        · left;exact⟨rfl,.inr (.inr ⟨a,c,.inr ⟨m,h,z1J h1 h2 h3 b d (by rw[z4v];simp;omega)⟩⟩)⟩
        · right;right;exact⟨.inr (.inl ⟨rfl,a,c,m,hd⟩),z4z h1 h2 h3 b d (by rw[z4v];exact decide_eq_false (by omega))⟩
      · left;exact⟨rfl,.inr (.inl ⟨a,by simpa using c,z1J h1 h2 h3 b d (by rw[z4v];simp;omega)⟩)⟩
    · left;exact⟨rfl,.inl ⟨by simpa using a,z1J h1 h2 h3 b d (by rw[z4v];simp;omega)⟩⟩
  right
  have e:k=1:=by omega
  subst e
  by_cases a:v=0
  · by_cases c:n=0
    · right;exact⟨.inl ⟨rfl,a,c⟩,z4z h1 h2 h3 b d (by rw[z6Z];simp;omega)⟩
    · left;exact⟨rfl,.inr ⟨a,by simpa using c,z1J h1 h2 h3 b d (by rw[z6Z];simp;omega)⟩⟩
  · left;exact⟨rfl,.inl ⟨by simpa using a,z1J h1 h2 h3 b d (by rw[z6Z];simp;omega)⟩⟩
theorem q2w(k i v n:Int)(S:List (Int×Int))(D:List Int)(sa da:Option Addr)(cs cd sb so db dO:Nat)(w:World)(L:q3M w S D sa da sb so db dO) :
    Calls prog 94 #[J4 #[J I k,J I i,J I v,J I n,J1 sa S.length cs,J1 da D.length cd]] w fun e w'=>e=.returned (J I (z0o k i v n S D))/\Bl w w':=by
  have hls:=L.hls;have hld:=L.hld;unfold maxLen at hls hld;have a:=q4X k i v n S D;generalize z0o k i v n S D=G at *
  rcases a with⟨h1,rfl⟩ | ⟨h1,h2,rfl⟩ | ⟨h1,h2,h3,rfl⟩ | ⟨h1,h2,h3,h4,rfl⟩ | ⟨h1,h2,⟨rfl | rfl,⟨h3,rfl⟩ | ⟨h3,h4,rfl⟩ | ⟨h3,h4,h5,rfl⟩ | ⟨h3,h4,h5,h6,rfl⟩ | ⟨h3,h4,h5,h6,⟨h7,rfl⟩ | ⟨h7,h8,rfl⟩⟩⟩ | ⟨rfl,⟨h3,rfl⟩ | ⟨rfl,h4,rfl⟩ | ⟨rfl,rfl,⟨h3,rfl⟩ | ⟨h3,h4,rfl⟩⟩⟩ | ⟨rfl,⟨h3,rfl⟩ | ⟨rfl,h4,rfl⟩⟩ | ⟨hk,hG⟩⟩
  case inr.inr.inr.inr.inr.inr.inr=>exact q5h k i v n S D sa da cs cd sb so db dO w L h1 h2 hk G hG
  all_goals clear L
  all_goals go_enter func94,ntmps94
  all_goals go_wp2
  all_goals go_ret
  all_goals exact⟨rfl,z0m _ _⟩
end Cd
namespace Pv
open Go.RowKit
def z8P(last:Int)(x:Int×Int):Bool:=decide (last<x.1) && decide (x.1<=5) && decide (1<=x.2) && decide (x.2<=1125899906842624)
def z2h(last:Int):List (Int×Int)->Bool
 | []=>true
 | x :: l=>z8P last x && z2h x.1 l
def z1v(last:Int):List Int->Bool
 | []=>true
 | x :: l=>(decide (last<x) && decide (x<=5)) && z1v x l
theorem z5l{α:Type}{l:List α}{k:Nat}(h:k<l.length):∃ x,l[k]?=some x/\l.drop k=x :: l.drop (k+1):=⟨l[k],List.getElem?_eq_getElem h,List.drop_eq_getElem_cons h⟩
theorem z5p(l:List (Int×Int))(v:Value)(P:Nat->Prop)(w:World)(h:Rep P w v 2 16 (pwC l)):Calls prog 92 #[v] w fun e w'=>e=.returned (J3 (z2h (-1) l))/\Bl w w':=by
 obtain⟨A,C,rfl,D,-,r,-⟩:=h.open (z0r _) (by decide)
 have E:=J6 r;have s:l.length<=8796093022202:=by omega
 obtain⟨G,n⟩:∃ G,z2h (-1) l=G:=⟨_,rfl⟩;have t:=J6 n;rw[n];clear r h D n
 go_enter func92,ntmps92
 go_upto_region 3 with fail
 go_loopw [3,8] (fun F i wl=>∃ (k:Nat) (last:Int),k<=l.length/\i=J I (k:Int)/\F=J I last/\Hid (G=z2h last (l.drop k)/\Bl w wl)) (fun _ i _=>l.length - (intOf i).toNat)
 case atStart=>exact⟨0,-1,Nat.zero_le _,rfl,rfl,t.out.symm,Below.refl _ _⟩
 case round =>
  obtain⟨k,last,L,rfl,rfl,c⟩:=hrel
  by_cases f:k<l.length
  ·have H:(k:Int)<(l.length:Int):=by omega
   obtain⟨x,u,hd⟩:=z5l f;obtain⟨b,off,rfl,-,g,hcell⟩:=E.out (by omega)
   have y:l.getD k (0,0)=x:=by simp[List.getD,u]
   obtain⟨p0,p1⟩:=z2t l k f;rw[y]at p0 p1;have c0:wr.cell? ⟨b,off+k * 2,none⟩=some (J I x.1):=(c.out.2.cell (p:=⟨b,off+k * 2,none⟩) g).trans (hcell _ _ p0);have c1:wr.cell? ⟨b,off+k * 2+1,none⟩=some (J I x.2):=(c.out.2.cell (p:=⟨b,off+k * 2+1,none⟩) g).trans (hcell _ _ p1);have m:Hid (G=(z8P last x && z2h x.1 (l.drop (k+1)))):=by have:=c.out.1;rw[hd]at this;exact this
   have o:=J6 (c.out.2.alloc c.out.2.size (J5 #[J I x.1,J I x.2] 74));have z:Hid (∀ last,z8P last x=(decide (last<x.1) && decide (x.1<=5) && decide (1<=x.2) && decide (x.2<=1125899906842624))):=fun _=>rfl;clear c hd u y p0 p1 hcell;obtain⟨a,d⟩:=x;dsimp only at c0 c1
   by_cases h1:last<a/\a<=5/\1<=d/\d<=1125899906842624
   ·obtain⟨h1,h2,h3,B⟩:=h1;have e:G=z2h a (l.drop (k+1)):=by rw[m.out,z.out];simp[h1,h2,h3,B]
    have j:=J6 e;clear e m;go_wp2
    first | exact⟨⟨k+1,a,by omega,by go_num,rfl,j.out,o.out⟩,by simp[intOf];omega⟩ | ((repeat apply Exists.intro);exact⟨⟨k+1,a,by omega,by go_num,rfl,j.out,o.out⟩,rfl⟩)
   ·have e:G=false:=by
     rw[m.out,z.out];simp only[Bool.and_eq_false_iff,decide_eq_false_iff_not]
     by_cases q1:last<a
     ·by_cases q2:a<=5
      ·by_cases q3:1<=d
       ·exact .inl (.inr fun K=>h1 ⟨q1,q2,q3,K⟩)
       ·exact .inl (.inl (.inr q3))
      ·exact .inl (.inl (.inl (.inr q2)))
     ·exact .inl (.inl (.inl (.inl q1)))
    subst e;clear m t;have q:¬ last<a∨(last<a/\¬ a<=5)∨(last<a/\a<=5/\¬ 1<=d)∨(last<a/\a<=5/\1<=d/\¬ d<=1125899906842624):=by omega
    clear h1
    rcases q with h1 | ⟨h1,h2⟩ | ⟨h1,h2,h3⟩ | ⟨h1,h2,h3,B⟩
    all_goals
     go_wp2;go_ret;exact⟨rfl,o.out⟩
  ·obtain rfl:k=l.length:=by omega
   have e:G=true:=by have:=c.out.1;rw[List.drop_length]at this;exact this
   subst e;go_wp2;go_ret;exact⟨rfl,c.out.2⟩
end Pv
namespace Ln
open Go.RowKit
theorem q2a(x:Line):(nonneg x.D=false->z1C x=false)/\(nonneg x.D=true->z1C x=(decide (x.S.length=x.D.length) && (decide (x.S.length<=400) && (decide (0<=x.g) && decide (x.g<=x.S.length))))):=by
 refine⟨fun h=>by simp[z1C,h],fun h=>?_⟩
 unfold z1C;rw[h]
 by_cases h1:x.D.length=x.S.length
 ·simp[h1,Bool.and_assoc]
 ·have h2:¬ x.S.length=x.D.length:=fun e=>h1 e.symm
  simp[h1,h2]
theorem z0T(x:Line)(sa da:Option Addr)(cs cd sb so db dO:Nat)(w:World)(L:LAt w x sa da cs cd sb so db dO) :
  Calls prog 93 #[J4 #[J1 sa x.S.length cs,J1 da x.D.length cd,J I x.g,J3 x.cl]] w fun e w'=>e=.returned (J3 (z1C x))/\Bl w w':=by
 obtain⟨S,D,g,cl⟩:=x;have d:=J6 (q2a ⟨S,D,g,cl⟩);obtain⟨hls,hld,hsa,hda,-,-,PS,PD⟩:=L;have a:Hid (∀ o,Bl w (w.alloc o)):=fun o=>z0m w o;have j:Hid (0<D.length->da=some ⟨db,dO,none⟩):=hda;have l:Hid (z0F w db dO D):=PD;clear hsa hda PS PD;dsimp only at *;generalize z1C ⟨S,D,g,cl⟩=G at *
 go_enter func93,ntmps93
 go_wp2
 go_loop [8] (fun i=>∃ (k:Nat),k<=D.length/\i=J I (k:Int)/\Hid (nonneg (D.take k)=true)) (fun i=>D.length - (intOf i).toNat)
 case atStart=>exact⟨0,Nat.zero_le _,rfl,by simp[Hid,nonneg]⟩
 case round =>
  obtain⟨k,r,rfl,f⟩:=hrel
  by_cases h:k<D.length
  ·have hcell:=(l.out.later (a.out (J5 #[J1 sa S.length cs,J1 da D.length cd,J I g,J3 cl] 37))) k h;obtain⟨y,m⟩:∃ y,D.getD k 0=y:=⟨_,rfl⟩;rw[m]at hcell;have q:Hid (D.getD k 0=y):=m;clear m;have e:=j.out (by omega)
   subst e
   by_cases n:y<0
   ·have b:Hid (G=false):=d.out.1 (z6q h (by rw[q.out];exact n))
    go_wp2;go_ret;exact⟨by rw[b.out];rfl,a.out _⟩
   ·go_wp2
    go_round
    case rel=>exact⟨k+1,by omega,by go_num,z5A f.out h (by rw[q.out];omega)⟩
    case measure=>simp[intOf];omega
  ·have c:=d.out.2 (by have:=f.out;rwa [List.take_of_length_le (by omega)]at this)
   by_cases h1:S.length=D.length
   ·have p:((S.length:Int) == (D.length:Int))=true:=by simp[h1]
    by_cases h2:S.length<=400
    ·by_cases h3:0<=g
     ·by_cases s:g<=(S.length:Int)
      ·have b:Hid (G=true):=by show _=_;rw[c];simp[h1,h3];omega
       clear c h1 d f;go_wp2;go_ret;exact⟨by rw[b.out];rfl,a.out _⟩
      ·have b:Hid (G=false):=by show _=_;rw[c];simp;omega
       clear c h1 d f;go_wp2;go_ret;exact⟨by rw[b.out];rfl,a.out _⟩
     ·have b:Hid (G=false):=by show _=_;rw[c];simp;omega
      clear c h1 d f;go_wp2;go_ret;exact⟨by rw[b.out];rfl,a.out _⟩
    ·have b:Hid (G=false):=by show _=_;rw[c];simp;omega
     clear c h1 d f;go_wp2;go_ret;exact⟨by rw[b.out];rfl,a.out _⟩
   ·have p:((S.length:Int) == (D.length:Int))=false:=by simp;omega
    have b:Hid (G=false):=by show _=_;rw[c];simp;omega
    clear c h1 d f;go_wp2;go_ret;exact⟨by rw[b.out];rfl,a.out _⟩
theorem q4n(l:List Int)(a p:Option Addr)(c u b off q d:Nat)(w:World)(r:l.length * 8<=140737488351232)(s:0<l.length->a=some ⟨b,off,none⟩)(g:0<l.length->p=some ⟨q,d,none⟩)
  (t:z0F w b off l) (h:z0F w q d l) :
  Calls prog 18 #[J1 a l.length c,J1 p l.length u] w fun e w'=>e=.returned (J3 true)/\Bl w w':=by
 have v:=J6 s;have m:=J6 g;have x:=J6 t;have o:=J6 h;clear s g t h
 go_enter func18,ntmps18
 go_upto_region 4 with fail
 go_loopw [13] (fun i wl=>∃ (k:Nat),k<=l.length/\i=J I (k:Int)/\Hid (Bl w wl)) (fun i _=>l.length - (intOf i).toNat)
 case atStart=>exact⟨0,Nat.zero_le _,rfl,Below.refl _ _⟩
 case round =>
  obtain⟨k,z,rfl,f⟩:=hrel
  by_cases j:k<l.length
  ·have c1:=x.out.later f.out k j;have c2:=o.out.later f.out k j;have e:=v.out (by omega)
   subst e;have e:=m.out (by omega)
   subst e;generalize l.getD k 0=n at *;have y:(k:Int)<(l.length:Int):=by omega
   go_upto_region 6 with fail
   go_quiet (fail);go_wp2;exact⟨⟨k+1,by omega,by go_num,⟨f.out.os,f.out.tape,f.out.output,f.out.size,f.out.block⟩⟩,by simp[intOf];omega⟩
  ·obtain rfl:k=l.length:=by omega
   go_wp2;go_ret;exact⟨rfl,f.out⟩
theorem z7a(x:Line)(sa da c a:Option Addr)(cs cd sb so db dO d b r s m o:Nat)(w:World)(L:LAt w x sa da cs cd sb so db dO)(u:LAt w x c a d b r s m o) :
  Calls prog 56 #[J4 #[J1 sa x.S.length cs,J1 da x.D.length cd,J I x.g,J3 x.cl],J4 #[J1 c x.S.length d,J1 a x.D.length b,J I x.g,J3 x.cl]] w fun e w'=>e=.returned (J3 true)/\Bl w w':=by
 obtain⟨S,D,g,cl⟩:=x;dsimp only;have y:S.length * 16<=140737488351232:=L.hls;have t:D.length * 8<=140737488351232:=L.hld;have q:=J6 L;have h:=J6 u;have F1:=(FAt.new w (J1 sa S.length cs) (J1 da D.length cd) (J I g) (J3 cl)).alloc (J5 #[J1 c S.length d,J1 a D.length b,J I g,J3 cl] 37);have F2:=FAt.new2 w (J5 #[J1 sa S.length cs,J1 da D.length cd,J I g,J3 cl] 37) (J1 c S.length d) (J1 a D.length b) (J I g) (J3 cl);have v:Bl w ((w.alloc (J5 #[J1 sa S.length cs,J1 da D.length cd,J I g,J3 cl] 37)).alloc (J5 #[J1 c S.length d,J1 a D.length b,J I g,J3 cl] 37)):=(z0m w _).alloc (by simp) _
 have l:=J6 (show _/\_/\_ from⟨F1,F2,v⟩);clear L u F1 F2 v
 go_enter func56,ntmps56
 go_upto_region 1 with fail
 generalize ((w.alloc (J5 #[J1 sa S.length cs,J1 da D.length cd,J I g,J3 cl] 37)).alloc (J5 #[J1 c S.length d,J1 a D.length b,J I g,J3 cl] 37))=w0 at *;obtain⟨⟨c0,c1,c2,c3⟩,-⟩:=l.out.1.facts;obtain⟨⟨z,A,B,C⟩,-⟩:=l.out.2.1.facts
 go_upto_region 4 with fail
 go_loopw [30] (fun i wl=>∃ (k:Nat),k<=S.length/\i=J I (k:Int)/\Hid (Bl w0 wl)) (fun i _=>S.length - (intOf i).toNat)
 case atStart=>exact⟨0,Nat.zero_le _,rfl,Below.refl _ _⟩
 case round =>
  obtain⟨k,M,rfl,j⟩:=hrel;have f:=J6 (z0N l.out.2.2 j.out);obtain⟨⟨c0,c1,c2,c3⟩,-⟩:=(l.out.1.later j.out l.out.1.lt).facts;obtain⟨⟨z,A,B,C⟩,-⟩:=(l.out.2.1.later j.out l.out.2.1.lt).facts
  by_cases p:k<S.length
  ·have E:=q.out.PS.later f.out k p;have F:=h.out.PS.later f.out k p;have e:=q.out.hsa (by show 0<S.length;omega)
   subst e;have e:=h.out.hsa (by show 0<S.length;omega)
   subst e;dsimp only at E F;generalize S.getD k ByteArray.empty=n at *;have G:(k:Int)<(S.length:Int):=by omega
   go_upto_region 6 with fail
   go_quiet (fail);go_wp2;exact⟨⟨k+1,by omega,by go_num,⟨j.out.os,j.out.tape,j.out.output,j.out.size,j.out.block⟩⟩,by simp[intOf];omega⟩
  ·have H:=J6 (q4n D da a cd b db dO m o wr t q.out.hda h.out.hda (q.out.PD.later f.out) (h.out.PD.later f.out))
   go_wp2_with (go_at_call 18;refine H.out.mono ?_;rintro e w5⟨rfl,K⟩)
   go_ret;exact⟨rfl,z0N f.out K⟩
end Ln
section
open Go.RowKit
theorem q1K(a b c:Int)(w:World)(d:a<=9223372036854775807)(b1:b<=9223372036854775807)(c1:c<=9223372036854775807) :
  Calls prog 145 #[J I a,J I b,J I c] w fun e w'=>e=.returned (.tuple #[J I (mdN a b c),J I (mdE a b c)])/\Bl w w':=Ra.q6T a b c d b1 c1 w
theorem z8l(a b c:Int):0<=mdN a b c/\mdN a b c<=1125899906842624:=by
 unfold mdN
 split
 ·omega
 ·rename_i h;have h0:0<=a * b:=Int.mul_nonneg (by omega) (by omega)
  have h1:0<=a * b / c:=Int.ediv_nonneg h0 (by omega)
  split <;> omega
theorem q9I(x:Vd)(n:Int):shN x n=if x.sh=0 then n else if x.tok=0 then 0 else if mdE n x.sh x.tok=0/\inA (x.sh+mdN n x.sh x.tok)=true then mdN n x.sh x.tok else 0:=rfl
theorem q9D(x:Vd)(n:Int):shE x n=if x.sh=0 then 0 else if x.tok=0 then 8 else if mdE n x.sh x.tok=0/\inA (x.sh+mdN n x.sh x.tok)=true then if mdN n x.sh x.tok=0 then 8 else 0 else 6:=rfl
theorem z7e(b o:Nat)(x:Vd)(n:Int)(w:World)(A:n<=1125899906842624)(i:vOk x=true)(h0:w.cell? ⟨b,o,none⟩=some (J I x.tok))(h1:w.cell? ⟨b,o+1,none⟩=some (J I x.sh)) :
  Calls prog 105 #[J2 (some ⟨b,o,none⟩),J I n] w fun e w'=>e=.returned (.tuple #[J I (shN x n),J I (shE x n)])/\Bl w w':=by
 obtain⟨r,s,u⟩:=z1G i;rw[z1n]at r s u;have j:=fun w=>q1K n x.sh x.tok w (by omega) (by omega) (by omega)
 have k:=z3T (x.sh+mdN n x.sh x.tok);have g:=J6 (q9I x n);have h:=J6 (q9D x n);have f:b<w.heap.size:=World.block_lt_of_cell? w _ h0;clear i;obtain⟨d,a,l,p,q⟩:=x;simp only at *;have B:=z8l n a d;generalize shN ⟨d,a,l,p,q⟩ n=rN at *;generalize shE ⟨d,a,l,p,q⟩ n=rE at *;generalize mdN n a d=m at *;generalize mdE n a d=er at *;generalize inA (a+m)=t at *
 go_enter func105,ntmps105
 go_upto_region 5 with fail
 all_goals first
  | (go_ret2;refine⟨?_,Below.refl _ _⟩;have v:=g.out;have y:=h.out;simp_all;done)
  | skip
 go_region_held3 (fun wx=>wx.cell? ⟨b,o,none⟩=some (J I d)/\wx.cell? ⟨b,o+1,none⟩=some (J I a)) (first | go_keep | (refine⟨?_,?_⟩ <;> (rw[c.cell f];simp[*])))
  (first | (go_at_call 145;refine (j _).mono ?_;rintro e w1⟨rfl,c⟩))
 rename_i hh;obtain⟨C,D⟩:=hh;have z:Hid (Bl w w1):=(Below.refl _ w).drew.trans c;clear c
 go_wp2_with (go_at_call 121;refine (k _).mono ?_;rintro e E⟨rfl,rfl⟩)
 all_goals (go_ret2;refine⟨?_,z.out⟩;have v:=g.out;have y:=h.out;clear g h j k;simp_all)
theorem q6n{w wq:World}(R:BAt wq (w.heap.size+1) 0 0 0 0 0 0 0)(H:Bl w wq)(a r1 r2 c d f g h:Int)(act:Act)
  (k:act.tmps.getD 6 undef=J2 (some ⟨w.heap.size+1,0,none⟩)) (l:act.tmps.getD 7 undef=J I h) (hd:act.defers=[]) :
  bodyPost prog f100 (fun e w'=>e=.returned (.tuple #[J4 #[J I a,J I r1,J I r2,J I c,J I d,J I f,J I g],J I h])/\Bl w w') Exit.ret act
   (z2C wq (w.heap.size+1) a r1 r2 c d f g):=by
 have m:=R.z2C a r1 r2 c d f g;have n:=z0G (b:=w.heap.size+1) H (by omega) a r1 r2 c d f g
 generalize z2C wq (w.heap.size+1) a r1 r2 c d f g=w9 at *;obtain⟨o,u1,u2,p,q,r,s⟩:=m.cells;have i:act.tmps[6]?.getD undef=J2 (some ⟨w.heap.size+1,0,none⟩):=by simpa using k
 have j:act.tmps[7]?.getD undef=J I h:=by simpa using l
 exact bodyPost_ret (v:=.tuple #[J4 #[J I a,J I r1,J I r2,J I c,J I d,J I f,J I g],J I h]) (by simp[results,results100,go_sem,i,j,o,u1,u2,p,q,r,s]) hd ⟨rfl,n⟩
theorem q4u(f0 f1 f2 f3 bo wa bu d n c r1 r2 f g h i j:Int)(w:World)(h0:0<=d)(h1:d<4)
  (k:∀ w:World,Calls prog 143 #[J4 #[J I f0,J I f1,J I f2,J I f3,J I bo,J I wa,J I bu],J I 5,J I d,J I n] w
   fun e w'=>e=.returned (.tuple #[J4 #[J I c,J I r1,J I r2,J I f,J I g,J I h,J I i],J I j])/\Bl w w') :
  Calls prog 100 #[J4 #[J I f0,J I f1,J I f2,J I f3,J I bo,J I wa,J I bu],J I d,J I n] w
   fun e w'=>e=.returned (.tuple #[J4 #[J I c,J I r1,J I r2,J I f,J I g,J I h,J I i],J I j])/\Bl w w':=by
 have h2:d<=3:=by omega
 go_enter func100,ntmps100
 go_wp2_with fail
 refine (k _).mono ?_;rintro e w5⟨rfl,a⟩
 have b:BAt w5 (w.heap.size+1) 0 0 0 0 0 0 0:=by
  have:=(BAt.new (w.alloc (J5 #[J I f0,J I f1,J I f2,J I f3,J I bo,J I wa,J I bu] 24)) 0 0 0 0 0 0 0).later a (by simp)
  simpa using this
 have l:Hid (Bl w w5):=((znw w _).alloc (by simp) _).trans (a.mono (by simp;omega))
 clear a;obtain⟨o,u1,u2,p,q,r,s⟩:=b.frees;obtain⟨v0,v1,v2,v3,t,u,v⟩:=b.cells;have m:Hid (BAt w5 (w.heap.size+1) 0 0 0 0 0 0 0):=b;clear b;go_wp2;exact q6n m.out l.out c r1 r2 f g h i j _ rfl rfl rfl
theorem q5W{w w9:World}{b r1 r2 c d f g:Int}(j:BAt w9 (w.heap.size+1) b r1 r2 c d f g)(k:Bl w w9)(a:Int)(act:Act)
  (l:act.tmps.getD 6 undef=J2 (some ⟨w.heap.size+1,0,none⟩)) (m:act.tmps.getD 7 undef=J I a) (hd:act.defers=[]) :
  bodyPost prog f100 (fun e w'=>e=.returned (.tuple #[J4 #[J I b,J I r1,J I r2,J I c,J I d,J I f,J I g],J I a])/\Bl w w') Exit.ret act w9:=by
 obtain⟨n,u1,u2,o,p,q,r⟩:=j.cells;have h:act.tmps[6]?.getD undef=J2 (some ⟨w.heap.size+1,0,none⟩):=by simpa using l
 have i:act.tmps[7]?.getD undef=J I a:=by simpa using m
 exact bodyPost_ret (v:=.tuple #[J4 #[J I b,J I r1,J I r2,J I c,J I d,J I f,J I g],J I a]) (by simp[results,results100,go_sem,h,i,n,u1,u2,o,p,q,r]) hd ⟨rfl,k⟩
theorem q7I(f0 f1 f2 f3 bo wa bu d n:Int)(w:World)(h:¬ (0<=d/\d<4)) :
  Calls prog 100 #[J4 #[J I f0,J I f1,J I f2,J I f3,J I bo,J I wa,J I bu],J I d,J I n] w
   fun e w'=>e=.returned (.tuple #[J4 #[J I f0,J I f1,J I f2,J I f3,J I bo,J I wa,J I bu],J I 4])/\Bl w w':=by
 rcases (show d<0∨(0<=d/\3<d) by omega) with h1 | ⟨h1,h2⟩
 all_goals
  clear h
  go_enter func100,ntmps100
  go_wp2;exact q5W (by have:=BAt.new (w.alloc (J5 #[J I f0,J I f1,J I f2,J I f3,J I bo,J I wa,J I bu] 24)) f0 f1 f2 f3 bo wa bu;simpa using this) ((znw w _).alloc (by simp) _) 4 _ rfl rfl rfl
theorem z5q{w w9:World}{b r1 r2 c d f g:Int}(j:BAt w9 (w.heap.size+1) b r1 r2 c d f g)(k:Bl w w9)(a:Int)(act:Act)
  (l:act.tmps.getD 6 undef=J2 (some ⟨w.heap.size+1,0,none⟩)) (m:act.tmps.getD 7 undef=J I a) (hd:act.defers=[]) :
  bodyPost prog f142 (fun e w'=>e=.returned (.tuple #[J4 #[J I b,J I r1,J I r2,J I c,J I d,J I f,J I g],J I a])/\Bl w w') Exit.ret act w9:=by
 obtain⟨n,u1,u2,o,p,q,r⟩:=j.cells;have h:act.tmps[6]?.getD undef=J2 (some ⟨w.heap.size+1,0,none⟩):=by simpa using l
 have i:act.tmps[7]?.getD undef=J I a:=by simpa using m
 exact bodyPost_ret (v:=.tuple #[J4 #[J I b,J I r1,J I r2,J I c,J I d,J I f,J I g],J I a]) (by simp[results,results142,go_sem,h,i,n,u1,u2,o,p,q,r]) hd ⟨rfl,k⟩
theorem q0X(f0 f1 f2 f3 bo wa bu n m p r1 r2 q r s t c u v x y z A B l L M N P Q R S T:Int)(w:World)
  (d:(c≠0/\f0=L/\f1=M/\f2=N/\f3=P/\bo=Q/\wa=R/\bu=S/\c=T)∨(c=0/\l≠0/\f0=L/\f1=M/\f2=N/\f3=P/\bo=Q/\wa=R/\bu=S/\l=T)∨(c=0/\l=0/\u=L/\v=M/\x=N/\y=P/\z=Q/\A=R/\B=S/\0=T))
  (C:∀ w:World,Calls prog 143 #[J4 #[J I f0,J I f1,J I f2,J I f3,J I bo,J I wa,J I bu],J I 4,J I 6,J I n] w fun e w'=>e=.returned (.tuple #[J4 #[J I p,J I r1,J I r2,J I q,J I r,J I s,J I t],J I c])/\Bl w w')
  (D:∀ w:World,Calls prog 143 #[J4 #[J I p,J I r1,J I r2,J I q,J I r,J I s,J I t],J I 5,J I 6,J I m] w fun e w'=>e=.returned (.tuple #[J4 #[J I u,J I v,J I x,J I y,J I z,J I A,J I B],J I l])/\Bl w w') :
  Calls prog 142 #[J4 #[J I f0,J I f1,J I f2,J I f3,J I bo,J I wa,J I bu],J I n,J I m] w
   fun e w'=>e=.returned (.tuple #[J4 #[J I L,J I M,J I N,J I P,J I Q,J I R,J I S],J I T])/\Bl w w':=by
 go_enter func142,ntmps142
 go_wp2_with fail
 have R0:BAt ((w.alloc (J5 #[J I f0,J I f1,J I f2,J I f3,J I bo,J I wa,J I bu] 24)).alloc (J5 #[J I 0,J I 0,J I 0,J I 0,J I 0,J I 0,J I 0] 24)) (w.heap.size+1) 0 0 0 0 0 0 0:=by
  have:=BAt.new (w.alloc (J5 #[J I f0,J I f1,J I f2,J I f3,J I bo,J I wa,J I bu] 24)) 0 0 0 0 0 0 0
  simpa using this
 have U:=((BAt.new w f0 f1 f2 f3 bo wa bu).alloc (J5 #[J I 0,J I 0,J I 0,J I 0,J I 0,J I 0,J I 0] 24));have HB:Hid (Bl w ((w.alloc (J5 #[J I f0,J I f1,J I f2,J I f3,J I bo,J I wa,J I bu] 24)).alloc (J5 #[J I 0,J I 0,J I 0,J I 0,J I 0,J I 0,J I 0] 24))):=((znw w _).alloc (by simp) _)
 generalize (w.alloc (J5 #[J I f0,J I f1,J I f2,J I f3,J I bo,J I wa,J I bu] 24)).alloc (J5 #[J I 0,J I 0,J I 0,J I 0,J I 0,J I 0,J I 0] 24)=w0 at *;obtain⟨V,W,X,Y,Z,x5,x6⟩:=U.cells;have g:w.heap.size<w0.heap.size:=U.lt;have E:w.heap.size+1<w0.heap.size:=R0.lt;refine (C _).mono ?_;rintro e w1⟨rfl,h1⟩;have B1:=U.later h1 g;have F:=R0.later h1 E;have i:Hid (Bl w w1):=HB.out.trans (h1.mono (Nat.le_of_lt g));have a0:w.heap.size<w1.heap.size:=B1.lt;have a4:w.heap.size+1<w1.heap.size:=F.lt;clear U R0 h1 HB g E V W X Y Z x5 x6 C;obtain⟨V,W,X,Y,Z,x5,x6⟩:=B1.cells;obtain⟨u0,u1,u2,u3,u4,u5,u6⟩:=F.frees;obtain⟨v0,v1,v2,v3,v4,v5,v6⟩:=F.cells;have j:Hid (BAt w1 (w.heap.size+1) 0 0 0 0 0 0 0):=F;have G:Hid (BAt w1 w.heap.size f0 f1 f2 f3 bo wa bu):=B1;clear F B1
 by_cases a:c=0
 ·subst a
  go_wp2_with fail
  refine (D _).mono ?_;rintro e H⟨rfl,h2⟩;have B2:=(G.out.alloc (J5 #[J I p,J I r1,J I r2,J I q,J I r,J I s,J I t] 24)).later h2 (by simp;omega)
  have o:=(j.out.alloc (J5 #[J I p,J I r1,J I r2,J I q,J I r,J I s,J I t] 24)).later h2 (by simp;omega)
  have H2:=(BAt.new w1 p r1 r2 q r s t).later h2 (by simp)
  have K:Hid (Bl w H):=(i.out.alloc (Nat.le_of_lt a0) _).trans (h2.mono (by simp;omega))
  clear h2 i G j V W X Y Z x5 x6 u0 u1 u2 u3 u4 u5 u6 v0 v1 v2 v3 v4 v5 v6 D;obtain⟨u0,u1,u2,u3,u4,u5,u6⟩:=o.frees;obtain⟨v0,v1,v2,v3,v4,v5,v6⟩:=o.cells;obtain⟨y0,y1,y2,y3,y4,y5,y6⟩:=H2.frees;obtain⟨z0,z1,z2,z3,z4,z5,z6⟩:=H2.cells;have a1:¬ w1.heap.size=w.heap.size:=by omega
  have a2:¬ w1.heap.size=w.heap.size+1:=by omega
  have a3:¬ w.heap.size=w1.heap.size:=by omega
  have f:¬ w.heap.size+1=w1.heap.size:=by omega
  rcases d with⟨h,_⟩ | ⟨_,h,rfl,rfl,rfl,rfl,rfl,rfl,rfl,rfl⟩ | ⟨_,rfl,rfl,rfl,rfl,rfl,rfl,rfl,rfl,rfl⟩
  ·exact absurd rfl h
  ·have hb:(l != 0)=true:=by simpa using h
   obtain⟨V,W,X,Y,Z,x5,x6⟩:=B2.cells;have k:Hid (BAt H (w.heap.size+1) 0 0 0 0 0 0 0):=o;clear B2 H2 o;go_wp2;exact z5q (w9:=z2C (z2C H w1.heap.size u v x y z A B) (w.heap.size+1) f0 f1 f2 f3 bo wa bu) ((k.out.q6P f _ _ _ _ _ _ _).z2C _ _ _ _ _ _ _) (z0G (z0G K.out (by omega) _ _ _ _ _ _ _) (by omega) _ _ _ _ _ _ _) l _ rfl rfl rfl
  ·have k:Hid (BAt H (w.heap.size+1) 0 0 0 0 0 0 0):=o;clear B2 H2 o;go_wp2;exact z5q (w9:=z2C (z2C H w1.heap.size u v x y z A B) (w.heap.size+1) u v x y z A B) ((k.out.q6P f _ _ _ _ _ _ _).z2C _ _ _ _ _ _ _) (z0G (z0G K.out (by omega) _ _ _ _ _ _ _) (by omega) _ _ _ _ _ _ _) 0 _ rfl rfl rfl
 ·have hb:(c != 0)=true:=by simpa using a
  rcases d with⟨_,rfl,rfl,rfl,rfl,rfl,rfl,rfl,rfl⟩ | ⟨h,_⟩ | ⟨h,_⟩
  ·go_wp2;exact z5q (w9:=(z2C w1 (w.heap.size+1) f0 f1 f2 f3 bo wa bu).alloc _) ((j.out.z2C f0 f1 f2 f3 bo wa bu).alloc _) (let h:=z0G (b:=w.heap.size+1) i.out (by omega) f0 f1 f2 f3 bo wa bu;h.alloc h.size _) c _ rfl rfl rfl
  ·exact absurd h a
  ·exact absurd h a
end
end Go.Proofs.YtjghbciepinofaaGreat
