/- Parts of the proof. -/
import Derived.Test.YtddlhnoedldidaaGreatML
import Derived.Test.YtddlhnoedldidaaGreatMK15
import Derived.WalkSpells
import Derived.WalkLawsBesides
set_option maxRecDepth 100000
set_option maxHeartbeats 16000000
namespace Go.Proofs.YtddlhnoedldidaaGreat
open Go.Proofs.Tryz
open Value renaming int->J,slice->J1,pointer->J2,bool->J3,agg->J4
open IntKind renaming i64->I
open Obj renaming cells->J5
namespace Cd
open Go.RowKit
def z1d(w:World)(b off:Nat)(l:List Int):Prop:=∀ i,i<l.length->w.cell? ⟨b,off+i,none⟩=some (J I (l.getD i 0))
def z4Y(w:World)(b off:Nat)(l:List (Int×Int)):Prop:=∀ i,i<l.length->w.cell? ⟨b,off+i * 2,none⟩=some (J I (l.getD i (0,0)).1)/\w.cell? ⟨b,off+i * 2+1,none⟩=some (J I (l.getD i (0,0)).2)
theorem z1d.later{w w':World}{b off:Nat}{l:List Int}(h:z1d w b off l)(hb:Bl w w'):z1d w' b off l:=fun i a =>
  (hb.cell (p:=⟨b,off+i,none⟩) (World.block_lt_of_cell? w _ (h i a))).trans (h i a)
theorem z4Y.later{w w':World}{b off:Nat}{l:List (Int×Int)}(h:z4Y w b off l)(hb:Bl w w'):z4Y w' b off l:=fun i a =>
  ⟨(hb.cell (p:=⟨b,off+i * 2,none⟩) (World.block_lt_of_cell? w _ (h i a).1)).trans (h i a).1,(hb.cell (p:=⟨b,off+i * 2+1,none⟩) (World.block_lt_of_cell? w _ (h i a).2)).trans (h i a).2⟩
theorem z0u(w:World)(o:Obj):Bl w (w.alloc o):=znw _ o
theorem q4r{W w1:World}(hb:Bl W w1):(∀ b o,b<W.heap.size->w1.cell? ⟨b,o,none⟩=W.cell? ⟨b,o,none⟩)/\(∀ b o,b<W.heap.size->w1.frozen? ⟨b,o,none⟩=W.frozen? ⟨b,o,none⟩):=
  ⟨fun b o h=>hb.cell (p:=⟨b,o,none⟩) h,fun b o h=>hb.frozen (p:=⟨b,o,none⟩) h⟩
theorem z2x{w w':World}{o:Obj}(h:Below (w.alloc o).heap.size (w.alloc o) w'):Bl w w':=
  (z0u w o).trans (h.mono (by simp))
theorem z1N{w w1 a:World}(h:Bl w w1)(k:Bl w1 a):Bl w a:=zbt h k
def isV(v:Int):Bool:=decide (0<=v/\v<6)
theorem j4W{v:Int}(h:0<=v)(h2:v<6):isV v=true:=by simp[isV];omega
theorem q7h{v:Int}(h:¬ (0<=v/\v<6)):isV v=false:=by simp[isV];omega
theorem z3R(v:Int)(w:World) :
    Calls prog 48 #[J I v] w fun e w'=>e=.returned (J3 (isV v))/\w=w':=by
  by_cases h:0<=v
  · by_cases h2:v<6
    · rw[j4W h h2]
      go_enter func48,ntmps48
      go_wp2;go_ret;exact⟨rfl,rfl⟩
    · rw[q7h (by omega)]
      go_enter func48,ntmps48
      go_wp2;go_ret;exact⟨rfl,rfl⟩
  · rw[q7h (by omega)]
    go_enter func48,ntmps48
    go_wp2;go_ret;exact⟨rfl,rfl⟩
def z0l(last:Int):List Int->Bool
  | []=>true
  | v :: t=>decide (last<v) && isV v && z0l v t
theorem q4K(l:List Int)(k:Nat)(h:k<l.length)(last:Int) :
    z0l last (l.drop k)=(decide (last<l.getD k 0) && isV (l.getD k 0) && z0l (l.getD k 0) (l.drop (k+1))):=by
  rw[List.drop_eq_getElem_cons h,z0l]
  simp[List.getD,h]
theorem q8G(l:List Int)(a:Option Addr)(c b off:Nat)(w:World)(d:l.length<=maxLen)(j:0<l.length->a=some ⟨b,off,none⟩)
    (hc:z1d w b off l) :
    Calls prog 51 #[J1 a l.length c] w fun e w'=>e=.returned (J3 (z0l (-1) l))/\w=w':=by
  unfold maxLen at d;have n:Hid (∀ i,i<l.length->w.cell? ⟨b,off+i,none⟩=some (J I (l.getD i 0))):=hc;have o:Hid (0<l.length->a=some ⟨b,off,none⟩):=j;clear hc j
  go_enter func51,ntmps51
  go_wp2
  go_loop [3,8] (fun last i=>∃ (k:Nat) (x:Int),k<=l.length/\i=J I k/\last=J I x/\Hid (z0l (-1) l=z0l x (l.drop k))) (fun _ i=>l.length - (intOf i).toNat)
  case atStart=>exact⟨0,-1,Nat.zero_le _,rfl,rfl,by simp[Hid]⟩
  case round =>
    obtain⟨k,x,p,rfl,rfl,g⟩:=hrel
    by_cases f:k<l.length
    · have hcell:=n.out k f
      have hd:=q4K l k f x;obtain⟨y,m⟩:∃ y,l.getD k 0=y:=⟨_,rfl⟩;rw[m]at hcell hd;have e:=o.out (by omega)
      subst e;have h:Hid (z0l x (l.drop k)=(decide (x<y) && isV y && z0l y (l.drop (k+1)))):=hd;clear hd m
      by_cases h1:y<=x
      · go_wp2_with (go_at_call 48;refine (z3R _ _).mono ?_;rintro e w'⟨rfl,rfl⟩)
        go_ret;refine⟨?_,rfl⟩;rw[g.out,h.out];have:decide (x<y)=false:=by simp;omega
        simp[this]
      · by_cases h2:isV y=true
        · go_wp2_with (go_at_call 48;refine (z3R _ _).mono ?_;rintro e w'⟨rfl,rfl⟩)
          go_round
          case rel =>
            refine⟨k+1,y,by omega,by go_num,rfl,?_⟩
            have:decide (x<y)=true:=by simp;omega
            show _=_
            rw[g.out,h.out,this,h2];simp
          case measure=>simp[intOf];omega
        · have h2:isV y=false:=by simpa using h2
          go_wp2_with (go_at_call 48;refine (z3R _ _).mono ?_;rintro e w'⟨rfl,rfl⟩)
          go_ret;refine⟨?_,rfl⟩;rw[g.out,h.out,h2];simp
    · go_wp2
      go_ret;refine⟨?_,rfl⟩;rw[g.out,List.drop_of_length_le (by omega)];rfl
def z0e(last:Int):List (Int×Int)->Bool
  | []=>true
  | p :: t=>decide (last<p.1) && isV p.1 && decide (0<=p.2) && decide (p.2<=1125899906842624) && z0e p.1 t
theorem q1V(l:List (Int×Int))(k:Nat)(h:k<l.length)(last:Int) :
    z0e last (l.drop k)=(decide (last<(l.getD k (0,0)).1) && isV (l.getD k (0,0)).1 && decide (0<=(l.getD k (0,0)).2) && decide ((l.getD k (0,0)).2<=1125899906842624) && z0e (l.getD k (0,0)).1 (l.drop (k+1))):=by
  rw[List.drop_eq_getElem_cons h,z0e]
  simp[List.getD,h]
theorem q4b(l:List (Int×Int))(a:Option Addr)(c b off:Nat)(w:World)(n:l.length<=maxLen)(s:0<l.length->a=some ⟨b,off,none⟩)
    (hc:z4Y w b off l) :
    Calls prog 50 #[J1 a l.length c] w fun e w'=>e=.returned (J3 (z0e (-1) l))/\Bl w w':=by
  unfold maxLen at n;have A:Hid (∀ i,i<l.length->w.cell? ⟨b,off+i * 2,none⟩=some (J I (l.getD i (0,0)).1)/\w.cell? ⟨b,off+i * 2+1,none⟩=some (J I (l.getD i (0,0)).2)):=hc;have B:Hid (0<l.length->a=some ⟨b,off,none⟩):=s;clear hc s
  go_enter func50,ntmps50
  go_wp2
  go_loopw [3,8] (fun last i wl=>∃ (k:Nat) (x:Int),k<=l.length/\i=J I k/\last=J I x/\Hid (z0e (-1) l=z0e x (l.drop k))/\Hid (Bl w wl)) (fun _ i _=>l.length - (intOf i).toNat)
  case atStart=>exact⟨0,-1,Nat.zero_le _,rfl,rfl,by simp[Hid],Below.refl _ _⟩
  case round =>
    obtain⟨k,x,F,rfl,rfl,m,g⟩:=hrel
    by_cases o:k<l.length
    · have hcell:=A.out k o
      have hd:=q1V l k o x;obtain⟨y,t⟩:∃ y,l.getD k (0,0)=y:=⟨_,rfl⟩;rw[t]at hcell hd;obtain⟨y,z⟩:=y;have e:=B.out (by omega)
      subst e;have q:Hid (z0e x (l.drop k)=(decide (x<y) && isV y && decide (0<=z) && decide (z<=1125899906842624) && z0e y (l.drop (k+1)))):=hd;clear hd t;obtain⟨h,j⟩:=hcell;dsimp only at h j;have r:b<w.heap.size:=World.block_lt_of_cell? w _ h;have u:wr.cell? ⟨b,off+k * 2,none⟩=some (J I y):=(g.out.cell (p:=⟨b,off+k * 2,none⟩) r).trans h;have v:wr.cell? ⟨b,off+k * 2+1,none⟩=some (J I z):=(g.out.cell (p:=⟨b,off+k * 2+1,none⟩) r).trans j;clear h j;have d:=g.out.size
      by_cases h1:y<=x
      · have f:decide (x<y)=false:=by simp;omega
        have E:Hid (z0e x (l.drop k)=false):=by show _=_;rw[q.out,f];simp
        clear f
        go_wp2_with (go_at_call 48;refine (z3R _ _).mono ?_;rintro e w'⟨rfl,rfl⟩)
        go_ret;refine⟨?_,?_⟩
        · rw[m.out,E.out];simp
        · exact g.out.alloc d _
      by_cases h2:isV y=true
      · by_cases h3:z<0
        · have f:decide (0<=z)=false:=by simp;omega
          have E:Hid (z0e x (l.drop k)=false):=by show _=_;rw[q.out,f];simp
          clear f
          go_wp2_with (go_at_call 48;refine (z3R _ _).mono ?_;rintro e w'⟨rfl,rfl⟩)
          go_ret;refine⟨?_,?_⟩
          · rw[m.out,E.out];simp
          · exact g.out.alloc d _
        by_cases G:1125899906842624<z
        · have f:decide (z<=1125899906842624)=false:=by simp;omega
          have E:Hid (z0e x (l.drop k)=false):=by show _=_;rw[q.out,f];simp
          clear f
          go_wp2_with (go_at_call 48;refine (z3R _ _).mono ?_;rintro e w'⟨rfl,rfl⟩)
          go_ret;refine⟨?_,?_⟩
          · rw[m.out,E.out];simp
          · exact g.out.alloc d _
        · have E:Hid (z0e x (l.drop k)=z0e y (l.drop (k+1))):=by
            show _=_
            have C:decide (x<y)=true:=by simp;omega
            have f:decide (0<=z)=true:=by simp;omega
            have D:decide (z<=1125899906842624)=true:=by simp;omega
            rw[q.out,C,f,D,h2];simp
          go_wp2_with (go_at_call 48;refine (z3R _ _).mono ?_;rintro e w'⟨rfl,rfl⟩)
          go_roundw
          case rel=>exact⟨k+1,y,by omega,by go_num,rfl,m.out.trans E.out,g.out.alloc d _⟩
          case measure=>simp[intOf];omega
      · have h2:isV y=false:=by simpa using h2
        have E:Hid (z0e x (l.drop k)=false):=by show _=_;rw[q.out,h2];simp
        go_wp2_with (go_at_call 48;refine (z3R _ _).mono ?_;rintro e w'⟨rfl,rfl⟩)
        go_ret;refine⟨?_,?_⟩
        · rw[m.out,E.out];simp
        · exact g.out.alloc d _
    · go_wp2
      go_ret;refine⟨?_,g.out⟩;rw[m.out,List.drop_of_length_le (by omega)];rfl
def z6E(k:Int):Bool:=k == 3 || k == 4
theorem q3F{k:Int}(h:k=3∨k=4):z6E k=true:=by simp[z6E];omega
theorem q9W{k:Int}(h:k≠3)(h2:k≠4):z6E k=false:=by simp[z6E];omega
theorem q6s(k i v n:Int)(s d:Value)(w:World) :
    Calls prog 47 #[J4 #[J I k,J I i,J I v,J I n,s,d]] w fun e w'=>e=.returned (J3 (z6E k))/\Bl w w':=by
  by_cases h:k=3
  · subst h
    rw[q3F (by omega)]
    go_enter func47,ntmps47
    go_wp2;go_ret;exact⟨rfl,znw _ _⟩
  have h3:(k == 3)=false:=by simpa using h
  by_cases a:k=4
  · subst a
    rw[q3F (by omega)]
    go_enter func47,ntmps47
    go_wp2;go_ret;exact⟨rfl,znw _ _⟩
  have b:(k == 4)=false:=by simpa using a
  rw[q9W h a];clear h a
  go_enter func47,ntmps47
  go_wp2;go_ret;exact⟨rfl,znw _ _⟩
def z9h(k v n:Int)(a b:Nat):Bool:=(!(z6E k) && (v != 0 || n != 0)) || (k != 1 && ((a:Int) != 0 || (b:Int) != 0))
theorem q5B(k v n:Int)(a b:Nat) :
    (z6E k=false/\(v != 0)=true/\z9h k v n a b=true)∨(z6E k=false/\(v != 0)=false/\(n != 0)=true/\z9h k v n a b=true) ∨
    (((z6E k=false/\(v != 0)=false/\(n != 0)=false)∨z6E k=true) /\
      ((k != 1)=false/\z9h k v n a b=false∨(k != 1)=true/\((a:Int) != 0)=true/\z9h k v n a b=true ∨
       (k != 1)=true/\((a:Int) != 0)=false/\((b:Int) != 0)=true/\z9h k v n a b=true ∨
       (k != 1)=true/\((a:Int) != 0)=false/\((b:Int) != 0)=false/\z9h k v n a b=false)):=by
  unfold z9h;cases z6E k <;> cases (v != 0) <;> cases (n != 0) <;> cases (k != 1) <;> cases ((a:Int) != 0) <;> cases ((b:Int) != 0) <;> simp
theorem j4D(k i v n:Int)(sa da:Option Addr)(a cs b cd:Nat)(w:World) :
    Calls prog 49 #[J4 #[J I k,J I i,J I v,J I n,J1 sa a cs,J1 da b cd]] w fun e w'=>e=.returned (J3 (z9h k v n a b))/\Bl w w':=by
  have c:=q5B k v n a b;generalize z9h k v n a b=F at *
  rcases c with⟨hacc,hv,rfl⟩ | ⟨hacc,hv,hn,rfl⟩ | ⟨⟨hacc,hv,hn⟩ | hacc,⟨hk,rfl⟩ | ⟨hk,hs,rfl⟩ | ⟨hk,hs,hd,rfl⟩ | ⟨hk,hs,hd,rfl⟩⟩
  all_goals go_enter func49,ntmps49
  all_goals go_wp2_with (go_at_call 47;refine (q6s _ _ _ _ _ _ _).mono ?_;rintro e w'⟨rfl,hb⟩;obtain⟨hc,f⟩:=q4r hb;have g:w.heap.size+1<=w'.heap.size:=(by have:=hb.size;simp at this;omega);have d:Hid (Below _ _ w'):=hb;clear hb)
  all_goals go_ret
  all_goals exact⟨rfl,z2x d.out⟩
def z0s(k i v n:Int)(S:List (Int×Int))(D:List Int):Int:=
  if k<1∨4<k then 3 else if i<1∨1099511627776<i then 2
  else if z6E k=true/\(isV v=false∨n<1∨1125899906842624<n) then 2
  else if z9h k v n S.length D.length=true then 1
  else if z0e (-1) S=false∨z0l (-1) D=false then 2 else 0
theorem z7C(k i v n:Int)(S:List (Int×Int))(D:List Int) :
    (k<1/\z0s k i v n S D=3)∨(1<=k/\4<k/\z0s k i v n S D=3) ∨
    (1<=k/\k<=4 /\
      ((i<1/\z0s k i v n S D=2)∨(1<=i/\1099511627776<i/\z0s k i v n S D=2) ∨
       (1<=i/\i<=1099511627776 /\
        ((z6E k=true/\isV v=false/\z0s k i v n S D=2)∨(z6E k=true/\isV v=true/\n<1/\z0s k i v n S D=2) ∨
         (z6E k=true/\isV v=true/\1<=n/\1125899906842624<n/\z0s k i v n S D=2) ∨
         (((z6E k=true/\isV v=true/\1<=n/\n<=1125899906842624)∨z6E k=false) /\
          ((z9h k v n S.length D.length=true/\z0s k i v n S D=1) ∨
           (z9h k v n S.length D.length=false/\z0e (-1) S=false/\z0s k i v n S D=2) ∨
           (z9h k v n S.length D.length=false/\z0e (-1) S=true/\z0l (-1) D=false/\z0s k i v n S D=2) ∨
           (z9h k v n S.length D.length=false/\z0e (-1) S=true/\z0l (-1) D=true/\z0s k i v n S D=0))))))):=by
  unfold z0s;generalize z9h k v n S.length D.length=f;generalize z0e (-1) S=p;generalize z0l (-1) D=r;generalize z6E k=a;generalize isV v=x
  rcases Int.lt_or_le k 1 with h | h
  · left;exact⟨h,by rw[if_pos (Or.inl h)]⟩
  right
  rcases Int.lt_or_le 4 k with d | d
  · left;exact⟨h,d,by rw[if_pos (Or.inr d)]⟩
  right
  rw[if_neg (by omega)]
  refine⟨h,d,?_⟩
  rcases Int.lt_or_le i 1 with c | c
  · left;exact⟨c,by rw[if_pos (Or.inl c)]⟩
  right
  rcases Int.lt_or_le 1099511627776 i with b | b
  · left;exact⟨c,b,by rw[if_pos (Or.inr b)]⟩
  right
  rw[if_neg (by omega)]
  refine⟨c,b,?_⟩
  rcases Int.lt_or_le n 1 with g | g
  all_goals rcases Int.lt_or_le 1125899906842624 n with e | e
  all_goals first | (exfalso;omega) | skip
  all_goals cases a <;> cases x <;> cases f <;> cases p <;> cases r <;> simp_all
  all_goals omega
theorem z0o(k i v n:Int)(S:List (Int×Int))(D:List Int)(sa da:Option Addr)(cs cd sb so db dO:Nat)(w:World)
    (hls:S.length<=maxLen) (hld:D.length<=maxLen) (hsa:0<S.length->sa=some ⟨sb,so,none⟩) (hda:0<D.length->da=some ⟨db,dO,none⟩) (PS:z4Y w sb so S) (PD:z1d w db dO D) :
    Calls prog 29 #[J4 #[J I k,J I i,J I v,J I n,J1 sa S.length cs,J1 da D.length cd]] w fun e w'=>e=.returned (J I (z0s k i v n S D))/\Bl w w':=by
  have h:Hid (S.length<=maxLen):=hls;have j:Hid (D.length<=maxLen):=hld;have l:Hid (0<S.length->sa=some ⟨sb,so,none⟩):=hsa;have m:Hid (0<D.length->da=some ⟨db,dO,none⟩):=hda;clear hls hld hsa hda;have o:=z7C k i v n S D;generalize z0s k i v n S D=G at *
  rcases o with⟨h1,rfl⟩ | ⟨h1,h2,rfl⟩ | ⟨h1,h2,⟨h3,rfl⟩ | ⟨h3,h4,rfl⟩ | ⟨h3,h4,⟨h5,h6,rfl⟩ | ⟨h5,h6,h7,rfl⟩ | ⟨h5,h6,h7,h8,rfl⟩ | ⟨⟨h5,h6,h7,h8⟩ | h5,⟨h9,rfl⟩ | ⟨h9,h10,rfl⟩ | ⟨h9,h10,h11,rfl⟩ | ⟨h9,h10,h11,rfl⟩⟩⟩⟩
  all_goals go_enter func29,ntmps29
  all_goals go_wp2_with (first
    | (go_at_call 47;refine (q6s _ _ _ _ _ _ _).mono ?_;rintro e w1⟨rfl,hb⟩
       have c:=(PS.later (z0u _ _)).later hb;have d:=(PD.later (z0u _ _)).later hb;obtain⟨hc,C⟩:=q4r hb;have u:w.heap.size<w1.heap.size:=(by have:=hb.size;simp at this;omega)
       have a:Hid (Bl w w1):=z2x hb
       clear hb PS PD)
    | (go_at_call 48;refine (z3R _ _).mono ?_;rintro e w'⟨rfl,rfl⟩)
    | (go_at_call 49;refine (j4D _ _ _ _ _ _ _ _ _ _ _).mono ?_;rintro e s⟨rfl,hb⟩
       have f:=c.later hb;have g:=d.later hb;obtain⟨x,y⟩:=q4r hb;have p:w.heap.size<s.heap.size:=Nat.lt_of_lt_of_le u hb.size;have b:Hid (Bl w s):=z1N a.out hb
       clear hb c d a)
    | (go_at_call 50;refine (q4b S sa cs sb so _ h.out l.out f).mono ?_;rintro e t⟨rfl,hb⟩
       have q:=g.later hb;obtain⟨z,A⟩:=q4r hb;have B:w.heap.size<t.heap.size:=Nat.lt_of_lt_of_le p hb.size;have r:Hid (Bl w t):=z1N b.out hb
       clear hb f g b)
    | (go_at_call 51;refine (q8G D da cd db dO _ j.out m.out q).mono ?_;rintro e w'⟨rfl,rfl⟩))
  all_goals go_ret
  all_goals refine⟨rfl,?_⟩
  all_goals first | exact r.out | exact b.out | exact a.out | exact z0u _ _
theorem info5:(prog.info? 5).map (fun i=>(i.zero,i.size,i.bytes))=some (some (.int .u8 0),1,1):=by kernel_rfl
def be(n:Int):Nat->List Int
 | 0=>[]
 | m+1=>(n / 2 ^ (8 * m)) % 256 :: be n m
theorem z1I(n:Int)(m:Nat):(be n m).length=m:=by
 induction m with
 | zero=>rfl
 | succ m ih=>simp[be,ih]
def Row(w:World)(B:Nat)(v:Value)(a:List Int):Prop:=w.ownsRow B 5 1 v a.length (a.map (Value.int .u8))
def At(w:World)(v v':Value):Prop:=v'.ownBlock=v.ownBlock∨∃ k,v'.ownBlock=some k/\w.heap.size<=k
theorem q1S{w w1 b:World}{v v1:Value}(h:w.grownBy w1 v.ownBlock)(d:At w v v1)(k:w1.grownBy b v1.ownBlock):w.grownBy b v.ownBlock:=by
 refine⟨k.os.trans h.os,k.tape.trans h.tape,k.output.trans h.output,Nat.le_trans h.size k.size,fun i c a=>?_⟩;rw[k.block i (Nat.lt_of_lt_of_le c h.size) ?_,h.block i c a]
 rcases d with e | ⟨j,e,f⟩
 ·rw[e];exact a
 ·rw[e];intro h;cases h;omega
theorem q4t(w:World)(r:Option Nat):w.grownBy w r:=⟨rfl,rfl,rfl,Nat.le_refl _,fun _ _ _=>rfl⟩
theorem At.trans{w w1:World}{v v1 v2:Value}(c:w.heap.size<=w1.heap.size)(h:At w v v1)(k:At w1 v1 v2):At w v v2:=by
 rcases k with e | ⟨j,e,a⟩
 ·rcases h with b | ⟨j,b,a⟩
  ·exact .inl (e.trans b)
  ·exact .inr ⟨j,e.trans b,a⟩
 ·exact .inr ⟨j,e,Nat.le_trans c a⟩
theorem q2v{w b:World}{o:Obj}{r:Option Nat}(k:(w.alloc o).grownBy b r):w.grownBy b r:=
 ⟨k.os,k.tape,k.output,Nat.le_trans (by simp) k.size,fun i c a=>(k.block i (by simp;omega) a).trans (Below.heap_alloc _ _ _ c)⟩
theorem z7i(B:Nat)(v:Value)(j:List Int)(n:Int)(d:Nat)(w:World)(hown:Row w B v j)(x:d<=7)(s:j.length+d<=1000000)(y:B<=w.heap.size) :
  Calls prog 157 #[v,J I n,J I d] w fun e w'=>∃ v',e=.returned v'/\Row w' B v' (j ++ be n d)/\w.grownBy w' v.ownBlock/\At w v v':=by
 obtain⟨i0,z,o,p,q⟩:=info_parts info5
 go_enter func157,ntmps157
 go_wp2
 go_loopw [0,7] (fun u i wl=>∃ (m:Nat) (k:List Int),m<=d/\i=J I ((m:Int) - 1)/\Hid (k ++ be n m=j ++ be n d)/\Row wl B u k/\Hid (w.grownBy wl v.ownBlock/\At w v u)) (fun _ i _=>(intOf i+1).toNat)
 case atStart=>exact⟨d,j,Nat.le_refl _,rfl,rfl,hown,q4t _ _,.inl rfl⟩
 case round =>
  obtain⟨m,k,D,rfl,g,a,f⟩:=hrel;clear hown
  match m,g with
  | 0,g =>
   go_wp2;go_ret;have t:=g.out;simp only[be,List.append_nil]at t;subst t;exact⟨_,rfl,a,f.out.1,f.out.2⟩
  | m+1,g =>
   have E:k.length<=1000000:=by
    have h1:=congrArg List.length g.out;simp only[List.length_append,z1I]at h1;omega
   have A:B<=wr.heap.size:=Nat.le_trans y f.out.1.size
   go_wp2_with (at_builtin;refine wpList_append_own_at _ rfl _ _ 233 rfl B 5 i0 (.int .u8 0) 1 1 underlying233 z o p q rfl (by decide) _ _ _ rfl (World.ownsRow.alloc a _) ⟨wr.heap.size,0,none⟩ 1 1 [.int .u8 (n / 2 ^ (8 * m) % 256)] rfl rfl (cell_one_new _ _ _) (by intro u hu;simp at hu;subst hu;rfl) (by unfold maxLen;omega) (by omega) (by simp;omega) ?_;intro v' w1 b c _ l)
   have C:Hid (Row w1 B v' (k ++ [n / 2 ^ (8 * m) % 256])):=by simpa [Hid,Row] using b
   have r:Hid (w.grownBy w1 v.ownBlock/\At w v v'):=by
    refine⟨q1S f.out.1 f.out.2 (q2v c),f.out.2.trans f.out.1.size ?_⟩
    rcases l with h | h
    ·exact .inl h
    ·exact .inr ⟨_,h,by simp⟩
   clear b c a l;go_wp2;go_roundw
   case rel=>exact⟨m,_,by omega,by go_num,by show _=_;rw[<- g.out];simp[be],C.out,r⟩
   case measure=>simp[intOf]
end Cd
section
def z1u(f0 f1 f2 f3 bo wa bu:Int):Bool:=decide ((0<=f0/\f0<=400000)/\(0<=f1/\f1<=400000)/\(0<=f2/\f2<=400000)/\(0<=f3/\f3<=400000)/\(0<=bo/\bo<=400000)/\(0<=wa/\wa<=400000)/\(0<=bu/\bu<=400000)/\f0+f1+f2+f3+bo+wa+bu=400000)
structure Bk where
 f0:Int
 f1:Int
 f2:Int
 f3:Int
 bo:Int
 wa:Int
 bu:Int
def Bk.good(b:Bk):Bool:=z1u b.f0 b.f1 b.f2 b.f3 b.bo b.wa b.bu
def Bk.get(b:Bk):Nat->Int
 | 0=>b.f0
 | 1=>b.f1
 | 2=>b.f2
 | 3=>b.f3
 | 4=>b.bo
 | 5=>b.wa
 | _=>b.bu
def Bk.put(b:Bk)(k:Nat)(x:Int):Bk:=
 match k with
 | 0=>{ b with f0:=x }
 | 1=>{ b with f1:=x }
 | 2=>{ b with f2:=x }
 | 3=>{ b with f3:=x }
 | 4=>{ b with bo:=x }
 | 5=>{ b with wa:=x }
 | _=>{ b with bu:=x }
def mv(b:Bk)(f t:Nat)(n:Int):Bk×Int:=
 if b.good=false∨¬ (0<=n/\n<=1125899906842624) then (b,2) else if b.get f<n then (b,7) else ((b.put f (b.get f - n)).put t (b.get t+n),0)
def z2n(b:Bk)(d n:Int):Bk×Int:=if 0<=d/\d<4 then mv b d.toNat 4 n else (b,4)
def z0X(b:Bk)(n:Int):Bk×Int:=mv b 4 5 n
def z8c(b:Bk)(d n:Int):Bk×Int:=if 0<=d/\d<4 then mv b 5 d.toNat n else (b,4)
def z2w(b:Bk)(x y:Int):Bk×Int:=
 if (mv b 4 6 x).2=0 then if (mv (mv b 4 6 x).1 5 6 y).2=0 then ((mv (mv b 4 6 x).1 5 6 y).1,0) else (b,(mv (mv b 4 6 x).1 5 6 y).2) else (b,(mv b 4 6 x).2)
end
section
structure Vd where
 tok:Int
 sh:Int
 lost:Int
 jail:Bool
 dead:Bool
structure Wt where
 num:Int
 d:Int
 v:Int
 amt:Int
 hei:Int
 due:Int
 h0:Int
 h1:Int
structure St where
 b:Bk
 V:Nat->Vd
 S:Nat->Nat->Int
 W:List Wt
 next:Int
def inA(n:Int):Bool:=decide (0<=n/\n<=1125899906842624)
def isV(v:Int):Bool:=decide (0<=v/\v<6)
def isD(d:Int):Bool:=decide (0<=d/\d<4)
def vOk(x:Vd):Bool:=inA x.tok && inA x.sh && inA x.lost && !(decide (0<x.tok) && decide (x.sh=0)) && (x.jail || !x.dead)
def psh(S:Nat->Nat->Int)(v:Nat):Nat->Int
 | 0=>0
 | j+1=>psh S v j+S j v
def z3f(S:Nat->Nat->Int)(v:Nat):Nat->Bool
 | 0=>true
 | j+1=>z3f S v j && inA (S j v)
def q4S(S:Nat->Nat->Int)(v:Nat)(sh:Int):Bool:=z3f S v 4 && decide (psh S v 4=sh)
def q1b(last next:Int)(w:Wt):Bool:=decide (last<w.num) && decide (w.num<next) && isD w.d && isV w.v && inA w.amt && decide (0<=w.hei) && decide (0<=w.due)
def wOk(next:Int):Int->List Wt->Bool
 | _,[]=>true
 | last,w :: r=>q1b last next w && wOk next w.num r
def z2t:List Wt->Int
 | []=>0
 | w :: r=>w.amt+z2t r
def z8f(V:Nat->Vd):Nat->Int
 | 0=>0
 | k+1=>z8f V k+(V k).tok
def z3s(V:Nat->Vd):Nat->Int
 | 0=>0
 | k+1=>z3s V k+(V k).lost
def j2z(s:St)(v:Nat):Bool:=vOk (s.V v) && q4S s.S v (s.V v).sh
def pvs(s:St):Nat->Bool
 | 0=>true
 | k+1=>pvs s k && j2z s k
def bal(s:St):Bool:=decide (z8f s.V 6=s.b.bo) && decide (z2t s.W=s.b.wa) && decide (z3s s.V 6=s.b.bu)
def z0m(s:St):Bool:=s.b.good && decide (1<=s.next) && decide (s.next<=1125899906842624) && decide (s.W.length<=60) && wOk s.next 0 s.W && pvs s 6 && bal s
def z5P(s:St)(v:Int):Int:=if z0m s=true then if isV v=true then 0 else 4 else 2
def z0T(s:St)(d v:Int):Int:=if z5P s v=0 then if isD d=true then 0 else 4 else z5P s v
def mdN(a b c:Int):Int:=if a<0∨b<0∨c<1 then 0 else if a * b / c<=1125899906842624 then a * b / c else 0
def mdE(a b c:Int):Int:=if a<0∨b<0∨c<1 then 2 else if a * b / c<=1125899906842624 then 0 else 2
def shN(x:Vd)(n:Int):Int:=if x.sh=0 then n else if x.tok=0 then 0 else if mdE n x.sh x.tok=0/\inA (x.sh+mdN n x.sh x.tok)=true then mdN n x.sh x.tok else 0
def shE(x:Vd)(n:Int):Int:=if x.sh=0 then 0 else if x.tok=0 then 8 else if mdE n x.sh x.tok=0/\inA (x.sh+mdN n x.sh x.tok)=true then if mdN n x.sh x.tok=0 then 8 else 0 else 6
def woN(x:Vd)(n:Int):Int:=if mdE n x.tok x.sh=0 then mdN n x.tok x.sh else 0
def woE(x:Vd)(n:Int):Int:=if mdE n x.tok x.sh=0 then if mdN n x.tok x.sh=0 then 8 else 0 else mdE n x.tok x.sh
def z1Q(V:Nat->Vd)(v:Nat)(x:Vd):Nat->Vd:=fun i=>if i=v then x else V i
def z6a(S:Nat->Nat->Int)(d v:Nat)(n:Int):Nat->Nat->Int:=fun i j=>if i=d/\j=v then n else S i j
def q3E(s:St)(d v:Nat)(t n:Int):St:={ s with V:=z1Q s.V v { s.V v with tok:=(s.V v).tok+t,sh:=(s.V v).sh+n },S:=z6a s.S d v (s.S d v+n) }
theorem z0A{n:Int}:inA n=true↔0<=n/\n<=1125899906842624:=decide_eq_true_iff
theorem z2W{n:Int}:isV n=true↔0<=n/\n<6:=decide_eq_true_iff
theorem z4V{n:Int}:isD n=true↔0<=n/\n<4:=decide_eq_true_iff
end
section
open Go.RowKit
theorem J6{p:Prop}(h:p):Hid p:=h
theorem z6U(d:Int)(w:World):Calls prog 106 #[J I d] w fun e w'=>e=.returned (J3 (isV d))/\w=w':=by
 unfold isV
 by_cases h0:0<=d
 ·by_cases h1:d<6
  ·rw[decide_eq_true ⟨h0,h1⟩]
   go_enter func106,ntmps106
   go_wp2;go_ret;exact⟨rfl,rfl⟩
  ·rw[decide_eq_false (by omega)]
   go_enter func106,ntmps106
   go_wp2;go_ret;exact⟨rfl,rfl⟩
 ·rw[decide_eq_false (by omega)]
  go_enter func106,ntmps106
  go_wp2;go_ret;exact⟨rfl,rfl⟩
theorem z9g(d:Int)(w:World):Calls prog 141 #[J I d] w fun e w'=>e=.returned (J3 (isD d))/\w=w':=by
 unfold isD
 by_cases h0:0<=d
 ·by_cases h1:d<4
  ·rw[decide_eq_true ⟨h0,h1⟩]
   go_enter func141,ntmps141
   go_wp2;go_ret;exact⟨rfl,rfl⟩
  ·rw[decide_eq_false (by omega)]
   go_enter func141,ntmps141
   go_wp2;go_ret;exact⟨rfl,rfl⟩
 ·rw[decide_eq_false (by omega)]
  go_enter func141,ntmps141
  go_wp2;go_ret;exact⟨rfl,rfl⟩
theorem z4Z(d:Int)(w:World):Calls prog 142 #[J I d] w fun e w'=>e=.returned (J3 (inA d))/\w=w':=z1p d w
theorem z6l(b o:Nat)(x:Vd)(w:World)(h0:w.cell? ⟨b,o,none⟩=some (J I x.tok))(h1:w.cell? ⟨b,o+1,none⟩=some (J I x.sh))(h2:w.cell? ⟨b,o+2,none⟩=some (J I x.lost))
  (h3:w.cell? ⟨b,o+3,none⟩=some (J3 x.jail)) (j:w.cell? ⟨b,o+4,none⟩=some (J3 x.dead)) :
  Calls prog 136 #[J2 (some ⟨b,o,none⟩)] w fun e w'=>e=.returned (J3 (vOk x))/\w=w':=by
 unfold vOk;have i1:=z4Z x.tok;have a:=z4Z x.sh;have c:=z4Z x.lost;obtain⟨d,f,g,k,l⟩:=x;simp only at *;generalize inA d=t1 at *;generalize inA f=t2 at *;generalize inA g=t3 at *
 go_enter func136,ntmps136
 go_wp2_with (first
  | (go_at_call 142;have _m:=h;refine (c _).mono ?_;rintro e m⟨rfl,rfl⟩)
  | (go_at_call 142;have _m:=i;refine (a _).mono ?_;rintro e w6⟨rfl,rfl⟩;have h:True:=trivial)
  | (go_at_call 142;refine (i1 _).mono ?_;rintro e w5⟨rfl,rfl⟩;have i:True:=trivial))
 all_goals (go_ret;refine⟨?_,rfl⟩;congr 1;congr 1;simp_all)
end
end Go.Proofs.YtddlhnoedldidaaGreat
