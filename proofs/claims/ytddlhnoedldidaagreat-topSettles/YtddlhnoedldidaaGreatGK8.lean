/- Parts of the proof. -/
import Derived.Test.YtddlhnoedldidaaGreatGL
import Derived.WalkKit
import Derived.WalkSpells
import Derived.WalkLawsBesides
set_option maxRecDepth 100000
set_option maxHeartbeats 16000000
namespace Go.Proofs.YtddlhnoedldidaaGreat
open Go.Proofs.Tryz
open Value renaming int->J,slice->J1,pointer->J2,bool->J3,agg->J4
open IntKind renaming i64->I
open Obj renaming cells->J5
namespace Cd
open Go.RowKit
def z1i(w:World)(b off:Nat)(l:List Int):Prop:=∀ i,i<l.length->w.cell? ⟨b,off+i,none⟩=some (J I (l.getD i 0))
def z5D(w:World)(b off:Nat)(l:List (Int×Int)):Prop:=∀ i,i<l.length->w.cell? ⟨b,off+i * 2,none⟩=some (J I (l.getD i (0,0)).1)/\w.cell? ⟨b,off+i * 2+1,none⟩=some (J I (l.getD i (0,0)).2)
theorem z1i.later{w w':World}{b off:Nat}{l:List Int}(h:z1i w b off l)(hb:Bl w w'):z1i w' b off l:=fun i a =>
  (hb.cell (p:=⟨b,off+i,none⟩) (World.block_lt_of_cell? w _ (h i a))).trans (h i a)
theorem z5D.later{w w':World}{b off:Nat}{l:List (Int×Int)}(h:z5D w b off l)(hb:Bl w w'):z5D w' b off l:=fun i a =>
  ⟨(hb.cell (p:=⟨b,off+i * 2,none⟩) (World.block_lt_of_cell? w _ (h i a).1)).trans (h i a).1,(hb.cell (p:=⟨b,off+i * 2+1,none⟩) (World.block_lt_of_cell? w _ (h i a).2)).trans (h i a).2⟩
theorem z0A(w:World)(o:Obj):Bl w (w.alloc o):=znw _ o
theorem q6b{W w1:World}(hb:Bl W w1):(∀ b o,b<W.heap.size->w1.cell? ⟨b,o,none⟩=W.cell? ⟨b,o,none⟩)/\(∀ b o,b<W.heap.size->w1.frozen? ⟨b,o,none⟩=W.frozen? ⟨b,o,none⟩):=
  ⟨fun b o h=>hb.cell (p:=⟨b,o,none⟩) h,fun b o h=>hb.frozen (p:=⟨b,o,none⟩) h⟩
theorem z3b{w w':World}{o:Obj}(h:Below (w.alloc o).heap.size (w.alloc o) w'):Bl w w':=
  (z0A w o).trans (h.mono (by simp))
theorem z2g{w w1 a:World}(h:Bl w w1)(k:Bl w1 a):Bl w a:=zbt h k
def isV(v:Int):Bool:=decide (0<=v/\v<6)
theorem j5D{v:Int}(h:0<=v)(h2:v<6):isV v=true:=by simp[isV];omega
theorem q9u{v:Int}(h:¬ (0<=v/\v<6)):isV v=false:=by simp[isV];omega
theorem z4v(v:Int)(w:World) :
    Calls prog 48 #[J I v] w fun e w'=>e=.returned (J3 (isV v))/\w=w':=by
  by_cases h:0<=v
  · by_cases h2:v<6
    · rw[j5D h h2]
      go_enter func48,ntmps48
      go_wp2;go_ret;exact⟨rfl,rfl⟩
    · rw[q9u (by omega)]
      go_enter func48,ntmps48
      go_wp2;go_ret;exact⟨rfl,rfl⟩
  · rw[q9u (by omega)]
    go_enter func48,ntmps48
    go_wp2;go_ret;exact⟨rfl,rfl⟩
def z0i(last:Int):List Int->Bool
  | []=>true
  | v :: t=>decide (last<v) && isV v && z0i v t
theorem q5v(l:List Int)(k:Nat)(h:k<l.length)(last:Int) :
    z0i last (l.drop k)=(decide (last<l.getD k 0) && isV (l.getD k 0) && z0i (l.getD k 0) (l.drop (k+1))):=by
  rw[List.drop_eq_getElem_cons h,z0i]
  simp[List.getD,h]
theorem q8O(l:List Int)(a:Option Addr)(c b off:Nat)(w:World)(d:l.length<=maxLen)(g:0<l.length->a=some ⟨b,off,none⟩)
    (hc:z1i w b off l) :
    Calls prog 51 #[J1 a l.length c] w fun e w'=>e=.returned (J3 (z0i (-1) l))/\w=w':=by
  unfold maxLen at d;have j:Hid (∀ i,i<l.length->w.cell? ⟨b,off+i,none⟩=some (.int .i64 (l.getD i 0))):=hc;have m:Hid (0<l.length->a=some ⟨b,off,none⟩):=g;clear hc g
  go_enter func51,ntmps51
  go_wp2
  go_loop [3,8] (fun last i=>∃ (k:Nat) (x:Int),k<=l.length/\i=.int .i64 k/\last=.int .i64 x/\Hid (z0i (-1) l=z0i x (l.drop k))) (fun _ i=>l.length - (intOf i).toNat)
  case atStart=>exact⟨0,-1,Nat.zero_le _,rfl,rfl,by simp[Hid]⟩
  case round =>
    obtain⟨k,x,n,rfl,rfl,HR⟩:=hrel
    by_cases f:k<l.length
    · have hcell:=j.out k f
      have hd:=q5v l k f x;obtain⟨y,h⟩:∃ y,l.getD k 0=y:=⟨_,rfl⟩;rw[h]at hcell hd;have e:=m.out (by omega)
      subst e;have HD:Hid (z0i x (l.drop k)=(decide (x<y) && isV y && z0i y (l.drop (k+1)))):=hd;clear hd h
      by_cases h1:y<=x
      · go_wp2_with (go_at_call 48;refine (z4v _ _).mono ?_;rintro e w'⟨rfl,rfl⟩)
        go_ret;refine⟨?_,rfl⟩;rw[HR.out,HD.out];have:decide (x<y)=false:=by simp;omega
        simp[this]
      · by_cases h2:isV y=true
        · go_wp2_with (go_at_call 48;refine (z4v _ _).mono ?_;rintro e w'⟨rfl,rfl⟩)
          go_round
          case rel =>
            refine⟨k+1,y,by omega,by go_num,rfl,?_⟩
            have:decide (x<y)=true:=by simp;omega
            show _=_
            rw[HR.out,HD.out,this,h2];simp
          case measure=>simp[intOf];omega
        · have h2:isV y=false:=by simpa using h2
          go_wp2_with (go_at_call 48;refine (z4v _ _).mono ?_;rintro e w'⟨rfl,rfl⟩)
          go_ret;refine⟨?_,rfl⟩;rw[HR.out,HD.out,h2];simp
    · go_wp2
      go_ret;refine⟨?_,rfl⟩;rw[HR.out,List.drop_of_length_le (by omega)];rfl
def z0d(last:Int):List (Int×Int)->Bool
  | []=>true
  | p :: t=>decide (last<p.1) && isV p.1 && decide (0<=p.2) && decide (p.2<=1125899906842624) && z0d p.1 t
theorem q2J(l:List (Int×Int))(k:Nat)(h:k<l.length)(last:Int) :
    z0d last (l.drop k)=(decide (last<(l.getD k (0,0)).1) && isV (l.getD k (0,0)).1 && decide (0<=(l.getD k (0,0)).2) && decide ((l.getD k (0,0)).2<=1125899906842624) && z0d (l.getD k (0,0)).1 (l.drop (k+1))):=by
  rw[List.drop_eq_getElem_cons h,z0d]
  simp[List.getD,h]
theorem q5N(l:List (Int×Int))(a:Option Addr)(c b off:Nat)(w:World)(m:l.length<=maxLen)(q:0<l.length->a=some ⟨b,off,none⟩)
    (hc:z5D w b off l) :
    Calls prog 50 #[J1 a l.length c] w fun e w'=>e=.returned (J3 (z0d (-1) l))/\Bl w w':=by
  unfold maxLen at m;have u:Hid (∀ i,i<l.length->w.cell? ⟨b,off+i * 2,none⟩=some (.int .i64 (l.getD i (0,0)).1)/\w.cell? ⟨b,off+i * 2+1,none⟩=some (.int .i64 (l.getD i (0,0)).2)):=hc;have v:Hid (0<l.length->a=some ⟨b,off,none⟩):=q;clear hc q
  go_enter func50,ntmps50
  go_wp2
  go_loopw [3,8] (fun last i wl=>∃ (k:Nat) (x:Int),k<=l.length/\i=.int .i64 k/\last=.int .i64 x/\Hid (z0d (-1) l=z0d x (l.drop k))/\Hid (Bl w wl)) (fun _ i _=>l.length - (intOf i).toNat)
  case atStart=>exact⟨0,-1,Nat.zero_le _,rfl,rfl,by simp[Hid],Below.refl _ _⟩
  case round =>
    obtain⟨k,x,C,rfl,rfl,HR,g⟩:=hrel
    by_cases n:k<l.length
    · have hcell:=u.out k n
      have hd:=q2J l k n x;obtain⟨y,r⟩:∃ y,l.getD k (0,0)=y:=⟨_,rfl⟩;rw[r]at hcell hd;obtain⟨y,z⟩:=y;have e:=v.out (by omega)
      subst e;have HD:Hid (z0d x (l.drop k)=(decide (x<y) && isV y && decide (0<=z) && decide (z<=1125899906842624) && z0d y (l.drop (k+1)))):=hd;clear hd r;obtain⟨h,j⟩:=hcell;dsimp only at h j;have o:b<w.heap.size:=World.block_lt_of_cell? w _ h;have s:wr.cell? ⟨b,off+k * 2,none⟩=some (.int .i64 y):=(g.out.cell (p:=⟨b,off+k * 2,none⟩) o).trans h;have t:wr.cell? ⟨b,off+k * 2+1,none⟩=some (.int .i64 z):=(g.out.cell (p:=⟨b,off+k * 2+1,none⟩) o).trans j;clear h j;have d:=g.out.size
      by_cases h1:y<=x
      · have f:decide (x<y)=false:=by simp;omega
        have E:Hid (z0d x (l.drop k)=false):=by show _=_;rw[HD.out,f];simp
        clear f
        go_wp2_with (go_at_call 48;refine (z4v _ _).mono ?_;rintro e w'⟨rfl,rfl⟩)
        go_ret;refine⟨?_,?_⟩
        · rw[HR.out,E.out];simp
        · exact g.out.alloc d _
      by_cases h2:isV y=true
      · by_cases h3:z<0
        · have f:decide (0<=z)=false:=by simp;omega
          have E:Hid (z0d x (l.drop k)=false):=by show _=_;rw[HD.out,f];simp
          clear f
          go_wp2_with (go_at_call 48;refine (z4v _ _).mono ?_;rintro e w'⟨rfl,rfl⟩)
          go_ret;refine⟨?_,?_⟩
          · rw[HR.out,E.out];simp
          · exact g.out.alloc d _
        by_cases D:1125899906842624<z
        · have f:decide (z<=1125899906842624)=false:=by simp;omega
          have E:Hid (z0d x (l.drop k)=false):=by show _=_;rw[HD.out,f];simp
          clear f
          go_wp2_with (go_at_call 48;refine (z4v _ _).mono ?_;rintro e w'⟨rfl,rfl⟩)
          go_ret;refine⟨?_,?_⟩
          · rw[HR.out,E.out];simp
          · exact g.out.alloc d _
        · have E:Hid (z0d x (l.drop k)=z0d y (l.drop (k+1))):=by
            show _=_
            have A:decide (x<y)=true:=by simp;omega
            have f:decide (0<=z)=true:=by simp;omega
            have B:decide (z<=1125899906842624)=true:=by simp;omega
            rw[HD.out,A,f,B,h2];simp
          go_wp2_with (go_at_call 48;refine (z4v _ _).mono ?_;rintro e w'⟨rfl,rfl⟩)
          go_roundw
          case rel=>exact⟨k+1,y,by omega,by go_num,rfl,HR.out.trans E.out,g.out.alloc d _⟩
          case measure=>simp[intOf];omega
      · have h2:isV y=false:=by simpa using h2
        have E:Hid (z0d x (l.drop k)=false):=by show _=_;rw[HD.out,h2];simp
        go_wp2_with (go_at_call 48;refine (z4v _ _).mono ?_;rintro e w'⟨rfl,rfl⟩)
        go_ret;refine⟨?_,?_⟩
        · rw[HR.out,E.out];simp
        · exact g.out.alloc d _
    · go_wp2
      go_ret;refine⟨?_,g.out⟩;rw[HR.out,List.drop_of_length_le (by omega)];rfl
def z7j(k:Int):Bool:=k == 3 || k == 4
theorem q4A{k:Int}(h:k=3∨k=4):z7j k=true:=by simp[z7j];omega
theorem j3F{k:Int}(h:k≠3)(h2:k≠4):z7j k=false:=by simp[z7j];omega
theorem j0E(k i v n:Int)(s d:Value)(w:World) :
    Calls prog 47 #[J4 #[J I k,J I i,J I v,J I n,s,d]] w fun e w'=>e=.returned (J3 (z7j k))/\Bl w w':=by
  by_cases h:k=3
  · subst h
    rw[q4A (by omega)]
    go_enter func47,ntmps47
    go_wp2;go_ret;exact⟨rfl,znw _ _⟩
  have h3:(k == 3)=false:=by simpa using h
  by_cases h':k=4
  · subst h'
    rw[q4A (by omega)]
    go_enter func47,ntmps47
    go_wp2;go_ret;exact⟨rfl,znw _ _⟩
  have a:(k == 4)=false:=by simpa using h'
  rw[j3F h h'];clear h h'
  go_enter func47,ntmps47
  go_wp2;go_ret;exact⟨rfl,znw _ _⟩
def z8w(k v n:Int)(a b:Nat):Bool:=(!(z7j k) && (v != 0 || n != 0)) || (k != 1 && ((a:Int) != 0 || (b:Int) != 0))
theorem q5j(k v n:Int)(a b:Nat) :
    (z7j k=false/\(v != 0)=true/\z8w k v n a b=true)∨(z7j k=false/\(v != 0)=false/\(n != 0)=true/\z8w k v n a b=true) ∨
    (((z7j k=false/\(v != 0)=false/\(n != 0)=false)∨z7j k=true) /\
      ((k != 1)=false/\z8w k v n a b=false∨(k != 1)=true/\((a:Int) != 0)=true/\z8w k v n a b=true ∨
       (k != 1)=true/\((a:Int) != 0)=false/\((b:Int) != 0)=true/\z8w k v n a b=true ∨
       (k != 1)=true/\((a:Int) != 0)=false/\((b:Int) != 0)=false/\z8w k v n a b=false)):=by
  unfold z8w;cases z7j k <;> cases (v != 0) <;> cases (n != 0) <;> cases (k != 1) <;> cases ((a:Int) != 0) <;> cases ((b:Int) != 0) <;> simp
theorem j6e(k i v n:Int)(sa da:Option Addr)(a cs b cd:Nat)(w:World) :
    Calls prog 49 #[J4 #[J I k,J I i,J I v,J I n,J1 sa a cs,J1 da b cd]] w fun e w'=>e=.returned (J3 (z8w k v n a b))/\Bl w w':=by
  have c:=q5j k v n a b;generalize z8w k v n a b=F at *
  rcases c with⟨hacc,hv,rfl⟩ | ⟨hacc,hv,hn,rfl⟩ | ⟨⟨hacc,hv,hn⟩ | hacc,⟨hk,rfl⟩ | ⟨hk,hs,rfl⟩ | ⟨hk,hs,hd,rfl⟩ | ⟨hk,hs,hd,rfl⟩⟩
  all_goals go_enter func49,ntmps49
  all_goals go_wp2_with (go_at_call 47;refine (j0E _ _ _ _ _ _ _).mono ?_;rintro e w'⟨rfl,hb⟩;obtain⟨hc,f⟩:=q6b hb;have g:w.heap.size+1<=w'.heap.size:=(by have:=hb.size;simp at this;omega);have d:Hid (Below _ _ w'):=hb;clear hb)
  all_goals go_ret
  all_goals exact⟨rfl,z3b d.out⟩
def z0n(k i v n:Int)(S:List (Int×Int))(D:List Int):Int:=
  if k<1∨4<k then 3 else if i<1∨1099511627776<i then 2
  else if z7j k=true/\(isV v=false∨n<1∨1125899906842624<n) then 2
  else if z8w k v n S.length D.length=true then 1
  else if z0d (-1) S=false∨z0i (-1) D=false then 2 else 0
theorem z5v(k i v n:Int)(S:List (Int×Int))(D:List Int) :
    (k<1/\z0n k i v n S D=3)∨(1<=k/\4<k/\z0n k i v n S D=3) ∨
    (1<=k/\k<=4 /\
      ((i<1/\z0n k i v n S D=2)∨(1<=i/\1099511627776<i/\z0n k i v n S D=2) ∨
       (1<=i/\i<=1099511627776 /\
        ((z7j k=true/\isV v=false/\z0n k i v n S D=2)∨(z7j k=true/\isV v=true/\n<1/\z0n k i v n S D=2) ∨
         (z7j k=true/\isV v=true/\1<=n/\1125899906842624<n/\z0n k i v n S D=2) ∨
         (((z7j k=true/\isV v=true/\1<=n/\n<=1125899906842624)∨z7j k=false) /\
          ((z8w k v n S.length D.length=true/\z0n k i v n S D=1) ∨
           (z8w k v n S.length D.length=false/\z0d (-1) S=false/\z0n k i v n S D=2) ∨
           (z8w k v n S.length D.length=false/\z0d (-1) S=true/\z0i (-1) D=false/\z0n k i v n S D=2) ∨
           (z8w k v n S.length D.length=false/\z0d (-1) S=true/\z0i (-1) D=true/\z0n k i v n S D=0))))))):=by
  unfold z0n;generalize z8w k v n S.length D.length=f;generalize z0d (-1) S=p;generalize z0i (-1) D=r;generalize z7j k=a;generalize isV v=x
  rcases Int.lt_or_le k 1 with h | h
  · left;exact⟨h,by rw[if_pos (Or.inl h)]⟩
  right
  rcases Int.lt_or_le 4 k with d | d
  · left;exact⟨h,d,by rw[if_pos (Or.inr d)]⟩
  right
  rw[if_neg (by omega)]
  refine⟨h,d,?_⟩
  rcases Int.lt_or_le i 1 with c | c
  · left;exact⟨c,by rw[if_pos (Or.inl c)]⟩
  right
  rcases Int.lt_or_le 1099511627776 i with b | b
  · left;exact⟨c,b,by rw[if_pos (Or.inr b)]⟩
  right
  rw[if_neg (by omega)]
  refine⟨c,b,?_⟩
  rcases Int.lt_or_le n 1 with g | g
  all_goals rcases Int.lt_or_le 1125899906842624 n with e | e
  all_goals first | (exfalso;omega) | skip
  all_goals cases a <;> cases x <;> cases f <;> cases p <;> cases r <;> simp_all
  all_goals omega
theorem z0p(k i v n:Int)(S:List (Int×Int))(D:List Int)(sa da:Option Addr)(cs cd sb so db dO:Nat)(w:World)
    (hls:S.length<=maxLen) (hld:D.length<=maxLen) (hsa:0<S.length->sa=some ⟨sb,so,none⟩) (hda:0<D.length->da=some ⟨db,dO,none⟩) (PS:z5D w sb so S) (PD:z1i w db dO D) :
    Calls prog 29 #[J4 #[J I k,J I i,J I v,J I n,J1 sa S.length cs,J1 da D.length cd]] w fun e w'=>e=.returned (J I (z0n k i v n S D))/\Bl w w':=by
  have h:Hid (S.length<=maxLen):=hls;have j:Hid (D.length<=maxLen):=hld;have l:Hid (0<S.length->sa=some ⟨sb,so,none⟩):=hsa;have m:Hid (0<D.length->da=some ⟨db,dO,none⟩):=hda;clear hls hld hsa hda;have o:=z5v k i v n S D;generalize z0n k i v n S D=G at *
  rcases o with⟨h1,rfl⟩ | ⟨h1,h2,rfl⟩ | ⟨h1,h2,⟨h3,rfl⟩ | ⟨h3,h4,rfl⟩ | ⟨h3,h4,⟨h5,h6,rfl⟩ | ⟨h5,h6,h7,rfl⟩ | ⟨h5,h6,h7,h8,rfl⟩ | ⟨⟨h5,h6,h7,h8⟩ | h5,⟨h9,rfl⟩ | ⟨h9,h10,rfl⟩ | ⟨h9,h10,h11,rfl⟩ | ⟨h9,h10,h11,rfl⟩⟩⟩⟩
  all_goals go_enter func29,ntmps29
  all_goals go_wp2_with (first
    | (go_at_call 47;refine (j0E _ _ _ _ _ _ _).mono ?_;rintro e w1⟨rfl,hb⟩
       have c:=(PS.later (z0A _ _)).later hb;have d:=(PD.later (z0A _ _)).later hb;obtain⟨hc,C⟩:=q6b hb;have u:w.heap.size<w1.heap.size:=(by have:=hb.size;simp at this;omega)
       have a:Hid (Bl w w1):=z3b hb
       clear hb PS PD)
    | (go_at_call 48;refine (z4v _ _).mono ?_;rintro e w'⟨rfl,rfl⟩)
    | (go_at_call 49;refine (j6e _ _ _ _ _ _ _ _ _ _ _).mono ?_;rintro e s⟨rfl,hb⟩
       have f:=c.later hb;have g:=d.later hb;obtain⟨x,y⟩:=q6b hb;have p:w.heap.size<s.heap.size:=Nat.lt_of_lt_of_le u hb.size;have b:Hid (Bl w s):=z2g a.out hb
       clear hb c d a)
    | (go_at_call 50;refine (q5N S sa cs sb so _ h.out l.out f).mono ?_;rintro e t⟨rfl,hb⟩
       have q:=g.later hb;obtain⟨z,A⟩:=q6b hb;have B:w.heap.size<t.heap.size:=Nat.lt_of_lt_of_le p hb.size;have r:Hid (Bl w t):=z2g b.out hb
       clear hb f g b)
    | (go_at_call 51;refine (q8O D da cd db dO _ j.out m.out q).mono ?_;rintro e w'⟨rfl,rfl⟩))
  all_goals go_ret
  all_goals refine⟨rfl,?_⟩
  all_goals first | exact r.out | exact b.out | exact a.out | exact z0A _ _
end Cd
end Go.Proofs.YtddlhnoedldidaaGreat
