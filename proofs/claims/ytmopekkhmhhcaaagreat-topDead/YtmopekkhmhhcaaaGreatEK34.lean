/- Parts of the proof. -/
import Derived.Test.YtmopekkhmhhcaaaGreatEL
import Derived.WalkKit
import Derived.WalkSpells
import Derived.WalkLawsBesides
set_option maxRecDepth 100000
set_option maxHeartbeats 16000000
namespace Go.Proofs.YtmopekkhmhhcaaaGreat
open Go.Proofs.Tryz
namespace Cd
open Go.RowKit
def z0Y(w:World)(b off:Nat)(l:List Int):Prop:=∀ i,i<l.length->w.cell? ⟨b,off+i,none⟩=some (.int .i64 (l.getD i 0))
def z4R(w:World)(b off:Nat)(l:List (Int×Int)):Prop:=∀ i,i<l.length->w.cell? ⟨b,off+i * 2,none⟩=some (.int .i64 (l.getD i (0,0)).1)/\w.cell? ⟨b,off+i * 2+1,none⟩=some (.int .i64 (l.getD i (0,0)).2)
theorem z0Y.later{w w':World}{b off:Nat}{l:List Int}(h:z0Y w b off l)(hb:Below w.heap.size w w'):z0Y w' b off l:=fun i hi =>
  (hb.cell (p:=⟨b,off+i,none⟩) (World.block_lt_of_cell? w _ (h i hi))).trans (h i hi)
theorem z4R.later{w w':World}{b off:Nat}{l:List (Int×Int)}(h:z4R w b off l)(hb:Below w.heap.size w w'):z4R w' b off l:=fun i hi =>
  ⟨(hb.cell (p:=⟨b,off+i * 2,none⟩) (World.block_lt_of_cell? w _ (h i hi).1)).trans (h i hi).1,(hb.cell (p:=⟨b,off+i * 2+1,none⟩) (World.block_lt_of_cell? w _ (h i hi).2)).trans (h i hi).2⟩
theorem z0u(w:World)(o:Obj):Below w.heap.size w (w.alloc o):=znw _ o
theorem q4g{W w1:World}(hb:Below W.heap.size W w1):(∀ b o,b<W.heap.size->w1.cell? ⟨b,o,none⟩=W.cell? ⟨b,o,none⟩)/\(∀ b o,b<W.heap.size->w1.frozen? ⟨b,o,none⟩=W.frozen? ⟨b,o,none⟩):=
  ⟨fun b o h=>hb.cell (p:=⟨b,o,none⟩) h,fun b o h=>hb.frozen (p:=⟨b,o,none⟩) h⟩
theorem z2w{w w':World}{o:Obj}(h:Below (w.alloc o).heap.size (w.alloc o) w'):Below w.heap.size w w':=
  (z0u w o).trans (h.mono (by simp))
theorem z1K{w w1 w2:World}(h:Below w.heap.size w w1)(k:Below w1.heap.size w1 w2):Below w.heap.size w w2:=zbt h k
def isV(v:Int):Bool:=decide (0<=v/\v<6)
theorem j4q{v:Int}(h:0<=v)(h2:v<6):isV v=true:=by simp[isV];omega
theorem q6o{v:Int}(h:¬ (0<=v/\v<6)):isV v=false:=by simp[isV];omega
theorem z3N(v:Int)(w:World) :
    Calls prog 51 #[.int .i64 v] w fun e w'=>e=.returned (.bool (isV v))/\w=w':=by
  by_cases h:0<=v
  · by_cases h2:v<6
    · rw[j4q h h2]
      go_enter func51,ntmps51
      go_wp2;go_ret;exact ⟨rfl,rfl⟩
    · rw[q6o (by omega)]
      go_enter func51,ntmps51
      go_wp2;go_ret;exact ⟨rfl,rfl⟩
  · rw[q6o (by omega)]
    go_enter func51,ntmps51
    go_wp2;go_ret;exact ⟨rfl,rfl⟩
def z0l(last:Int):List Int->Bool
  | []=>true
  | v :: t=>decide (last<v) && isV v && z0l v t
theorem q5M(l:List Int)(k:Nat)(h:k<l.length)(last:Int) :
    z0l last (l.drop k)=(decide (last<l.getD k 0) && isV (l.getD k 0) && z0l (l.getD k 0) (l.drop (k+1))):=by
  rw[List.drop_eq_getElem_cons h,z0l]
  simp[List.getD,h]
theorem q8J(l:List Int)(a:Option Addr)(c b off:Nat)(w:World)(hlen:l.length<=maxLen)(ha:0<l.length->a=some ⟨b,off,none⟩)
    (hc:z0Y w b off l) :
    Calls prog 54 #[.slice a l.length c] w fun e w'=>e=.returned (.bool (z0l (-1) l))/\w=w':=by
  unfold maxLen at hlen;have HC:Hid (∀ i,i<l.length->w.cell? ⟨b,off+i,none⟩=some (.int .i64 (l.getD i 0))):=hc;have HA:Hid (0<l.length->a=some ⟨b,off,none⟩):=ha;clear hc ha
  go_enter func54,ntmps54
  go_wp2
  go_loop [3,8] (fun last i=>∃ (k:Nat) (x:Int),k<=l.length/\i=.int .i64 k/\last=.int .i64 x/\Hid (z0l (-1) l=z0l x (l.drop k))) (fun _ i=>l.length - (intOf i).toNat)
  case atStart=>exact ⟨0,-1,Nat.zero_le _,rfl,rfl,by simp[Hid]⟩
  case round =>
    obtain ⟨k,x,hk,rfl,rfl,HR⟩:=hrel
    by_cases hlt:k<l.length
    · have hcell:=HC.out k hlt
      have hd:=q5M l k hlt x;obtain ⟨y,hy⟩:∃ y,l.getD k 0=y:=⟨_,rfl⟩;rw[hy]at hcell hd;have e:=HA.out (by omega)
      subst e;have HD:Hid (z0l x (l.drop k)=(decide (x<y) && isV y && z0l y (l.drop (k+1)))):=hd;clear hd hy
      by_cases h1:y<=x
      · go_wp2_with (go_at_call 51;refine (z3N _ _).mono ?_;rintro e w' ⟨rfl,rfl⟩)
        go_ret;refine ⟨?_,rfl⟩;rw[HR.out,HD.out];have:decide (x<y)=false:=by simp;omega
        simp[this]
      · by_cases h2:isV y=true
        · go_wp2_with (go_at_call 51;refine (z3N _ _).mono ?_;rintro e w' ⟨rfl,rfl⟩)
          go_round
          case rel =>
            refine ⟨k+1,y,by omega,by go_num,rfl,?_⟩
            have:decide (x<y)=true:=by simp;omega
            show _=_
            rw[HR.out,HD.out,this,h2];simp
          case measure=>simp[intOf];omega
        · have h2:isV y=false:=by simpa using h2
          go_wp2_with (go_at_call 51;refine (z3N _ _).mono ?_;rintro e w' ⟨rfl,rfl⟩)
          go_ret;refine ⟨?_,rfl⟩;rw[HR.out,HD.out,h2];simp
    · go_wp2
      go_ret;refine ⟨?_,rfl⟩;rw[HR.out,List.drop_of_length_le (by omega)];rfl
def z0f(last:Int):List (Int×Int)->Bool
  | []=>true
  | p :: t=>decide (last<p.1) && isV p.1 && decide (0<=p.2) && decide (p.2<=1125899906842624) && z0f p.1 t
theorem q1v(l:List (Int×Int))(k:Nat)(h:k<l.length)(last:Int) :
    z0f last (l.drop k)=(decide (last<(l.getD k (0,0)).1) && isV (l.getD k (0,0)).1 && decide (0<=(l.getD k (0,0)).2) && decide ((l.getD k (0,0)).2<=1125899906842624) && z0f (l.getD k (0,0)).1 (l.drop (k+1))):=by
  rw[List.drop_eq_getElem_cons h,z0f]
  simp[List.getD,h]
theorem q5F(l:List (Int×Int))(a:Option Addr)(c b off:Nat)(w:World)(hlen:l.length<=maxLen)(ha:0<l.length->a=some ⟨b,off,none⟩)
    (hc:z4R w b off l) :
    Calls prog 53 #[.slice a l.length c] w fun e w'=>e=.returned (.bool (z0f (-1) l))/\Below w.heap.size w w':=by
  unfold maxLen at hlen;have HC:Hid (∀ i,i<l.length->w.cell? ⟨b,off+i * 2,none⟩=some (.int .i64 (l.getD i (0,0)).1)/\w.cell? ⟨b,off+i * 2+1,none⟩=some (.int .i64 (l.getD i (0,0)).2)):=hc;have HA:Hid (0<l.length->a=some ⟨b,off,none⟩):=ha;clear hc ha
  go_enter func53,ntmps53
  go_wp2
  go_loopw [3,8] (fun last i wl=>∃ (k:Nat) (x:Int),k<=l.length/\i=.int .i64 k/\last=.int .i64 x/\Hid (z0f (-1) l=z0f x (l.drop k))/\Hid (Below w.heap.size w wl)) (fun _ i _=>l.length - (intOf i).toNat)
  case atStart=>exact ⟨0,-1,Nat.zero_le _,rfl,rfl,by simp[Hid],Below.refl _ _⟩
  case round =>
    obtain ⟨k,x,hk,rfl,rfl,HR,HB⟩:=hrel
    by_cases hlt:k<l.length
    · have hcell:=HC.out k hlt
      have hd:=q1v l k hlt x;obtain ⟨y,hy⟩:∃ y,l.getD k (0,0)=y:=⟨_,rfl⟩;rw[hy]at hcell hd;obtain ⟨y,z⟩:=y;have e:=HA.out (by omega)
      subst e;have HD:Hid (z0f x (l.drop k)=(decide (x<y) && isV y && decide (0<=z) && decide (z<=1125899906842624) && z0f y (l.drop (k+1)))):=hd;clear hd hy;obtain ⟨hc0,hc1⟩:=hcell;dsimp only at hc0 hc1;have hbl:b<w.heap.size:=World.block_lt_of_cell? w _ hc0;have hc0':wr.cell? ⟨b,off+k * 2,none⟩=some (.int .i64 y):=(HB.out.cell (p:=⟨b,off+k * 2,none⟩) hbl).trans hc0;have hc1':wr.cell? ⟨b,off+k * 2+1,none⟩=some (.int .i64 z):=(HB.out.cell (p:=⟨b,off+k * 2+1,none⟩) hbl).trans hc1;clear hc0 hc1;have hB0:=HB.out.size
      by_cases h1:y<=x
      · have e1:decide (x<y)=false:=by simp;omega
        have E:Hid (z0f x (l.drop k)=false):=by show _=_;rw[HD.out,e1];simp
        clear e1
        go_wp2_with (go_at_call 51;refine (z3N _ _).mono ?_;rintro e w' ⟨rfl,rfl⟩)
        go_ret;refine ⟨?_,?_⟩
        · rw[HR.out,E.out];simp
        · exact HB.out.alloc hB0 _
      by_cases h2:isV y=true
      · by_cases h3:z<0
        · have e1:decide (0<=z)=false:=by simp;omega
          have E:Hid (z0f x (l.drop k)=false):=by show _=_;rw[HD.out,e1];simp
          clear e1
          go_wp2_with (go_at_call 51;refine (z3N _ _).mono ?_;rintro e w' ⟨rfl,rfl⟩)
          go_ret;refine ⟨?_,?_⟩
          · rw[HR.out,E.out];simp
          · exact HB.out.alloc hB0 _
        by_cases h4:1125899906842624<z
        · have e1:decide (z<=1125899906842624)=false:=by simp;omega
          have E:Hid (z0f x (l.drop k)=false):=by show _=_;rw[HD.out,e1];simp
          clear e1
          go_wp2_with (go_at_call 51;refine (z3N _ _).mono ?_;rintro e w' ⟨rfl,rfl⟩)
          go_ret;refine ⟨?_,?_⟩
          · rw[HR.out,E.out];simp
          · exact HB.out.alloc hB0 _
        · have E:Hid (z0f x (l.drop k)=z0f y (l.drop (k+1))):=by
            show _=_
            have e0:decide (x<y)=true:=by simp;omega
            have e1:decide (0<=z)=true:=by simp;omega
            have e2:decide (z<=1125899906842624)=true:=by simp;omega
            rw[HD.out,e0,e1,e2,h2];simp
          go_wp2_with (go_at_call 51;refine (z3N _ _).mono ?_;rintro e w' ⟨rfl,rfl⟩)
          go_roundw
          case rel=>exact ⟨k+1,y,by omega,by go_num,rfl,HR.out.trans E.out,HB.out.alloc hB0 _⟩
          case measure=>simp[intOf];omega
      · have h2:isV y=false:=by simpa using h2
        have E:Hid (z0f x (l.drop k)=false):=by show _=_;rw[HD.out,h2];simp
        go_wp2_with (go_at_call 51;refine (z3N _ _).mono ?_;rintro e w' ⟨rfl,rfl⟩)
        go_ret;refine ⟨?_,?_⟩
        · rw[HR.out,E.out];simp
        · exact HB.out.alloc hB0 _
    · go_wp2
      go_ret;refine ⟨?_,HB.out⟩;rw[HR.out,List.drop_of_length_le (by omega)];rfl
def z6G(k:Int):Bool:=k == 3 || k == 4
theorem q3v{k:Int}(h:k=3∨k=4):z6G k=true:=by simp[z6G];omega
theorem q9W{k:Int}(h:k≠3)(h2:k≠4):z6G k=false:=by simp[z6G];omega
theorem q6n(k i v n:Int)(s d:Value)(w:World) :
    Calls prog 50 #[.agg #[.int .i64 k,.int .i64 i,.int .i64 v,.int .i64 n,s,d]] w fun e w'=>e=.returned (.bool (z6G k))/\Below w.heap.size w w':=by
  by_cases h:k=3
  · subst h
    rw[q3v (by omega)]
    go_enter func50,ntmps50
    go_wp2;go_ret;exact ⟨rfl,znw _ _⟩
  have h3:(k == 3)=false:=by simpa using h
  by_cases h':k=4
  · subst h'
    rw[q3v (by omega)]
    go_enter func50,ntmps50
    go_wp2;go_ret;exact ⟨rfl,znw _ _⟩
  have h4:(k == 4)=false:=by simpa using h'
  rw[q9W h h'];clear h h'
  go_enter func50,ntmps50
  go_wp2;go_ret;exact ⟨rfl,znw _ _⟩
def z9d(k v n:Int)(ls ld:Nat):Bool:=(!(z6G k) && (v != 0 || n != 0)) || (k != 1 && ((ls:Int) != 0 || (ld:Int) != 0))
theorem q4B(k v n:Int)(ls ld:Nat) :
    (z6G k=false/\(v != 0)=true/\z9d k v n ls ld=true)∨(z6G k=false/\(v != 0)=false/\(n != 0)=true/\z9d k v n ls ld=true) ∨
    (((z6G k=false/\(v != 0)=false/\(n != 0)=false)∨z6G k=true) /\
      ((k != 1)=false/\z9d k v n ls ld=false∨(k != 1)=true/\((ls:Int) != 0)=true/\z9d k v n ls ld=true ∨
       (k != 1)=true/\((ls:Int) != 0)=false/\((ld:Int) != 0)=true/\z9d k v n ls ld=true ∨
       (k != 1)=true/\((ls:Int) != 0)=false/\((ld:Int) != 0)=false/\z9d k v n ls ld=false)):=by
  unfold z9d;cases z6G k <;> cases (v != 0) <;> cases (n != 0) <;> cases (k != 1) <;> cases ((ls:Int) != 0) <;> cases ((ld:Int) != 0) <;> simp
theorem j4F(k i v n:Int)(sa da:Option Addr)(ls cs ld cd:Nat)(w:World) :
    Calls prog 52 #[.agg #[.int .i64 k,.int .i64 i,.int .i64 v,.int .i64 n,.slice sa ls cs,.slice da ld cd]] w fun e w'=>e=.returned (.bool (z9d k v n ls ld))/\Below w.heap.size w w':=by
  have hcs:=q4B k v n ls ld;generalize z9d k v n ls ld=F at *
  rcases hcs with ⟨hacc,hv,rfl⟩ | ⟨hacc,hv,hn,rfl⟩ | ⟨⟨hacc,hv,hn⟩ | hacc,⟨hk,rfl⟩ | ⟨hk,hs,rfl⟩ | ⟨hk,hs,hd,rfl⟩ | ⟨hk,hs,hd,rfl⟩⟩
  all_goals go_enter func52,ntmps52
  all_goals go_wp2_with (go_at_call 50;refine (q6n _ _ _ _ _ _ _).mono ?_;rintro e w' ⟨rfl,hb⟩;obtain ⟨hc,hf⟩:=q4g hb;have hz:w.heap.size+1<=w'.heap.size:=(by have:=hb.size;simp at this;omega);have HB:Hid (Below _ _ w'):=hb;clear hb)
  all_goals go_ret
  all_goals exact ⟨rfl,z2w HB.out⟩
def z0t(k i v n:Int)(S:List (Int×Int))(D:List Int):Int:=
  if k<1∨4<k then 3 else if i<1∨1099511627776<i then 2
  else if z6G k=true/\(isV v=false∨n<1∨1125899906842624<n) then 2
  else if z9d k v n S.length D.length=true then 1
  else if z0f (-1) S=false∨z0l (-1) D=false then 2 else 0
theorem z7v(k i v n:Int)(S:List (Int×Int))(D:List Int) :
    (k<1/\z0t k i v n S D=3)∨(1<=k/\4<k/\z0t k i v n S D=3) ∨
    (1<=k/\k<=4 /\
      ((i<1/\z0t k i v n S D=2)∨(1<=i/\1099511627776<i/\z0t k i v n S D=2) ∨
       (1<=i/\i<=1099511627776 /\
        ((z6G k=true/\isV v=false/\z0t k i v n S D=2)∨(z6G k=true/\isV v=true/\n<1/\z0t k i v n S D=2) ∨
         (z6G k=true/\isV v=true/\1<=n/\1125899906842624<n/\z0t k i v n S D=2) ∨
         (((z6G k=true/\isV v=true/\1<=n/\n<=1125899906842624)∨z6G k=false) /\
          ((z9d k v n S.length D.length=true/\z0t k i v n S D=1) ∨
           (z9d k v n S.length D.length=false/\z0f (-1) S=false/\z0t k i v n S D=2) ∨
           (z9d k v n S.length D.length=false/\z0f (-1) S=true/\z0l (-1) D=false/\z0t k i v n S D=2) ∨
           (z9d k v n S.length D.length=false/\z0f (-1) S=true/\z0l (-1) D=true/\z0t k i v n S D=0))))))):=by
  unfold z0t;generalize z9d k v n S.length D.length=f;generalize z0f (-1) S=p;generalize z0l (-1) D=r;generalize z6G k=a;generalize isV v=x
  rcases Int.lt_or_le k 1 with h | h
  · left;exact ⟨h,by rw[if_pos (Or.inl h)]⟩
  right
  rcases Int.lt_or_le 4 k with h4 | h4
  · left;exact ⟨h,h4,by rw[if_pos (Or.inr h4)]⟩
  right
  rw[if_neg (by omega)]
  refine ⟨h,h4,?_⟩
  rcases Int.lt_or_le i 1 with hi | hi
  · left;exact ⟨hi,by rw[if_pos (Or.inl hi)]⟩
  right
  rcases Int.lt_or_le 1099511627776 i with hi4 | hi4
  · left;exact ⟨hi,hi4,by rw[if_pos (Or.inr hi4)]⟩
  right
  rw[if_neg (by omega)]
  refine ⟨hi,hi4,?_⟩
  rcases Int.lt_or_le n 1 with hn | hn
  all_goals rcases Int.lt_or_le 1125899906842624 n with hn4 | hn4
  all_goals first | (exfalso;omega) | skip
  all_goals cases a <;> cases x <;> cases f <;> cases p <;> cases r <;> simp_all
  all_goals omega
theorem z0o(k i v n:Int)(S:List (Int×Int))(D:List Int)(sa da:Option Addr)(cs cd sb so db dO:Nat)(w:World)
    (hls:S.length<=maxLen) (hld:D.length<=maxLen) (hsa:0<S.length->sa=some ⟨sb,so,none⟩) (hda:0<D.length->da=some ⟨db,dO,none⟩) (PS:z4R w sb so S) (PD:z0Y w db dO D) :
    Calls prog 34 #[.agg #[.int .i64 k,.int .i64 i,.int .i64 v,.int .i64 n,.slice sa S.length cs,.slice da D.length cd]] w fun e w'=>e=.returned (.int .i64 (z0t k i v n S D))/\Below w.heap.size w w':=by
  have HLS:Hid (S.length<=maxLen):=hls;have HLD:Hid (D.length<=maxLen):=hld;have HSA:Hid (0<S.length->sa=some ⟨sb,so,none⟩):=hsa;have HDA:Hid (0<D.length->da=some ⟨db,dO,none⟩):=hda;clear hls hld hsa hda;have hcs:=z7v k i v n S D;generalize z0t k i v n S D=G at *
  rcases hcs with ⟨h1,rfl⟩ | ⟨h1,h2,rfl⟩ | ⟨h1,h2,⟨h3,rfl⟩ | ⟨h3,h4,rfl⟩ | ⟨h3,h4,⟨h5,h6,rfl⟩ | ⟨h5,h6,h7,rfl⟩ | ⟨h5,h6,h7,h8,rfl⟩ | ⟨⟨h5,h6,h7,h8⟩ | h5,⟨h9,rfl⟩ | ⟨h9,h10,rfl⟩ | ⟨h9,h10,h11,rfl⟩ | ⟨h9,h10,h11,rfl⟩⟩⟩⟩
  all_goals go_enter func34,ntmps34
  all_goals go_wp2_with (first
    | (go_at_call 50;refine (q6n _ _ _ _ _ _ _).mono ?_;rintro e w1 ⟨rfl,hb⟩
       have PS1:=(PS.later (z0u _ _)).later hb;have PD1:=(PD.later (z0u _ _)).later hb;obtain ⟨hc,hf⟩:=q4g hb;have hz:w.heap.size<w1.heap.size:=(by have:=hb.size;simp at this;omega)
       have HB1:Hid (Below w.heap.size w w1):=z2w hb
       clear hb PS PD)
    | (go_at_call 51;refine (z3N _ _).mono ?_;rintro e w' ⟨rfl,rfl⟩)
    | (go_at_call 52;refine (j4F _ _ _ _ _ _ _ _ _ _ _).mono ?_;rintro e w2 ⟨rfl,hb⟩
       have PS2:=PS1.later hb;have PD2:=PD1.later hb;obtain ⟨hc2,hf2⟩:=q4g hb;have hz2:w.heap.size<w2.heap.size:=Nat.lt_of_lt_of_le hz hb.size;have HB2:Hid (Below w.heap.size w w2):=z1K HB1.out hb
       clear hb PS1 PD1 HB1)
    | (go_at_call 53;refine (q5F S sa cs sb so _ HLS.out HSA.out PS2).mono ?_;rintro e w3 ⟨rfl,hb⟩
       have PD3:=PD2.later hb;obtain ⟨hc3,hf3⟩:=q4g hb;have hz3:w.heap.size<w3.heap.size:=Nat.lt_of_lt_of_le hz2 hb.size;have HB3:Hid (Below w.heap.size w w3):=z1K HB2.out hb
       clear hb PS2 PD2 HB2)
    | (go_at_call 54;refine (q8J D da cd db dO _ HLD.out HDA.out PD3).mono ?_;rintro e w' ⟨rfl,rfl⟩))
  all_goals go_ret
  all_goals refine ⟨rfl,?_⟩
  all_goals first | exact HB3.out | exact HB2.out | exact HB1.out | exact z0u _ _
end Cd
end Go.Proofs.YtmopekkhmhhcaaaGreat
