/- Parts of the proof. -/
import Derived.Test.YtmopekkhmhhcaaaGreatEL
import Derived.Test.YtmopekkhmhhcaaaGreatEK43
set_option maxRecDepth 100000
set_option maxHeartbeats 16000000
namespace Go.Proofs.YtmopekkhmhhcaaaGreat
open Go.Proofs.Tryz
namespace Cd
open Go.RowKit
def z0q(k i v n:Int)(S:List (Int×Int))(D:List Int):Int:=
  if k<1∨4<k then 3 else if i<1∨1099511627776<i then 2
  else if z6u k=true/\(isV v=false∨n<1∨1125899906842624<n) then 2
  else if z8v k v n S.length D.length=true then 1
  else if z0e (-1) S=false∨z0i (-1) D=false then 2 else 0
theorem z7B(k i v n:Int)(S:List (Int×Int))(D:List Int) :
    (k<1/\z0q k i v n S D=3)∨(1<=k/\4<k/\z0q k i v n S D=3) ∨
    (1<=k/\k<=4 /\
      ((i<1/\z0q k i v n S D=2)∨(1<=i/\1099511627776<i/\z0q k i v n S D=2) ∨
       (1<=i/\i<=1099511627776 /\
        ((z6u k=true/\isV v=false/\z0q k i v n S D=2)∨(z6u k=true/\isV v=true/\n<1/\z0q k i v n S D=2) ∨
         (z6u k=true/\isV v=true/\1<=n/\1125899906842624<n/\z0q k i v n S D=2) ∨
         (((z6u k=true/\isV v=true/\1<=n/\n<=1125899906842624)∨z6u k=false) /\
          ((z8v k v n S.length D.length=true/\z0q k i v n S D=1) ∨
           (z8v k v n S.length D.length=false/\z0e (-1) S=false/\z0q k i v n S D=2) ∨
           (z8v k v n S.length D.length=false/\z0e (-1) S=true/\z0i (-1) D=false/\z0q k i v n S D=2) ∨
           (z8v k v n S.length D.length=false/\z0e (-1) S=true/\z0i (-1) D=true/\z0q k i v n S D=0))))))):=by
  unfold z0q;generalize z8v k v n S.length D.length=f;generalize z0e (-1) S=p;generalize z0i (-1) D=r;generalize z6u k=a;generalize isV v=x
  rcases Int.lt_or_le k 1 with h | h
  · left;exact ⟨h,by rw[if_pos (Or.inl h)]⟩
  right
  rcases Int.lt_or_le 4 k with h4 | h4
  · left;exact ⟨h,h4,by rw[if_pos (Or.inr h4)]⟩
  right
  rw[if_neg (by omega)]
  refine ⟨h,h4,?_⟩
  rcases Int.lt_or_le i 1 with hi | hi
  · left;exact ⟨hi,by rw[if_pos (Or.inl hi)]⟩
  right
  rcases Int.lt_or_le 1099511627776 i with hi4 | hi4
  · left;exact ⟨hi,hi4,by rw[if_pos (Or.inr hi4)]⟩
  right
  rw[if_neg (by omega)]
  refine ⟨hi,hi4,?_⟩
  rcases Int.lt_or_le n 1 with hn | hn
  all_goals rcases Int.lt_or_le 1125899906842624 n with hn4 | hn4
  all_goals first | (exfalso;omega) | skip
  all_goals cases a <;> cases x <;> cases f <;> cases p <;> cases r <;> simp_all
  all_goals omega
theorem z0l(k i v n:Int)(S:List (Int×Int))(D:List Int)(sa da:Option Addr)(cs cd sb so db dO:Nat)(w:World)
    (hls:S.length<=maxLen) (hld:D.length<=maxLen) (hsa:0<S.length->sa=some ⟨sb,so,none⟩) (hda:0<D.length->da=some ⟨db,dO,none⟩) (PS:z4S w sb so S) (PD:z0Z w db dO D) :
    Calls prog 34 #[.agg #[.int .i64 k,.int .i64 i,.int .i64 v,.int .i64 n,.slice sa S.length cs,.slice da D.length cd]] w fun e w'=>e=.returned (.int .i64 (z0q k i v n S D))/\Below w.heap.size w w':=by
  have HLS:Hid (S.length<=maxLen):=hls;have HLD:Hid (D.length<=maxLen):=hld;have HSA:Hid (0<S.length->sa=some ⟨sb,so,none⟩):=hsa;have HDA:Hid (0<D.length->da=some ⟨db,dO,none⟩):=hda;clear hls hld hsa hda;have hcs:=z7B k i v n S D;generalize z0q k i v n S D=G at *
  rcases hcs with ⟨h1,rfl⟩ | ⟨h1,h2,rfl⟩ | ⟨h1,h2,⟨h3,rfl⟩ | ⟨h3,h4,rfl⟩ | ⟨h3,h4,⟨h5,h6,rfl⟩ | ⟨h5,h6,h7,rfl⟩ | ⟨h5,h6,h7,h8,rfl⟩ | ⟨⟨h5,h6,h7,h8⟩ | h5,⟨h9,rfl⟩ | ⟨h9,h10,rfl⟩ | ⟨h9,h10,h11,rfl⟩ | ⟨h9,h10,h11,rfl⟩⟩⟩⟩
  all_goals go_enter func34,ntmps34
  all_goals go_wp2_with (first
    | (go_at_call 50;refine (q8n _ _ _ _ _ _ _).mono ?_;rintro e w1 ⟨rfl,hb⟩
       have PS1:=(PS.later (z0s _ _)).later hb;have PD1:=(PD.later (z0s _ _)).later hb;obtain ⟨hc,hf⟩:=q5C hb;have hz:w.heap.size<w1.heap.size:=(by have:=hb.size;simp at this;omega)
       have HB1:Hid (Below w.heap.size w w1):=z2E hb
       clear hb PS PD)
    | (go_at_call 51;refine (z3K _ _).mono ?_;rintro e w' ⟨rfl,rfl⟩)
    | (go_at_call 52;refine (j3N _ _ _ _ _ _ _ _ _ _ _).mono ?_;rintro e w2 ⟨rfl,hb⟩
       have PS2:=PS1.later hb;have PD2:=PD1.later hb;obtain ⟨hc2,hf2⟩:=q5C hb;have hz2:w.heap.size<w2.heap.size:=Nat.lt_of_lt_of_le hz hb.size;have HB2:Hid (Below w.heap.size w w2):=z1Q HB1.out hb
       clear hb PS1 PD1 HB1)
    | (go_at_call 53;refine (q3P S sa cs sb so _ HLS.out HSA.out PS2).mono ?_;rintro e w3 ⟨rfl,hb⟩
       have PD3:=PD2.later hb;obtain ⟨hc3,hf3⟩:=q5C hb;have hz3:w.heap.size<w3.heap.size:=Nat.lt_of_lt_of_le hz2 hb.size;have HB3:Hid (Below w.heap.size w w3):=z1Q HB2.out hb
       clear hb PS2 PD2 HB2)
    | (go_at_call 54;refine (q9e D da cd db dO _ HLD.out HDA.out PD3).mono ?_;rintro e w' ⟨rfl,rfl⟩))
  all_goals go_ret
  all_goals refine ⟨rfl,?_⟩
  all_goals first | exact HB3.out | exact HB2.out | exact HB1.out | exact z0s _ _
end Cd
end Go.Proofs.YtmopekkhmhhcaaaGreat
