/- Parts of the proof. -/
import Derived.Test.YtjghbciepinofaaGreatPL
import Derived.Test.YtjghbciepinofaaGreatPK18
import Derived.Test.YtjghbciepinofaaGreatPK26
import Derived.Deep.AppendLies
set_option maxRecDepth 100000
set_option maxHeartbeats 16000000
namespace Go.Proofs.YtjghbciepinofaaGreat
open Go.Proofs.Tryz
open Value renaming int->J,slice->J1,pointer->J2,bool->J3,agg->J4
open IntKind renaming i64->I
open Obj renaming cells->J5
namespace Cd
open Go.RowKit
def tkP:Nat->List Int×Bool->List (Int×Int)×(List Int×Bool)
 | 0,st=>([],st)
 | m+1,st=>(((tk 1 st).1,(tk 7 (tk 1 st).2).1) :: (tkP m (tk 7 (tk 1 st).2).2).1,(tkP m (tk 7 (tk 1 st).2).2).2)
def p1(l:List Int):Int×(List Int×Bool):=tk 1 (l,false)
def p2(l:List Int):Int×(List Int×Bool):=tk 6 (p1 l).2
def p3(l:List Int):Int×(List Int×Bool):=tk 1 (p2 l).2
def p4(l:List Int):Int×(List Int×Bool):=tk 7 (p3 l).2
def p5(l:List Int):Int×(List Int×Bool):=tk 1 (p4 l).2
def p6(l:List Int):List (Int×Int)×(List Int×Bool):=tkP (p5 l).1.toNat (p5 l).2
theorem q6c(w:World)(b:Int)(g:Nat)(a:g=w.heap.size):(convert 71 9 (J1 (some ⟨g,0,none⟩) 1 1)).run prog (w.alloc (J5 #[.int .u8 b] 5))=.ok (.string (strOfNums [b])) (w.alloc (J5 #[.int .u8 b] 5)):=by
 subst a;refine run_convert_bytes_arg (P:=prog) _ 71 5 underlying71 underlying5 w.heap.size 0 1 1 [b] rfl (fun j c=>?_) 9 underlying9;have:j=0:=by omega
 subst this
 simp[World.cell?_alloc_at]
theorem z2o(a b:List Int):strOfNums a ++ strOfNums b=strOfNums (a ++ b):=by
 apply WideShapes.bytes_inj;rw[ByteArray.data_append]
 simp[strOfNums_data]
theorem q3V(v:Int)(j:Nat):v / 2 ^ (8 * j) / 256=v / 2 ^ (8 * (j+1)):=by
 rw[q3u,Int.ediv_ediv_of_nonneg (Int.le_of_lt (z9y j))]
theorem z8I(v:Int)(n:Nat)(w:World)(g:0<=v)(a:v<=9223372036854775807)(p:n<=7) :
  Calls prog 102 #[J I v,J I n] w fun e w'=>e=.returned (.string (strOfNums (be v n)))/\Bl w w':=by
 have i:=q6c
 go_enter func102,ntmps102
 go_wp2
 go_loopw [0,1,5] (fun x c s wl=>∃ (j:Nat),j<=n/\x=J I (v / 2 ^ (8 * j))/\c=J I ((n:Int) - j)/\s=.string (strOfNums (be v j))/\Hid (Bl w wl)) (fun _ c _ _=>(intOf c).toNat)
 case atStart=>exact⟨0,Nat.zero_le _,by simp,by simp,rfl,Below.refl _ _⟩
 case round =>
  obtain⟨j,r,rfl,rfl,rfl,b⟩:=hrel;have k:0<=v / 2 ^ (8 * j):=Int.ediv_nonneg g (Int.le_of_lt (z9y j));have l:v / 2 ^ (8 * j)<=9223372036854775807:=Int.le_trans (Int.ediv_le_self _ g) a;have m:Hid (v / 2 ^ (8 * j) / 256=v / 2 ^ (8 * (j+1))):=q3V v j;have h:(strOfNums (be v j)).size<=7:=by rw[strOfNums_size,z0A];omega
  have d:Hid (be v (j+1)=v / 2 ^ (8 * j) % 256 :: be v j):=rfl;generalize v / 2 ^ (8 * j)=q at *
  by_cases o:j<n
  ·have h0:(0:Int)<(n:Int) - j:=by omega
   have h1:(strOfNums [q % 256]).size<=1:=by rw[strOfNums_size];simp
   go_wp2;go_roundw
   case rel=>exact⟨j+1,by omega,by rw[m.out],by go_num,by rw[z2o,d.out];rfl,b.out.alloc b.out.size _⟩
   case measure=>simp[intOf];omega
  ·have f:j=n:=by omega
   subst f;go_wp2;go_ret;exact⟨rfl,b.out⟩
end Cd
end Go.Proofs.YtjghbciepinofaaGreat
