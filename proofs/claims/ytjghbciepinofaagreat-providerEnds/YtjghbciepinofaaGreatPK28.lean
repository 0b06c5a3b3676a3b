/- Parts of the proof. -/
import Derived.Test.YtjghbciepinofaaGreatPL
import Derived.Test.YtjghbciepinofaaGreatPK2
import Derived.Test.YtjghbciepinofaaGreatPK3
import Derived.Test.YtjghbciepinofaaGreatPK4
import Derived.Test.YtjghbciepinofaaGreatPK5
import Derived.Test.YtjghbciepinofaaGreatPK6
import Derived.Test.YtjghbciepinofaaGreatPK7
import Derived.Test.YtjghbciepinofaaGreatPK15
import Derived.Test.YtjghbciepinofaaGreatPK20
import Derived.RegionTactic
import Derived.ChangeAlike
set_option maxRecDepth 100000
set_option maxHeartbeats 16000000
namespace Go.Proofs.YtjghbciepinofaaGreat
open Go.Proofs.Tryz
open Value renaming int->J,slice->J1,pointer->J2,bool->J3,agg->J4
open IntKind renaming i64->I
open Obj renaming cells->J5
section
open Go.RowKit
theorem j0E(b:Bk)(n:Int)(c:Nat)(w:World)(g:w.cell? ⟨c,0,none⟩=some (J I 0))(f:c<w.heap.size) :
  Calls prog 114 #[J4 #[J I b.f0,J I b.f1,J I b.f2,J I b.f3,J I b.bo,J I b.wa,J I b.bu],(.func (.func 125) #[] #[J2 (some ⟨c,0,none⟩)]),(.func (.func 122) #[] #[]),J I n] w fun e w'=>e=.returned (.tuple #[J4 #[J I (mv b 0 4 n).1.f0,J I (mv b 0 4 n).1.f1,J I (mv b 0 4 n).1.f2,J I (mv b 0 4 n).1.f3,J I (mv b 0 4 n).1.bo,J I (mv b 0 4 n).1.wa,J I (mv b 0 4 n).1.bu],J I (mv b 0 4 n).2])/\Bl w w':=by
 by_cases d:b.good=true
 ·by_cases a:0<=n/\n<=1125899906842624
  ·have h1:¬ (b.good=false∨¬ (0<=n/\n<=1125899906842624)):=by rw[d];simp[a]
   by_cases hl:b.f0<n
   ·have e:mv b 0 4 n=(b,7):=by rw[mv,if_neg h1,if_pos (show b.get 0<n from hl)]
    rw[e];exact z7F b.f0 b.f1 b.f2 b.f3 b.bo b.wa b.bu n c _ w g f d a.1 a.2 hl
   ·have e:mv b 0 4 n=((b.put 0 (b.f0 - n)).put 4 (b.bo+n),0):=by rw[mv,if_neg h1,if_neg (show ¬ b.get 0<n from hl)];rfl
    rw[e];exact q1a b.f0 b.f1 b.f2 b.f3 b.bo b.wa b.bu n c w g f d a.1 a.2 (by omega)
  ·have e:mv b 0 4 n=(b,2):=by rw[mv,if_pos (.inr a)]
   rw[e];exact z0B b.f0 b.f1 b.f2 b.f3 b.bo b.wa b.bu n _ _ w d a
 ·have e:mv b 0 4 n=(b,2):=by rw[mv,if_pos (.inl (by simpa using d))]
  rw[e];exact z0x b.f0 b.f1 b.f2 b.f3 b.bo b.wa b.bu n _ _ w (by simpa [Bk.good] using d)
theorem j0q(b:Bk)(n:Int)(c:Nat)(w:World)(g:w.cell? ⟨c,0,none⟩=some (J I 1))(f:c<w.heap.size) :
  Calls prog 114 #[J4 #[J I b.f0,J I b.f1,J I b.f2,J I b.f3,J I b.bo,J I b.wa,J I b.bu],(.func (.func 125) #[] #[J2 (some ⟨c,0,none⟩)]),(.func (.func 122) #[] #[]),J I n] w fun e w'=>e=.returned (.tuple #[J4 #[J I (mv b 1 4 n).1.f0,J I (mv b 1 4 n).1.f1,J I (mv b 1 4 n).1.f2,J I (mv b 1 4 n).1.f3,J I (mv b 1 4 n).1.bo,J I (mv b 1 4 n).1.wa,J I (mv b 1 4 n).1.bu],J I (mv b 1 4 n).2])/\Bl w w':=by
 by_cases d:b.good=true
 ·by_cases a:0<=n/\n<=1125899906842624
  ·have h1:¬ (b.good=false∨¬ (0<=n/\n<=1125899906842624)):=by rw[d];simp[a]
   by_cases hl:b.f1<n
   ·have e:mv b 1 4 n=(b,7):=by rw[mv,if_neg h1,if_pos (show b.get 1<n from hl)]
    rw[e];exact z8t b.f0 b.f1 b.f2 b.f3 b.bo b.wa b.bu n c _ w g f d a.1 a.2 hl
   ·have e:mv b 1 4 n=((b.put 1 (b.f1 - n)).put 4 (b.bo+n),0):=by rw[mv,if_neg h1,if_neg (show ¬ b.get 1<n from hl)];rfl
    rw[e];exact q0T b.f0 b.f1 b.f2 b.f3 b.bo b.wa b.bu n c w g f d a.1 a.2 (by omega)
  ·have e:mv b 1 4 n=(b,2):=by rw[mv,if_pos (.inr a)]
   rw[e];exact z0B b.f0 b.f1 b.f2 b.f3 b.bo b.wa b.bu n _ _ w d a
 ·have e:mv b 1 4 n=(b,2):=by rw[mv,if_pos (.inl (by simpa using d))]
  rw[e];exact z0x b.f0 b.f1 b.f2 b.f3 b.bo b.wa b.bu n _ _ w (by simpa [Bk.good] using d)
theorem j0M(b:Bk)(n:Int)(c:Nat)(w:World)(g:w.cell? ⟨c,0,none⟩=some (J I 2))(f:c<w.heap.size) :
  Calls prog 114 #[J4 #[J I b.f0,J I b.f1,J I b.f2,J I b.f3,J I b.bo,J I b.wa,J I b.bu],(.func (.func 125) #[] #[J2 (some ⟨c,0,none⟩)]),(.func (.func 122) #[] #[]),J I n] w fun e w'=>e=.returned (.tuple #[J4 #[J I (mv b 2 4 n).1.f0,J I (mv b 2 4 n).1.f1,J I (mv b 2 4 n).1.f2,J I (mv b 2 4 n).1.f3,J I (mv b 2 4 n).1.bo,J I (mv b 2 4 n).1.wa,J I (mv b 2 4 n).1.bu],J I (mv b 2 4 n).2])/\Bl w w':=by
 by_cases d:b.good=true
 ·by_cases a:0<=n/\n<=1125899906842624
  ·have h1:¬ (b.good=false∨¬ (0<=n/\n<=1125899906842624)):=by rw[d];simp[a]
   by_cases hl:b.f2<n
   ·have e:mv b 2 4 n=(b,7):=by rw[mv,if_neg h1,if_pos (show b.get 2<n from hl)]
    rw[e];exact z7G b.f0 b.f1 b.f2 b.f3 b.bo b.wa b.bu n c _ w g f d a.1 a.2 hl
   ·have e:mv b 2 4 n=((b.put 2 (b.f2 - n)).put 4 (b.bo+n),0):=by rw[mv,if_neg h1,if_neg (show ¬ b.get 2<n from hl)];rfl
    rw[e];exact q1s b.f0 b.f1 b.f2 b.f3 b.bo b.wa b.bu n c w g f d a.1 a.2 (by omega)
  ·have e:mv b 2 4 n=(b,2):=by rw[mv,if_pos (.inr a)]
   rw[e];exact z0B b.f0 b.f1 b.f2 b.f3 b.bo b.wa b.bu n _ _ w d a
 ·have e:mv b 2 4 n=(b,2):=by rw[mv,if_pos (.inl (by simpa using d))]
  rw[e];exact z0x b.f0 b.f1 b.f2 b.f3 b.bo b.wa b.bu n _ _ w (by simpa [Bk.good] using d)
theorem j0e(b:Bk)(n:Int)(c:Nat)(w:World)(g:w.cell? ⟨c,0,none⟩=some (J I 3))(f:c<w.heap.size) :
  Calls prog 114 #[J4 #[J I b.f0,J I b.f1,J I b.f2,J I b.f3,J I b.bo,J I b.wa,J I b.bu],(.func (.func 125) #[] #[J2 (some ⟨c,0,none⟩)]),(.func (.func 122) #[] #[]),J I n] w fun e w'=>e=.returned (.tuple #[J4 #[J I (mv b 3 4 n).1.f0,J I (mv b 3 4 n).1.f1,J I (mv b 3 4 n).1.f2,J I (mv b 3 4 n).1.f3,J I (mv b 3 4 n).1.bo,J I (mv b 3 4 n).1.wa,J I (mv b 3 4 n).1.bu],J I (mv b 3 4 n).2])/\Bl w w':=by
 by_cases d:b.good=true
 ·by_cases a:0<=n/\n<=1125899906842624
  ·have h1:¬ (b.good=false∨¬ (0<=n/\n<=1125899906842624)):=by rw[d];simp[a]
   by_cases hl:b.f3<n
   ·have e:mv b 3 4 n=(b,7):=by rw[mv,if_neg h1,if_pos (show b.get 3<n from hl)]
    rw[e];exact z7N b.f0 b.f1 b.f2 b.f3 b.bo b.wa b.bu n c _ w g f d a.1 a.2 hl
   ·have e:mv b 3 4 n=((b.put 3 (b.f3 - n)).put 4 (b.bo+n),0):=by rw[mv,if_neg h1,if_neg (show ¬ b.get 3<n from hl)];rfl
    rw[e];exact q1f b.f0 b.f1 b.f2 b.f3 b.bo b.wa b.bu n c w g f d a.1 a.2 (by omega)
  ·have e:mv b 3 4 n=(b,2):=by rw[mv,if_pos (.inr a)]
   rw[e];exact z0B b.f0 b.f1 b.f2 b.f3 b.bo b.wa b.bu n _ _ w d a
 ·have e:mv b 3 4 n=(b,2):=by rw[mv,if_pos (.inl (by simpa using d))]
  rw[e];exact z0x b.f0 b.f1 b.f2 b.f3 b.bo b.wa b.bu n _ _ w (by simpa [Bk.good] using d)
theorem q9X(b:Bk)(n:Int)(c:Nat)(w:World)(g:w.cell? ⟨c,0,none⟩=some (J I 0))(f:c<w.heap.size) :
  Calls prog 114 #[J4 #[J I b.f0,J I b.f1,J I b.f2,J I b.f3,J I b.bo,J I b.wa,J I b.bu],(.func (.func 123) #[] #[]),(.func (.func 125) #[] #[J2 (some ⟨c,0,none⟩)]),J I n] w fun e w'=>e=.returned (.tuple #[J4 #[J I (mv b 5 0 n).1.f0,J I (mv b 5 0 n).1.f1,J I (mv b 5 0 n).1.f2,J I (mv b 5 0 n).1.f3,J I (mv b 5 0 n).1.bo,J I (mv b 5 0 n).1.wa,J I (mv b 5 0 n).1.bu],J I (mv b 5 0 n).2])/\Bl w w':=by
 by_cases d:b.good=true
 ·by_cases a:0<=n/\n<=1125899906842624
  ·have h1:¬ (b.good=false∨¬ (0<=n/\n<=1125899906842624)):=by rw[d];simp[a]
   by_cases hl:b.wa<n
   ·have e:mv b 5 0 n=(b,7):=by rw[mv,if_neg h1,if_pos (show b.get 5<n from hl)]
    rw[e];exact z1V b.f0 b.f1 b.f2 b.f3 b.bo b.wa b.bu n _ w d a.1 a.2 hl
   ·have e:mv b 5 0 n=((b.put 5 (b.wa - n)).put 0 (b.f0+n),0):=by rw[mv,if_neg h1,if_neg (show ¬ b.get 5<n from hl)];rfl
    rw[e];exact q1r b.f0 b.f1 b.f2 b.f3 b.bo b.wa b.bu n c w g f d a.1 a.2 (by omega)
  ·have e:mv b 5 0 n=(b,2):=by rw[mv,if_pos (.inr a)]
   rw[e];exact z0B b.f0 b.f1 b.f2 b.f3 b.bo b.wa b.bu n _ _ w d a
 ·have e:mv b 5 0 n=(b,2):=by rw[mv,if_pos (.inl (by simpa using d))]
  rw[e];exact z0x b.f0 b.f1 b.f2 b.f3 b.bo b.wa b.bu n _ _ w (by simpa [Bk.good] using d)
theorem q9Y(b:Bk)(n:Int)(c:Nat)(w:World)(g:w.cell? ⟨c,0,none⟩=some (J I 1))(f:c<w.heap.size) :
  Calls prog 114 #[J4 #[J I b.f0,J I b.f1,J I b.f2,J I b.f3,J I b.bo,J I b.wa,J I b.bu],(.func (.func 123) #[] #[]),(.func (.func 125) #[] #[J2 (some ⟨c,0,none⟩)]),J I n] w fun e w'=>e=.returned (.tuple #[J4 #[J I (mv b 5 1 n).1.f0,J I (mv b 5 1 n).1.f1,J I (mv b 5 1 n).1.f2,J I (mv b 5 1 n).1.f3,J I (mv b 5 1 n).1.bo,J I (mv b 5 1 n).1.wa,J I (mv b 5 1 n).1.bu],J I (mv b 5 1 n).2])/\Bl w w':=by
 by_cases d:b.good=true
 ·by_cases a:0<=n/\n<=1125899906842624
  ·have h1:¬ (b.good=false∨¬ (0<=n/\n<=1125899906842624)):=by rw[d];simp[a]
   by_cases hl:b.wa<n
   ·have e:mv b 5 1 n=(b,7):=by rw[mv,if_neg h1,if_pos (show b.get 5<n from hl)]
    rw[e];exact z1V b.f0 b.f1 b.f2 b.f3 b.bo b.wa b.bu n _ w d a.1 a.2 hl
   ·have e:mv b 5 1 n=((b.put 5 (b.wa - n)).put 1 (b.f1+n),0):=by rw[mv,if_neg h1,if_neg (show ¬ b.get 5<n from hl)];rfl
    rw[e];exact q1t b.f0 b.f1 b.f2 b.f3 b.bo b.wa b.bu n c w g f d a.1 a.2 (by omega)
  ·have e:mv b 5 1 n=(b,2):=by rw[mv,if_pos (.inr a)]
   rw[e];exact z0B b.f0 b.f1 b.f2 b.f3 b.bo b.wa b.bu n _ _ w d a
 ·have e:mv b 5 1 n=(b,2):=by rw[mv,if_pos (.inl (by simpa using d))]
  rw[e];exact z0x b.f0 b.f1 b.f2 b.f3 b.bo b.wa b.bu n _ _ w (by simpa [Bk.good] using d)
theorem j0p(b:Bk)(n:Int)(c:Nat)(w:World)(g:w.cell? ⟨c,0,none⟩=some (J I 2))(f:c<w.heap.size) :
  Calls prog 114 #[J4 #[J I b.f0,J I b.f1,J I b.f2,J I b.f3,J I b.bo,J I b.wa,J I b.bu],(.func (.func 123) #[] #[]),(.func (.func 125) #[] #[J2 (some ⟨c,0,none⟩)]),J I n] w fun e w'=>e=.returned (.tuple #[J4 #[J I (mv b 5 2 n).1.f0,J I (mv b 5 2 n).1.f1,J I (mv b 5 2 n).1.f2,J I (mv b 5 2 n).1.f3,J I (mv b 5 2 n).1.bo,J I (mv b 5 2 n).1.wa,J I (mv b 5 2 n).1.bu],J I (mv b 5 2 n).2])/\Bl w w':=by
 by_cases d:b.good=true
 ·by_cases a:0<=n/\n<=1125899906842624
  ·have h1:¬ (b.good=false∨¬ (0<=n/\n<=1125899906842624)):=by rw[d];simp[a]
   by_cases hl:b.wa<n
   ·have e:mv b 5 2 n=(b,7):=by rw[mv,if_neg h1,if_pos (show b.get 5<n from hl)]
    rw[e];exact z1V b.f0 b.f1 b.f2 b.f3 b.bo b.wa b.bu n _ w d a.1 a.2 hl
   ·have e:mv b 5 2 n=((b.put 5 (b.wa - n)).put 2 (b.f2+n),0):=by rw[mv,if_neg h1,if_neg (show ¬ b.get 5<n from hl)];rfl
    rw[e];exact q1k b.f0 b.f1 b.f2 b.f3 b.bo b.wa b.bu n c w g f d a.1 a.2 (by omega)
  ·have e:mv b 5 2 n=(b,2):=by rw[mv,if_pos (.inr a)]
   rw[e];exact z0B b.f0 b.f1 b.f2 b.f3 b.bo b.wa b.bu n _ _ w d a
 ·have e:mv b 5 2 n=(b,2):=by rw[mv,if_pos (.inl (by simpa using d))]
  rw[e];exact z0x b.f0 b.f1 b.f2 b.f3 b.bo b.wa b.bu n _ _ w (by simpa [Bk.good] using d)
theorem j0c(b:Bk)(n:Int)(c:Nat)(w:World)(g:w.cell? ⟨c,0,none⟩=some (J I 3))(f:c<w.heap.size) :
  Calls prog 114 #[J4 #[J I b.f0,J I b.f1,J I b.f2,J I b.f3,J I b.bo,J I b.wa,J I b.bu],(.func (.func 123) #[] #[]),(.func (.func 125) #[] #[J2 (some ⟨c,0,none⟩)]),J I n] w fun e w'=>e=.returned (.tuple #[J4 #[J I (mv b 5 3 n).1.f0,J I (mv b 5 3 n).1.f1,J I (mv b 5 3 n).1.f2,J I (mv b 5 3 n).1.f3,J I (mv b 5 3 n).1.bo,J I (mv b 5 3 n).1.wa,J I (mv b 5 3 n).1.bu],J I (mv b 5 3 n).2])/\Bl w w':=by
 by_cases d:b.good=true
 ·by_cases a:0<=n/\n<=1125899906842624
  ·have h1:¬ (b.good=false∨¬ (0<=n/\n<=1125899906842624)):=by rw[d];simp[a]
   by_cases hl:b.wa<n
   ·have e:mv b 5 3 n=(b,7):=by rw[mv,if_neg h1,if_pos (show b.get 5<n from hl)]
    rw[e];exact z1V b.f0 b.f1 b.f2 b.f3 b.bo b.wa b.bu n _ w d a.1 a.2 hl
   ·have e:mv b 5 3 n=((b.put 5 (b.wa - n)).put 3 (b.f3+n),0):=by rw[mv,if_neg h1,if_neg (show ¬ b.get 5<n from hl)];rfl
    rw[e];exact q0E b.f0 b.f1 b.f2 b.f3 b.bo b.wa b.bu n c w g f d a.1 a.2 (by omega)
  ·have e:mv b 5 3 n=(b,2):=by rw[mv,if_pos (.inr a)]
   rw[e];exact z0B b.f0 b.f1 b.f2 b.f3 b.bo b.wa b.bu n _ _ w d a
 ·have e:mv b 5 3 n=(b,2):=by rw[mv,if_pos (.inl (by simpa using d))]
  rw[e];exact z0x b.f0 b.f1 b.f2 b.f3 b.bo b.wa b.bu n _ _ w (by simpa [Bk.good] using d)
theorem j1w(b:Bk)(n:Int)(w:World) :
  Calls prog 114 #[J4 #[J I b.f0,J I b.f1,J I b.f2,J I b.f3,J I b.bo,J I b.wa,J I b.bu],(.func (.func 122) #[] #[]),(.func (.func 123) #[] #[]),J I n] w fun e w'=>e=.returned (.tuple #[J4 #[J I (mv b 4 5 n).1.f0,J I (mv b 4 5 n).1.f1,J I (mv b 4 5 n).1.f2,J I (mv b 4 5 n).1.f3,J I (mv b 4 5 n).1.bo,J I (mv b 4 5 n).1.wa,J I (mv b 4 5 n).1.bu],J I (mv b 4 5 n).2])/\Bl w w':=by
 by_cases c:b.good=true
 ·by_cases a:0<=n/\n<=1125899906842624
  ·have h1:¬ (b.good=false∨¬ (0<=n/\n<=1125899906842624)):=by rw[c];simp[a]
   by_cases hl:b.bo<n
   ·have e:mv b 4 5 n=(b,7):=by rw[mv,if_neg h1,if_pos (show b.get 4<n from hl)]
    rw[e];exact z4S b.f0 b.f1 b.f2 b.f3 b.bo b.wa b.bu n _ w c a.1 a.2 hl
   ·have e:mv b 4 5 n=((b.put 4 (b.bo - n)).put 5 (b.wa+n),0):=by rw[mv,if_neg h1,if_neg (show ¬ b.get 4<n from hl)];rfl
    rw[e];exact q1B b.f0 b.f1 b.f2 b.f3 b.bo b.wa b.bu n w c a.1 a.2 (by omega)
  ·have e:mv b 4 5 n=(b,2):=by rw[mv,if_pos (.inr a)]
   rw[e];exact z0B b.f0 b.f1 b.f2 b.f3 b.bo b.wa b.bu n _ _ w c a
 ·have e:mv b 4 5 n=(b,2):=by rw[mv,if_pos (.inl (by simpa using c))]
  rw[e];exact z0x b.f0 b.f1 b.f2 b.f3 b.bo b.wa b.bu n _ _ w (by simpa [Bk.good] using c)
theorem j0h(b:Bk)(n:Int)(w:World) :
  Calls prog 114 #[J4 #[J I b.f0,J I b.f1,J I b.f2,J I b.f3,J I b.bo,J I b.wa,J I b.bu],(.func (.func 122) #[] #[]),(.func (.func 124) #[] #[]),J I n] w fun e w'=>e=.returned (.tuple #[J4 #[J I (mv b 4 6 n).1.f0,J I (mv b 4 6 n).1.f1,J I (mv b 4 6 n).1.f2,J I (mv b 4 6 n).1.f3,J I (mv b 4 6 n).1.bo,J I (mv b 4 6 n).1.wa,J I (mv b 4 6 n).1.bu],J I (mv b 4 6 n).2])/\Bl w w':=by
 by_cases c:b.good=true
 ·by_cases a:0<=n/\n<=1125899906842624
  ·have h1:¬ (b.good=false∨¬ (0<=n/\n<=1125899906842624)):=by rw[c];simp[a]
   by_cases hl:b.bo<n
   ·have e:mv b 4 6 n=(b,7):=by rw[mv,if_neg h1,if_pos (show b.get 4<n from hl)]
    rw[e];exact z4S b.f0 b.f1 b.f2 b.f3 b.bo b.wa b.bu n _ w c a.1 a.2 hl
   ·have e:mv b 4 6 n=((b.put 4 (b.bo - n)).put 6 (b.bu+n),0):=by rw[mv,if_neg h1,if_neg (show ¬ b.get 4<n from hl)];rfl
    rw[e];exact q1D b.f0 b.f1 b.f2 b.f3 b.bo b.wa b.bu n w c a.1 a.2 (by omega)
  ·have e:mv b 4 6 n=(b,2):=by rw[mv,if_pos (.inr a)]
   rw[e];exact z0B b.f0 b.f1 b.f2 b.f3 b.bo b.wa b.bu n _ _ w c a
 ·have e:mv b 4 6 n=(b,2):=by rw[mv,if_pos (.inl (by simpa using c))]
  rw[e];exact z0x b.f0 b.f1 b.f2 b.f3 b.bo b.wa b.bu n _ _ w (by simpa [Bk.good] using c)
theorem j0u(b:Bk)(n:Int)(w:World) :
  Calls prog 114 #[J4 #[J I b.f0,J I b.f1,J I b.f2,J I b.f3,J I b.bo,J I b.wa,J I b.bu],(.func (.func 123) #[] #[]),(.func (.func 124) #[] #[]),J I n] w fun e w'=>e=.returned (.tuple #[J4 #[J I (mv b 5 6 n).1.f0,J I (mv b 5 6 n).1.f1,J I (mv b 5 6 n).1.f2,J I (mv b 5 6 n).1.f3,J I (mv b 5 6 n).1.bo,J I (mv b 5 6 n).1.wa,J I (mv b 5 6 n).1.bu],J I (mv b 5 6 n).2])/\Bl w w':=by
 by_cases c:b.good=true
 ·by_cases a:0<=n/\n<=1125899906842624
  ·have h1:¬ (b.good=false∨¬ (0<=n/\n<=1125899906842624)):=by rw[c];simp[a]
   by_cases hl:b.wa<n
   ·have e:mv b 5 6 n=(b,7):=by rw[mv,if_neg h1,if_pos (show b.get 5<n from hl)]
    rw[e];exact z1V b.f0 b.f1 b.f2 b.f3 b.bo b.wa b.bu n _ w c a.1 a.2 hl
   ·have e:mv b 5 6 n=((b.put 5 (b.wa - n)).put 6 (b.bu+n),0):=by rw[mv,if_neg h1,if_neg (show ¬ b.get 5<n from hl)];rfl
    rw[e];exact q0D b.f0 b.f1 b.f2 b.f3 b.bo b.wa b.bu n w c a.1 a.2 (by omega)
  ·have e:mv b 5 6 n=(b,2):=by rw[mv,if_pos (.inr a)]
   rw[e];exact z0B b.f0 b.f1 b.f2 b.f3 b.bo b.wa b.bu n _ _ w c a
 ·have e:mv b 5 6 n=(b,2):=by rw[mv,if_pos (.inl (by simpa using c))]
  rw[e];exact z0x b.f0 b.f1 b.f2 b.f3 b.bo b.wa b.bu n _ _ w (by simpa [Bk.good] using c)
theorem q5L(b:Bk)(d n:Int)(w:World):Calls prog 106 #[J4 #[J I b.f0,J I b.f1,J I b.f2,J I b.f3,J I b.bo,J I b.wa,J I b.bu],J I d,J I n] w fun e w'=>e=.returned (.tuple #[J4 #[J I (z2P b d n).1.f0,J I (z2P b d n).1.f1,J I (z2P b d n).1.f2,J I (z2P b d n).1.f3,J I (z2P b d n).1.bo,J I (z2P b d n).1.wa,J I (z2P b d n).1.bu],J I (z2P b d n).2])/\Bl w w':=by
 by_cases h:0<=d/\d<4
 ·rw[z2P,if_pos h];refine q2O b.f0 b.f1 b.f2 b.f3 b.bo b.wa b.bu d n (mv b d.toNat 4 n).1.f0 (mv b d.toNat 4 n).1.f1 (mv b d.toNat 4 n).1.f2 (mv b d.toNat 4 n).1.f3 (mv b d.toNat 4 n).1.bo (mv b d.toNat 4 n).1.wa (mv b d.toNat 4 n).1.bu (mv b d.toNat 4 n).2 w h.1 h.2 ?_;intro c w f a
  rcases (show d=0∨d=1∨d=2∨d=3 by omega) with rfl | rfl | rfl | rfl
  ·exact j0E b n c w f a
  ·exact j0q b n c w f a
  ·exact j0M b n c w f a
  ·exact j0e b n c w f a
 ·rw[z2P,if_neg h];exact q7L b.f0 b.f1 b.f2 b.f3 b.bo b.wa b.bu d n w h
theorem q7S(b:Bk)(d n:Int)(w:World):Calls prog 69 #[J4 #[J I b.f0,J I b.f1,J I b.f2,J I b.f3,J I b.bo,J I b.wa,J I b.bu],J I d,J I n] w fun e w'=>e=.returned (.tuple #[J4 #[J I (z3R b d n).1.f0,J I (z3R b d n).1.f1,J I (z3R b d n).1.f2,J I (z3R b d n).1.f3,J I (z3R b d n).1.bo,J I (z3R b d n).1.wa,J I (z3R b d n).1.bu],J I (z3R b d n).2])/\Bl w w':=by
 by_cases h:0<=d/\d<4
 ·rw[z3R,if_pos h];refine q5r b.f0 b.f1 b.f2 b.f3 b.bo b.wa b.bu d n (mv b 5 d.toNat n).1.f0 (mv b 5 d.toNat n).1.f1 (mv b 5 d.toNat n).1.f2 (mv b 5 d.toNat n).1.f3 (mv b 5 d.toNat n).1.bo (mv b 5 d.toNat n).1.wa (mv b 5 d.toNat n).1.bu (mv b 5 d.toNat n).2 w h.1 h.2 ?_;intro c w f a
  rcases (show d=0∨d=1∨d=2∨d=3 by omega) with rfl | rfl | rfl | rfl
  ·exact q9X b n c w f a
  ·exact q9Y b n c w f a
  ·exact j0p b n c w f a
  ·exact j0c b n c w f a
 ·rw[z3R,if_neg h];exact q9v b.f0 b.f1 b.f2 b.f3 b.bo b.wa b.bu d n w h
theorem q6b(b:Bk)(x y:Int)(w:World):Calls prog 166 #[J4 #[J I b.f0,J I b.f1,J I b.f2,J I b.f3,J I b.bo,J I b.wa,J I b.bu],J I x,J I y] w fun e w'=>e=.returned (.tuple #[J4 #[J I (z0Y b x y).1.f0,J I (z0Y b x y).1.f1,J I (z0Y b x y).1.f2,J I (z0Y b x y).1.f3,J I (z0Y b x y).1.bo,J I (z0Y b x y).1.wa,J I (z0Y b x y).1.bu],J I (z0Y b x y).2])/\Bl w w':=by
 refine q4D b.f0 b.f1 b.f2 b.f3 b.bo b.wa b.bu x y (mv b 4 6 x).1.f0 (mv b 4 6 x).1.f1 (mv b 4 6 x).1.f2 (mv b 4 6 x).1.f3 (mv b 4 6 x).1.bo (mv b 4 6 x).1.wa (mv b 4 6 x).1.bu (mv b 4 6 x).2 (mv (mv b 4 6 x).1 5 6 y).1.f0 (mv (mv b 4 6 x).1 5 6 y).1.f1 (mv (mv b 4 6 x).1 5 6 y).1.f2 (mv (mv b 4 6 x).1 5 6 y).1.f3 (mv (mv b 4 6 x).1 5 6 y).1.bo (mv (mv b 4 6 x).1 5 6 y).1.wa (mv (mv b 4 6 x).1 5 6 y).1.bu (mv (mv b 4 6 x).1 5 6 y).2 (z0Y b x y).1.f0 (z0Y b x y).1.f1 (z0Y b x y).1.f2 (z0Y b x y).1.f3 (z0Y b x y).1.bo (z0Y b x y).1.wa (z0Y b x y).1.bu (z0Y b x y).2 w ?_ (j0h b x) (j0u (mv b 4 6 x).1 y);unfold z0Y
 by_cases h1:(mv b 4 6 x).2=0
 ·by_cases h2:(mv (mv b 4 6 x).1 5 6 y).2=0
  ·rw[if_pos h1,if_pos h2];exact .inr (.inr ⟨h1,h2,rfl,rfl,rfl,rfl,rfl,rfl,rfl,rfl⟩)
  ·rw[if_pos h1,if_neg h2];exact .inr (.inl ⟨h1,h2,rfl,rfl,rfl,rfl,rfl,rfl,rfl,rfl⟩)
 ·rw[if_neg h1];exact .inl ⟨h1,rfl,rfl,rfl,rfl,rfl,rfl,rfl,rfl⟩
end
section
open Go.RowKit
theorem q3s{s:St}{d v n:Int}(h:z1i s d v≠0):z1u s d v n=(s,z1i s d v):=if_neg h
theorem q1b{s:St}{d v n:Int}(h:z1i s d v=0)(h1:(s.V v.toNat).dead=true):z1u s d v n=(s,15):=by rw[z1u,if_pos h,if_pos h1]
theorem z9i{s:St}{d v n:Int}(h:z1i s d v=0)(h1:(s.V v.toNat).dead=false)(h2:(decide (0<n) && inA n)=false):z1u s d v n=(s,2):=by rw[z1u,if_pos h,if_neg (by simp[h1]),if_neg (by simp[h2])]
theorem q3N{s:St}{d v n:Int}(h:z1i s d v=0)(h1:(s.V v.toNat).dead=false)(h2:(decide (0<n) && inA n)=true)(h3:shE (s.V v.toNat) n≠0):z1u s d v n=(s,shE (s.V v.toNat) n):=by rw[z1u,if_pos h,if_neg (by simp[h1]),if_pos h2,if_neg h3]
theorem q1S{s:St}{d v n:Int}(h:z1i s d v=0)(h1:(s.V v.toNat).dead=false)(h2:(decide (0<n) && inA n)=true)(h3:shE (s.V v.toNat) n=0)(a:(z2P s.b d n).2≠0):z1u s d v n=(s,(z2P s.b d n).2):=by rw[z1u,if_pos h,if_neg (by simp[h1]),if_pos h2,if_pos h3,if_neg a]
theorem q5c{s:St}{d v n:Int}(h:z1i s d v=0)(h1:(s.V v.toNat).dead=false)(h2:(decide (0<n) && inA n)=true)(h3:shE (s.V v.toNat) n=0)(a:(z2P s.b d n).2=0):z1u s d v n=(q6q { s with b:=(z2P s.b d n).1 } d.toNat v.toNat n (shN (s.V v.toNat) n),0):=by rw[z1u,if_pos h,if_neg (by simp[h1]),if_pos h2,if_pos h3,if_pos a]
theorem q5K{s:St}{d v:Int}(h:z1i s d v=0):z0j s=true/\(0<=v/\v<6)/\(0<=d/\d<4):=by
 unfold z1i z4W at h
 repeat' split at h
 all_goals first | (simp_all [z3g,z5v];done) | omega
theorem z8h{s:St}(h:z0j s=true)(k:Nat)(a:k<6):vOk (s.V k)=true/\z2F s.S k 4=true:=by
 unfold z0j at h;simp only[Bool.and_eq_true]at h;have:=z6h h.1.2 a;unfold z6t q0d at this;simp only[Bool.and_eq_true]at this;exact⟨this.1,this.2.1⟩
theorem q9Q{S:Nat->Nat->Int}{v d:Nat}(h:z2F S v 4=true)(hd:d<4):inA (S d v)=true:=by
 simp only[z2F,Bool.and_eq_true]at h
 rcases (show d=0∨d=1∨d=2∨d=3 by omega) with rfl | rfl | rfl | rfl
 ·exact h.1.1.1.2
 ·exact h.1.1.2
 ·exact h.1.2
 ·exact h.2
theorem q9f(s:St)(a:Value)(x:Int):(stC s a).setIfInBounds 0 (J I x)=stC { s with b:={ s.b with f0:=x } } a:=rfl
theorem q8Z(s:St)(a:Value)(x:Int):(stC s a).setIfInBounds 1 (J I x)=stC { s with b:={ s.b with f1:=x } } a:=rfl
theorem q9h(s:St)(a:Value)(x:Int):(stC s a).setIfInBounds 2 (J I x)=stC { s with b:={ s.b with f2:=x } } a:=rfl
theorem q9m(s:St)(a:Value)(x:Int):(stC s a).setIfInBounds 3 (J I x)=stC { s with b:={ s.b with f3:=x } } a:=rfl
theorem q9u(s:St)(a:Value)(x:Int):(stC s a).setIfInBounds 4 (J I x)=stC { s with b:={ s.b with bo:=x } } a:=rfl
theorem q9k(s:St)(a:Value)(x:Int):(stC s a).setIfInBounds 5 (J I x)=stC { s with b:={ s.b with wa:=x } } a:=rfl
theorem q9a(s:St)(a:Value)(x:Int):(stC s a).setIfInBounds 6 (J I x)=stC { s with b:={ s.b with bu:=x } } a:=rfl
def z3F(w:World)(b:Nat)(x:Bk):World:=((((((w.setCell ⟨b,0,none⟩ (J I x.f0)).setCell ⟨b,1,none⟩ (J I x.f1)).setCell ⟨b,2,none⟩ (J I x.f2)).setCell ⟨b,3,none⟩ (J I x.f3)).setCell ⟨b,4,none⟩ (J I x.bo)).setCell ⟨b,5,none⟩ (J I x.wa)).setCell ⟨b,6,none⟩ (J I x.bu)
theorem SAt.z3F{w:World}{b c:Nat}{cs:Array Value}(h:SAt w c cs)(a:c≠b)(x:Bk):SAt (Go.Proofs.YtjghbciepinofaaGreat.z3F w b x) c cs:=((((((h.other a _).other a _).other a _).other a _).other a _).other a _).other a _
theorem q0S{B b:Nat}{w w':World}(h:Below B w w')(a:B<=b)(x:Bk):Below B w (z3F w' b x):=((((((h.setCell a _).setCell a _).setCell a _).setCell a _).setCell a _).setCell a _).setCell a _
theorem z4a{w:World}{b:Nat}{s:St}{a:Value}(h:SAt w b (stC s a))(x:Bk):SAt (z3F w b x) b (stC { s with b:=x } a):=by
 have h0:=h.set 0 (J I x.f0);rw[q9f]at h0;have h1:=h0.set 1 (J I x.f1);rw[q8Z]at h1;have h2:=h1.set 2 (J I x.f2);rw[q9h]at h2;have h3:=h2.set 3 (J I x.f3);rw[q9m]at h3;have c:=h3.set 4 (J I x.bo);rw[q9u]at c;have d:=c.set 5 (J I x.wa);rw[q9k]at d;have e:=d.set 6 (J I x.bu);rw[q9a]at e;exact e
theorem q2c(x:Vd){n:Int}(a:n<=1125899906842624):shN x n<=1125899906842624/\(0<=n->0<=shN x n):=by
 have:=z8l n x.sh x.tok;unfold shN
 split
 ·omega
 ·split
  ·omega
  ·split <;> omega
theorem z9m{s:St}{d v:Nat}(a:z0j s=true)(hd:d<4)(b:v<6):z1i s d v=0:=by
 unfold z1i z4W;rw[a,z3g.2 (show (0:Int)<=v/\(v:Int)<6 by omega),z5v.2 (show (0:Int)<=d/\(d:Int)<4 by omega)]
 rfl
section
variable {f:Func} {w w1:World} {s:St} {ao:Option Addr} {n c:Nat}
end
theorem q5u(s:St)(ao:Option Addr)(sb so c:Nat)(d v n:Int)(w:World)(h:z1R w ao sb so s.W)(r:St×Int)(h0:z1i s d v≠0)(i:r=(s,z1i s d v)) :
  Calls prog 64 #[J4 (stC s (J1 ao s.W.length c)),J I d,J I v,J I n] w fun e w'=>e=.returned (.tuple #[J4 (stC r.1 (J1 ao s.W.length c)),J I r.2])/\Bl w w':=by
 have a:=(SAt.new w (stC s (J1 ao s.W.length c))).alloc (J5 Z63 32);have b:=SAt.new2 w (J5 (stC s (J1 ao s.W.length c)) 32) Z63;have f:Hid (Bl w ((w.alloc (J5 (stC s (J1 ao s.W.length c)) 32)).alloc (J5 Z63 32))):=(znw w _).alloc (by simp) _
 have k:=J6 h;have l:=J6 i;clear h i
 go_enter func64,ntmps64
 go_upto_region 1 with fail
 change Code.wp prog _ _ _ ((w.alloc (J5 (stC s (J1 ao s.W.length c)) 32)).alloc (J5 Z63 32));generalize (w.alloc (J5 (stC s (J1 ao s.W.length c)) 32)).alloc (J5 Z63 32)=w0 at *
 go_upto_region 2 with (go_at_call 103;refine (z2S s ao sb so c w.heap.size d v _ a (by exact k.out.over f.out)).mono ?_;rintro e w1⟨rfl,h1⟩)
 have g:Hid (Bl w w1):=zbt f.out h1;have m:=a.later h1 a.lt;have j:=b.later h1 b.lt;clear a b h1 f
 go_upto_region 3 with fail
 apply wp_region_lit;refine wpList_load_mid rfl 32 _ rfl _ 0 rfl _ _ m.range underlying32 rfl (by rw[z0l];rfl) ?_
 refine z1O rfl _ rfl ?_;refine wpList_store_mid rfl 32 _ _ rfl _ 0 (stC s (J1 ao s.W.length c)) rfl rfl (j.there 0 _ (by rw[z0p,z0d];omega)) (by rw[z0l];rfl) (z0q _ _ _ _) ?_
 go_wp2;exact z1a results64 j rfl g.out (by omega) s _ _ r l.out _ rfl rfl rfl
theorem q2v(s:St)(ao:Option Addr)(sb so c d v:Nat)(n:Int)(w:World)(hW:z1R w ao sb so s.W)(r:St×Int)(hg:z0j s=true)(hd:d<4)(P:v<6)(B:Bk)(q:Int)
  (a:∀ w:World,Calls prog 106 #[J4 #[J I s.b.f0,J I s.b.f1,J I s.b.f2,J I s.b.f3,J I s.b.bo,J I s.b.wa,J I s.b.bu],J I (d:Int),J I n] w fun e w'=>e=.returned (.tuple #[J4 #[J I B.f0,J I B.f1,J I B.f2,J I B.f3,J I B.bo,J I B.wa,J I B.bu],J I q])/\Bl w w')
  (h1:(s.V v).dead=true->r=(s,15)) (h2:(s.V v).dead=false->(decide (0<n) && inA n)=false->r=(s,2))
  (h3:(s.V v).dead=false->(decide (0<n) && inA n)=true->shE (s.V v) n≠0->r=(s,shE (s.V v) n))
  (h4:(s.V v).dead=false->(decide (0<n) && inA n)=true->shE (s.V v) n=0->q≠0->r=(s,q))
  (h5:(s.V v).dead=false->(decide (0<n) && inA n)=true->shE (s.V v) n=0->q=0->r=(q6q { s with b:=B } d v n (shN (s.V v) n),0)) :
  Calls prog 64 #[J4 (stC s (J1 ao s.W.length c)),J I (d:Int),J I (v:Int),J I n] w fun e w'=>e=.returned (.tuple #[J4 (stC r.1 (J1 ao s.W.length c)),J I r.2])/\Bl w w':=by
 have Q:=(SAt.new w (stC s (J1 ao s.W.length c))).alloc (J5 Z63 32);have S:=SAt.new2 w (J5 (stC s (J1 ao s.W.length c)) 32) Z63;have T:Hid (Bl w ((w.alloc (J5 (stC s (J1 ao s.W.length c)) 32)).alloc (J5 Z63 32))):=(znw w _).alloc (by simp) _
 have HW:=J6 hW;have H1:=J6 h1;have H2:=J6 h2;have H3:=J6 h3;have H4:=J6 h4;have H5:=J6 h5;obtain⟨k,y⟩:=z8h hg v P;have hS:=q0P n;have a2:=z9m hg hd P;have a3:(d:Int)<4:=by omega
 have a4:(v:Int)<6:=by omega
 have a5:(0:Int)<=(d:Int):=by omega
 have a6:(0:Int)<=(v:Int):=by omega
 have z:=fun w b o (U:n<=1125899906842624)=>z7e b o (s.V v) n w U k;have X:=fun w h=>z2S s ao sb so c w.heap.size d v w h;clear hW h1 h2 h3 h4 h5
 go_enter func64,ntmps64
 go_upto_region 1 with fail
 change Code.wp prog _ _ _ ((w.alloc (J5 (stC s (J1 ao s.W.length c)) 32)).alloc (J5 Z63 32));generalize (w.alloc (J5 (stC s (J1 ao s.W.length c)) 32)).alloc (J5 Z63 32)=w0 at *
 go_upto_region 2 with (go_at_call 103;refine (z2S s ao sb so c w.heap.size d v _ Q (by exact HW.out.over T.out)).mono ?_;rintro e w1⟨rfl,h1⟩)
 have g:Hid (Bl w w1):=zbt T.out h1;have l:=Q.later h1 Q.lt;have i:=S.later h1 S.lt;obtain⟨A,C,D,E,F,G,H,K,L⟩:=z0g l;obtain⟨c0,c1,c2,c3,c4⟩:=l.val v P;have a7:w.heap.size+1<w1.heap.size:=i.lt;have Y:Hid ((decide (0<n) && inA n)=true->0<n/\n<=1125899906842624):=fun h=>by simp only[Bool.and_eq_true,decide_eq_true_eq,z1n]at h;omega
 generalize (decide (0<n) && inA n)=t at *;clear Q S h1 T K L X c2 c3;generalize Z:(s.V v).dead=dd at *;clear Z
 go_upto_region 15 with (first
  | (go_at_call 104;refine (hS _).mono ?_;rintro e w2⟨rfl,rfl⟩)
  | (go_at_call 105;refine (z _ _ _ (by exact (Y.out (by simpa using ‹(!t)=false›)).2) c0 c1).mono ?_;rintro e w2⟨rfl,h2⟩;have m:Hid (Bl w w2):=g.out.trans (h2.mono (by omega));have M:=l.later h2 l.lt;have u:=i.later h2 i.lt;clear A C D E F G H;obtain⟨A,C,D,E,F,G,H,K,L⟩:=z0g M;have a8:=u.lt;clear h2 K L)
  | (go_at_call 106;refine (a _).mono ?_;rintro e x⟨rfl,h3⟩;have N:Hid (Bl w x):=m.out.trans (h3.mono (by omega));have S3:=M.later h3 M.lt;have R3:=u.later h3 u.lt;have a9:w.heap.size+1<x.heap.size:=R3.lt;have f:=S3.alloc (J5 #[J I B.f0,J I B.f1,J I B.f2,J I B.f3,J I B.bo,J I B.wa,J I B.bu] 24);have R:=R3.alloc (J5 #[J I B.f0,J I B.f1,J I B.f2,J I B.f3,J I B.bo,J I B.wa,J I B.bu] 24);have p:Hid (Bl w (x.alloc (J5 #[J I B.f0,J I B.f1,J I B.f2,J I B.f3,J I B.bo,J I B.wa,J I B.bu] 24))):=N.out.alloc (by omega) _;clear h3 A C D E F G H S3 R3)
  | ((fail_if_success (go_not_at_region 6));apply wp_region_lit;refine wpList_load_mid rfl 32 _ rfl _ 0 rfl _ _ l.range underlying32 rfl (by rw[z0l];rfl) ?_;refine wpList_store_mid rfl 32 _ _ rfl _ 0 (stC s (J1 ao s.W.length c)) rfl rfl (i.there 0 _ (by rw[z0p,z0d];omega)) (by rw[z0l];rfl) (z0q _ _ _ _) ?_)
  | ((fail_if_success (go_not_at_region 8));apply wp_region_lit;refine wpList_load_mid rfl 32 _ rfl _ 0 rfl _ _ l.range underlying32 rfl (by rw[z0l];rfl) ?_;refine wpList_store_mid rfl 32 _ _ rfl _ 0 (stC s (J1 ao s.W.length c)) rfl rfl (i.there 0 _ (by rw[z0p,z0d];omega)) (by rw[z0l];rfl) (z0q _ _ _ _) ?_)
  | ((fail_if_success (go_not_at_region 11));apply wp_region_lit;refine wpList_load_mid rfl 32 _ rfl _ 0 rfl _ _ M.range underlying32 rfl (by rw[z0l];rfl) ?_;refine z1O rfl _ rfl ?_;refine wpList_store_mid rfl 32 _ _ rfl _ 0 (stC s (J1 ao s.W.length c)) rfl rfl (u.there 0 _ (by rw[z0p,z0d];omega)) (by rw[z0l];rfl) (z0q _ _ _ _) ?_)
  | ((fail_if_success (go_not_at_region 14));apply wp_region_lit;refine wpList_load_mid rfl 32 _ rfl _ 0 rfl _ _ f.range underlying32 rfl (by rw[z0l];rfl) ?_;refine z1O rfl _ rfl ?_;refine wpList_store_mid rfl 32 _ _ rfl _ 0 (stC s (J1 ao s.W.length c)) rfl rfl (R.there 0 _ (by rw[z0p,z0d];omega)) (by rw[z0l];rfl) (z0q _ _ _ _) ?_))
 ·exact z1a results64 i rfl g.out (by omega) s _ _ r (H1.out ‹dd=true›) _ rfl rfl rfl
 ·exact z1a results64 i rfl g.out (by omega) s _ _ r (H2.out ‹dd=false› (by simpa using ‹(!t)=true›)) _ rfl rfl rfl
 ·exact z1a results64 u rfl m.out (by omega) s _ _ r (H3.out ‹dd=false› (by simpa using ‹(!t)=false›) (by simpa using ‹(shE (s.V v) n != 0)=true›)) _ rfl rfl rfl
 ·exact z1a results64 R rfl p.out (by omega) s _ _ r (H4.out ‹dd=false› (by simpa using ‹(!t)=false›) (by simpa using ‹(shE (s.V v) n != 0)=false›) (by simpa using ‹(q != 0)=true›)) _ rfl rfl rfl
 ·have HR:Hid (r=(q6q { s with b:=B } d v n (shN (s.V v) n),0)):=H5.out ‹dd=false› (by simpa using ‹(!t)=false›) (by simpa using ‹(shE (s.V v) n != 0)=false›) (by simpa using ‹(q != 0)=false›)
  have U:=Y.out (by simpa using ‹(!t)=false›)
  obtain⟨k1,k2,k3⟩:=z1G k;have k4:=q9Q y hd;rw[z1n]at k1 k2 k4;have k5:=q2c (s.V v) U.2;obtain⟨A,C,D,E,F,G,H,K,L⟩:=z0g f;have f0:=f.free 0;have f1:=f.free 1;have f2:=f.free 2;have f3:=f.free 3;have f4:=f.free 4;have f5:=f.free 5;have f6:=f.free 6;have b4:w.heap.size≠x.heap.size:=by omega
  clear H1 H2 H3 H4 H5 Y a z hS c0 c1 c4 K L l M i u g m k y k3
  go_upto_region 16 with fail
  change Code.wp prog _ _ _ (z3F (x.alloc (J5 #[J I B.f0,J I B.f1,J I B.f2,J I B.f3,J I B.bo,J I B.wa,J I B.bu] 24)) w.heap.size B);have S5:=z4a f B;have R5:=R.z3F (b:=w.heap.size) (by omega) B
  have a0:=J6 (q0S p.out (Nat.le_refl _) B);generalize z3F (x.alloc (J5 #[J I B.f0,J I B.f1,J I B.f2,J I B.f3,J I B.bo,J I B.wa,J I B.bu] 24)) w.heap.size B=w5 at *;have hA:=q5S { s with b:=B } (J1 ao s.W.length c) w.heap.size d v n (shN (s.V v) n) w5 S5 hd P (by simp only;omega) (by simp only;omega) (by simp only;omega)
  clear A C D E F G H f0 f1 f2 f3 f4 f5 f6 f R N p S5
  go_upto_region 17 with (go_at_call 107;refine hA.mono ?_;rintro e w6⟨rfl,S6,j⟩)
  have R6:=j.z0I (by omega) R5
  have a1:=J6 (a0.out.trans (j.below (Nat.le_refl _)));apply wp_region_lit;refine wpList_load_mid rfl 32 _ rfl _ 0 rfl _ _ S6.range underlying32 rfl (by rw[z0l];rfl) ?_
  refine wpList_store_mid rfl 32 _ _ rfl _ 0 (stC (q6q { s with b:=B } d v n (shN (s.V v) n)) (J1 ao s.W.length c)) rfl rfl (R6.there 0 _ (by rw[z0p,z0d];omega)) (by rw[z0l];rfl) (z0q _ _ _ _) ?_
  go_wp2;exact z1a results64 R6 rfl a1.out (by omega) _ _ _ r HR.out _ rfl rfl rfl
theorem q3b(s:St)(ao:Option Addr)(sb so c:Nat)(d v n:Int)(w:World)(a:z1R w ao sb so s.W) :
  Calls prog 64 #[J4 (stC s (J1 ao s.W.length c)),J I d,J I v,J I n] w fun e w'=>e=.returned (.tuple #[J4 (stC (z1u s d v n).1 (J1 ao s.W.length c)),J I (z1u s d v n).2])/\Bl w w':=by
 by_cases h:z1i s d v=0
 ·obtain⟨f,⟨v0,v1⟩,g,i⟩:=q5K h;obtain⟨v,rfl⟩:=Int.eq_ofNat_of_zero_le v0;obtain⟨d,rfl⟩:=Int.eq_ofNat_of_zero_le g;exact q2v s ao sb so c d v n w a _ f (by omega) (by omega) _ _ (q5L s.b d n) (q1b h) (z9i h) (q3N h) (q1S h) (q5c h)
 ·exact q5u s ao sb so c d v n w a _ h (q3s h)
end
namespace Df
open Go.RowKit
def QAt(w:World)(b:Nat)(P:Nat->Int):Prop:=w.heap[b]?=some (J5 #[J I (P 0),J I (P 1),J I (P 2),J I (P 3),J I (P 4),J I (P 5)] 28)
section
variable {w w':World} {b B:Nat} {P:Nat->Int}
theorem QAt.later(h:QAt w b P)(a:Below B w w')(c:b<B):QAt w' b P:=(a.block b c).trans h
theorem QAt.new(w:World)(P:Nat->Int):QAt (w.alloc (J5 #[J I (P 0),J I (P 1),J I (P 2),J I (P 3),J I (P 4),J I (P 5)] 28)) w.heap.size P:=heap_alloc_new _ _
theorem QAt.lt(h:QAt w b P):b<w.heap.size:=(Array.getElem?_eq_some_iff.1 h).1
theorem QAt.alloc(h:QAt w b P)(o:Obj):QAt (w.alloc o) b P:=(Below.heap_alloc _ _ _ h.lt).trans h
theorem QAt.facts(h:QAt w b P):(w.cell? ⟨b,0,none⟩=some (J I (P 0))/\w.cell? ⟨b,1,none⟩=some (J I (P 1))/\w.cell? ⟨b,2,none⟩=some (J I (P 2))/\w.cell? ⟨b,3,none⟩=some (J I (P 3))/\w.cell? ⟨b,4,none⟩=some (J I (P 4))/\w.cell? ⟨b,5,none⟩=some (J I (P 5)))/\(∀ k,w.frozen? ⟨b,k,none⟩=false):=by
 unfold QAt at h
 simp[World.cell?,World.frozen?,h]
theorem QAt.one(h:QAt w b P){k:Nat}(a:k<6):w.cell? ⟨b,k,none⟩=some (J I (P k)):=by
 obtain⟨⟨h0,h1,h2,h3,c,d⟩,-⟩:=h.facts
 rcases (show k=0∨k=1∨k=2∨k=3∨k=4∨k=5 by omega) with rfl | rfl | rfl | rfl | rfl | rfl <;> assumption
theorem QAt.put(h:QAt w b P){k:Nat}(a:k<6)(n:Int):QAt (w.setCell ⟨b,k,none⟩ (J I n)) b (z7v P ((k:Int),n)):=by
 unfold QAt at *;simp only[z2A a]
 rcases (show k=0∨k=1∨k=2∨k=3∨k=4∨k=5 by omega) with rfl | rfl | rfl | rfl | rfl | rfl <;> simp[World.setCell,Array.getElem?_modify,h]
end
theorem q4d(w:World)(b k:Nat)(u:Value)(o:Obj):w.grownBy ((w.setCell ⟨b,k,none⟩ u).alloc o).drew (some b):=
 have h:=(Below.refl 0 w).setCell (p:=⟨b,k,none⟩) (Nat.zero_le _) u
 ⟨h.os,h.tape,h.output,by show w.heap.size<=((w.setCell ⟨b,k,none⟩ u).alloc o).heap.size;simp,fun j c a=>(Below.heap_alloc (w.setCell ⟨b,k,none⟩ u) o j (by simpa using c)).trans (Below.heap_setCell _ _ _ _ (fun e=>a (by rw[e])))⟩
theorem z8H{w w1:World}{b:Nat}(h:w.grownBy w1 (some b)){B:Nat}(a:B<=b)(c:B<=w.heap.size):Below B w w1:=(Below.refl B w).grown h c (fun k d=>by cases d;exact a)
theorem z8F(b:Nat)(v n:Int)(P:Nat->Int)(w:World)(h:QAt w b P) :
  Calls prog 41 #[J2 (some ⟨b,0,none⟩),J4 #[J I v,J I n]] w fun e w'=>e=.returned (.tuple #[])/\QAt w' b (z7v P (v,n))/\w.grownBy w' (some b):=by
 have d:=z5F v;have h1:=h.alloc (J5 #[J I v,J I n] 74);have a:=World.grownBy_alloc w (J5 #[J I v,J I n] 74) (some b);have i:=h.lt
 by_cases c:0<=v/\v<6
 ·obtain⟨k,rfl⟩:=Int.eq_ofNat_of_zero_le c.1;have f:k<6:=by omega
  have j:(k:Int)<6:=by omega
  rw[show isV (k:Int)=true from z3g.2 c]at d;have m:=h.one f;have o:=h.facts.2 k;have g:=J6 (show _/\_ from⟨(h.put f n).alloc (J5 #[J I (k:Int),J I n] 74),q4d w b k (J I n) (J5 #[J I (k:Int),J I n] 74)⟩);clear h1 a c h
  go_enter func41,ntmps41
  go_upto_region 2 with (go_at_call 90;refine (d _).mono ?_;rintro e w1⟨rfl,rfl⟩)
  go_region
  all_goals go_end0
  all_goals exact⟨rfl,g.out.1,g.out.2⟩
 ·rw[show isV v=false by simpa [isV] using c]at d
  have l:z7v P (v,n)=P:=by unfold z7v;rw[if_neg c]
  rw[l]
  go_enter func41,ntmps41
  go_wp2_with (go_at_call 90;refine (d _).mono ?_;rintro e w1⟨rfl,rfl⟩)
  go_end0;exact⟨rfl,h1,a⟩
structure PIn(w:World)(l:List Pw)(ao:Option Addr)(b off:Nat):Prop where
 len:l.length<=8796093022202
 adr:0<l.length->ao=some ⟨b,off,none⟩
 cells:∀ i,i<l.length->w.cell? ⟨b,off+i * 2,none⟩=some (J I (l.getD i (0,0)).1)/\w.cell? ⟨b,off+i * 2+1,none⟩=some (J I (l.getD i (0,0)).2)
theorem PIn.ltB{w:World}{l:List Pw}{ao:Option Addr}{b off:Nat}(h:PIn w l ao b off)(h0:0<l.length):b<w.heap.size:=World.block_lt_of_cell? w _ (h.cells 0 h0).1
theorem PIn.later{B:Nat}{w w':World}{l:List Pw}{ao:Option Addr}{b off:Nat}(h:PIn w l ao b off)(a:Below B w w')(c:0<l.length->b<B):PIn w' l ao b off:=
 ⟨h.len,h.adr,fun i d=>⟨(a.cell (p:=⟨b,off+i * 2,none⟩) (c (by omega))).trans (h.cells i d).1,(a.cell (p:=⟨b,off+i * 2+1,none⟩) (c (by omega))).trans (h.cells i d).2⟩⟩
theorem PIn.over{w w':World}{l:List Pw}{ao:Option Addr}{b off:Nat}(h:PIn w l ao b off)(a:Bl w w'):PIn w' l ao b off:=h.later a h.ltB
def z7C(w:World)(b:Nat)(v0 v1 v2 v3 a c:Value):World:=(((((w.setCell ⟨b,0,none⟩ v0).setCell ⟨b,1,none⟩ v1).setCell ⟨b,2,none⟩ v2).setCell ⟨b,3,none⟩ v3).setCell ⟨b,4,none⟩ a).setCell ⟨b,5,none⟩ c
theorem q3Q{w:World}{b:Nat}{R:Nat->Int}(h:QAt w b R)(P:Nat->Int):QAt (z7C w b (J I (P 0)) (J I (P 1)) (J I (P 2)) (J I (P 3)) (J I (P 4)) (J I (P 5))) b P:=by
 unfold QAt z7C at *
 simp[World.setCell,Array.getElem?_modify,h]
theorem z3v{B:Nat}{w0 w:World}{b:Nat}(v0 v1 v2 v3 c d:Value)(h:Below B w0 w)(a:B<=b):Below B w0 (z7C w b v0 v1 v2 v3 c d):=(((((h.setCell a _).setCell a _).setCell a _).setCell a _).setCell a _).setCell a _
theorem z7O(l:List Pw)(ao:Option Addr)(c b off:Nat)(w:World)(hl:PIn w l ao b off) :
  Calls prog 115 #[J1 ao l.length c] w fun e w'=>e=.returned (J4 #[J I (z0i l 0),J I (z0i l 1),J I (z0i l 2),J I (z0i l 3),J I (z0i l 4),J I (z0i l 5)])/\Bl w w':=by
 have r:=hl.len;have h:=J6 hl;have m:=(QAt.new w z2e).alloc (J5 #[J I 0,J I 0,J I 0,J I 0,J I 0,J I 0] 28);have f:=QAt.new (w.alloc (J5 #[J I 0,J I 0,J I 0,J I 0,J I 0,J I 0] 28)) z2e;rw[show (w.alloc (J5 #[J I 0,J I 0,J I 0,J I 0,J I 0,J I 0] 28)).heap.size=w.heap.size+1 by simp]at f
 have s:Bl w ((w.alloc (J5 #[J I 0,J I 0,J I 0,J I 0,J I 0,J I 0] 28)).alloc (J5 #[J I 0,J I 0,J I 0,J I 0,J I 0,J I 0] 28)):=(znw w _).alloc (by simp) _
 dsimp only [z2e]at m f;clear hl
 go_enter func115,ntmps115
 go_upto_region 2 with fail
 generalize ((w.alloc (J5 #[J I 0,J I 0,J I 0,J I 0,J I 0,J I 0] 28)).alloc (J5 #[J I 0,J I 0,J I 0,J I 0,J I 0,J I 0] 28))=w0 at *;have g:=J6 (show _/\_/\_ from⟨m,f,s⟩);clear m f s
 go_upto_region 3 with fail
 go_loopw [4] (fun i wl=>∃ k:Nat,k<=l.length/\i=J I ((k:Int) - 1)/\Hid (QAt wl w.heap.size (fun _=>0)/\QAt wl (w.heap.size+1) (z0i (l.drop k))/\Bl w wl)) (fun i _=>(intOf i+1).toNat)
 case atStart=>exact⟨l.length,Nat.le_refl _,rfl,g.out.1,by rw[List.drop_length];exact g.out.2.1,g.out.2.2⟩
 case round =>
  obtain⟨k,P,rfl,a⟩:=hrel;clear g
  by_cases h0:0<k
  ·obtain⟨j,rfl⟩:∃ j,k=j+1:=⟨k - 1,by omega⟩
   have t:j<l.length:=by omega
   have A:(j:Int)<(l.length:Int):=by omega
   obtain⟨c0,c1⟩:=(h.out.later a.out.2.2 h.out.ltB).cells j t;have B:=J6 (z6z l j t);have o:=h.out.adr (by omega)
   subst o;generalize l.getD j (0,0)=x at *;obtain⟨v,n⟩:=x;dsimp only at c0 c1;have C:(((j+1:Nat):Int) - 1)=(j:Int):=by omega
   rw[C]
   go_wp2_with (go_at_call 41;refine (z8F (w.heap.size+1) v n _ _ a.out.2.1).mono ?_;rintro e w1⟨rfl,hq,u⟩;have p:=J6 hq;have y:=J6 u;clear hq u)
   refine⟨⟨j,by omega,rfl,(y.out.block _ a.out.1.lt (by simp)).trans a.out.1,by rw[B.out];exact p.out,a.out.2.2.trans (z8H y.out (by omega) a.out.2.2.size)⟩,by simp[intOf]⟩
  ·obtain rfl:k=0:=by omega
   have z:z0i (l.drop 0)=z0i l:=by rw[List.drop_zero]
   rw[z]at a;obtain⟨F,d⟩:∃ F,z0i l=F:=⟨_,rfl⟩;rw[d]at a;have q:=J6 d;clear z d;obtain⟨⟨c0,c1,c2,c3,Q,R⟩,-⟩:=a.out.2.1.facts;obtain⟨⟨S,T,U,V,W,X⟩,D⟩:=a.out.1.facts;go_wp2;have p:=q3Q a.out.1 F;have E:=z3v (b:=w.heap.size) (J I (F 0)) (J I (F 1)) (J I (F 2)) (J I (F 3)) (J I (F 4)) (J I (F 5)) a.out.2.2 (Nat.le_refl _)
   show bodyPost prog f115 _ Exit.ret _ (z7C wr w.heap.size (J I (F 0)) (J I (F 1)) (J I (F 2)) (J I (F 3)) (J I (F 4)) (J I (F 5)))
   generalize z7C wr w.heap.size (J I (F 0)) (J I (F 1)) (J I (F 2)) (J I (F 3)) (J I (F 4)) (J I (F 5))=w9 at *;obtain⟨⟨G,H,K,L,M,N⟩,-⟩:=p.facts;exact bodyPost_ret (v:=J4 #[J I (F 0),J I (F 1),J I (F 2),J I (F 3),J I (F 4),J I (F 5)]) (by simp[results,results115,go_sem,G,H,K,L,M,N]) rfl ⟨by rw[q.out],E⟩
end Df
section
open Go.RowKit
theorem z1Q{w wq:World}(R:BAt wq (w.heap.size+1) 0 0 0 0 0 0 0)(H:Bl w wq)(a r1 r2 c d f g h:Int)(act:Act)
  (k:act.tmps.getD 8 undef=J2 (some ⟨w.heap.size+1,0,none⟩)) (l:act.tmps.getD 9 undef=J I h) (hd:act.defers=[]) :
  bodyPost prog f143 (fun e w'=>e=.returned (.tuple #[J4 #[J I a,J I r1,J I r2,J I c,J I d,J I f,J I g],J I h])/\Bl w w') Exit.ret act
   (z2C wq (w.heap.size+1) a r1 r2 c d f g):=by
 have m:=R.z2C a r1 r2 c d f g;have n:=z0G (b:=w.heap.size+1) H (by omega) a r1 r2 c d f g
 generalize z2C wq (w.heap.size+1) a r1 r2 c d f g=w9 at *;obtain⟨o,u1,u2,p,q,r,s⟩:=m.cells;have i:act.tmps[8]?.getD undef=J2 (some ⟨w.heap.size+1,0,none⟩):=by simpa using k
 have j:act.tmps[9]?.getD undef=J I h:=by simpa using l
 exact bodyPost_ret (v:=.tuple #[J4 #[J I a,J I r1,J I r2,J I c,J I d,J I f,J I g],J I h]) (by simp[results,results143,go_sem,i,j,o,u1,u2,p,q,r,s]) hd ⟨rfl,n⟩
theorem z5P{w w9:World}{b r1 r2 c d f g:Int}(j:BAt w9 (w.heap.size+1) b r1 r2 c d f g)(k:Bl w w9)(a:Int)(act:Act)
  (l:act.tmps.getD 8 undef=J2 (some ⟨w.heap.size+1,0,none⟩)) (m:act.tmps.getD 9 undef=J I a) (hd:act.defers=[]) :
  bodyPost prog f143 (fun e w'=>e=.returned (.tuple #[J4 #[J I b,J I r1,J I r2,J I c,J I d,J I f,J I g],J I a])/\Bl w w') Exit.ret act w9:=by
 obtain⟨n,u1,u2,o,p,q,r⟩:=j.cells;have h:act.tmps[8]?.getD undef=J2 (some ⟨w.heap.size+1,0,none⟩):=by simpa using l
 have i:act.tmps[9]?.getD undef=J I a:=by simpa using m
 exact bodyPost_ret (v:=.tuple #[J4 #[J I b,J I r1,J I r2,J I c,J I d,J I f,J I g],J I a]) (by simp[results,results143,go_sem,h,i,n,u1,u2,o,p,q,r]) hd ⟨rfl,k⟩
theorem q6l(f0 f1 f2 f3 bo wa bu t n:Int)(w:World)(o:z0v f0 f1 f2 f3 bo wa bu=true)(a:0<=n)(c:n<=1125899906842624)(B:f0<n) :
  Calls prog 143 #[J4 #[J I f0,J I f1,J I f2,J I f3,J I bo,J I wa,J I bu],J I 0,J I t,J I n] w fun e w'=>e=.returned (.tuple #[J4 #[J I f0,J I f1,J I f2,J I f3,J I bo,J I wa,J I bu],J I 7])/\Bl w w':=by
 have p:=z0T f0 f1 f2 f3 bo wa bu;rw[o]at p;have q:=z2f n;rw[decide_eq_true ⟨a,c⟩]at q;clear o a c
 go_enter func143,ntmps143
 go_wp2_with fail
 refine (p _).mono ?_;rintro e w1⟨rfl,g⟩;have i:=((BAt.new w f0 f1 f2 f3 bo wa bu).alloc (J5 #[J I 0,J I 0,J I 0,J I 0,J I 0,J I 0,J I 0] 24)).later g (by simp;omega)
 have j:BAt w1 (w.heap.size+1) 0 0 0 0 0 0 0:=by
  have:=(BAt.new (w.alloc (J5 #[J I f0,J I f1,J I f2,J I f3,J I bo,J I wa,J I bu] 24)) 0 0 0 0 0 0 0).later g (by simp)
  simpa using this
 have r:Hid (Bl w w1):=((znw w _).alloc (by simp) _).trans (g.mono (by simp;omega))
 clear g;obtain⟨s,u,v,x,y,z,A⟩:=i.cells
 go_wp2_with (first
  | (go_at_call 138;refine (q _).mono ?_;rintro e E⟨rfl,rfl⟩)
  | (go_at_call 157;refine (z0X f0 f1 f2 f3 bo wa bu _).mono ?_;rintro e d⟨rfl,h2⟩;have f:=j.later h2 j.lt;have k:=i.later h2 i.lt;have l:Hid (Bl w d):=zbt r.out h2;have C:w.heap.size<d.heap.size:=k.lt;have D:w.heap.size+1<d.heap.size:=f.lt;clear h2;clear s u v x y z A;obtain⟨s,u,v,x,y,z,A⟩:=k.cells;obtain⟨F,u1,u2,G,H,K,L⟩:=f.frees;obtain⟨v0,v1,v2,v3,M,N,P⟩:=f.cells;have m:Hid (BAt d (w.heap.size+1) 0 0 0 0 0 0 0):=f;clear i j r k f))
 exact z5P (w9:=(z2C d (w.heap.size+1) f0 f1 f2 f3 bo wa bu).alloc _) ((m.out.z2C f0 f1 f2 f3 bo wa bu).alloc _) (let h:=z0G (b:=w.heap.size+1) l.out (by omega) f0 f1 f2 f3 bo wa bu;h.alloc h.size _) 7 _ rfl rfl rfl
theorem z4o(f0 f1 f2 f3 bo wa bu t n:Int)(w:World)(o:z0v f0 f1 f2 f3 bo wa bu=true)(a:0<=n)(c:n<=1125899906842624)(B:bo<n) :
  Calls prog 143 #[J4 #[J I f0,J I f1,J I f2,J I f3,J I bo,J I wa,J I bu],J I 4,J I t,J I n] w fun e w'=>e=.returned (.tuple #[J4 #[J I f0,J I f1,J I f2,J I f3,J I bo,J I wa,J I bu],J I 7])/\Bl w w':=by
 have p:=z0T f0 f1 f2 f3 bo wa bu;rw[o]at p;have q:=z2f n;rw[decide_eq_true ⟨a,c⟩]at q;clear o a c
 go_enter func143,ntmps143
 go_wp2_with fail
 refine (p _).mono ?_;rintro e w1⟨rfl,g⟩;have i:=((BAt.new w f0 f1 f2 f3 bo wa bu).alloc (J5 #[J I 0,J I 0,J I 0,J I 0,J I 0,J I 0,J I 0] 24)).later g (by simp;omega)
 have j:BAt w1 (w.heap.size+1) 0 0 0 0 0 0 0:=by
  have:=(BAt.new (w.alloc (J5 #[J I f0,J I f1,J I f2,J I f3,J I bo,J I wa,J I bu] 24)) 0 0 0 0 0 0 0).later g (by simp)
  simpa using this
 have r:Hid (Bl w w1):=((znw w _).alloc (by simp) _).trans (g.mono (by simp;omega))
 clear g;obtain⟨s,u,v,x,y,z,A⟩:=i.cells
 go_wp2_with (first
  | (go_at_call 138;refine (q _).mono ?_;rintro e E⟨rfl,rfl⟩)
  | (go_at_call 157;refine (z0X f0 f1 f2 f3 bo wa bu _).mono ?_;rintro e d⟨rfl,h2⟩;have f:=j.later h2 j.lt;have k:=i.later h2 i.lt;have l:Hid (Bl w d):=zbt r.out h2;have C:w.heap.size<d.heap.size:=k.lt;have D:w.heap.size+1<d.heap.size:=f.lt;clear h2;clear s u v x y z A;obtain⟨s,u,v,x,y,z,A⟩:=k.cells;obtain⟨F,u1,u2,G,H,K,L⟩:=f.frees;obtain⟨v0,v1,v2,v3,M,N,P⟩:=f.cells;have m:Hid (BAt d (w.heap.size+1) 0 0 0 0 0 0 0):=f;clear i j r k f))
 exact z5P (w9:=(z2C d (w.heap.size+1) f0 f1 f2 f3 bo wa bu).alloc _) ((m.out.z2C f0 f1 f2 f3 bo wa bu).alloc _) (let h:=z0G (b:=w.heap.size+1) l.out (by omega) f0 f1 f2 f3 bo wa bu;h.alloc h.size _) 7 _ rfl rfl rfl
theorem z1P(f0 f1 f2 f3 bo wa bu t n:Int)(w:World)(o:z0v f0 f1 f2 f3 bo wa bu=true)(a:0<=n)(c:n<=1125899906842624)(B:wa<n) :
  Calls prog 143 #[J4 #[J I f0,J I f1,J I f2,J I f3,J I bo,J I wa,J I bu],J I 5,J I t,J I n] w fun e w'=>e=.returned (.tuple #[J4 #[J I f0,J I f1,J I f2,J I f3,J I bo,J I wa,J I bu],J I 7])/\Bl w w':=by
 have p:=z0T f0 f1 f2 f3 bo wa bu;rw[o]at p;have q:=z2f n;rw[decide_eq_true ⟨a,c⟩]at q;clear o a c
 go_enter func143,ntmps143
 go_wp2_with fail
 refine (p _).mono ?_;rintro e w1⟨rfl,g⟩;have i:=((BAt.new w f0 f1 f2 f3 bo wa bu).alloc (J5 #[J I 0,J I 0,J I 0,J I 0,J I 0,J I 0,J I 0] 24)).later g (by simp;omega)
 have j:BAt w1 (w.heap.size+1) 0 0 0 0 0 0 0:=by
  have:=(BAt.new (w.alloc (J5 #[J I f0,J I f1,J I f2,J I f3,J I bo,J I wa,J I bu] 24)) 0 0 0 0 0 0 0).later g (by simp)
  simpa using this
 have r:Hid (Bl w w1):=((znw w _).alloc (by simp) _).trans (g.mono (by simp;omega))
 clear g;obtain⟨s,u,v,x,y,z,A⟩:=i.cells
 go_wp2_with (first
  | (go_at_call 138;refine (q _).mono ?_;rintro e E⟨rfl,rfl⟩)
  | (go_at_call 157;refine (z0X f0 f1 f2 f3 bo wa bu _).mono ?_;rintro e d⟨rfl,h2⟩;have f:=j.later h2 j.lt;have k:=i.later h2 i.lt;have l:Hid (Bl w d):=zbt r.out h2;have C:w.heap.size<d.heap.size:=k.lt;have D:w.heap.size+1<d.heap.size:=f.lt;clear h2;clear s u v x y z A;obtain⟨s,u,v,x,y,z,A⟩:=k.cells;obtain⟨F,u1,u2,G,H,K,L⟩:=f.frees;obtain⟨v0,v1,v2,v3,M,N,P⟩:=f.cells;have m:Hid (BAt d (w.heap.size+1) 0 0 0 0 0 0 0):=f;clear i j r k f))
 exact z5P (w9:=(z2C d (w.heap.size+1) f0 f1 f2 f3 bo wa bu).alloc _) ((m.out.z2C f0 f1 f2 f3 bo wa bu).alloc _) (let h:=z0G (b:=w.heap.size+1) l.out (by omega) f0 f1 f2 f3 bo wa bu;h.alloc h.size _) 7 _ rfl rfl rfl
theorem z0W(f0 f1 f2 f3 bo wa bu f t n:Int)(w:World)(d:z0v f0 f1 f2 f3 bo wa bu=false) :
  Calls prog 143 #[J4 #[J I f0,J I f1,J I f2,J I f3,J I bo,J I wa,J I bu],J I f,J I t,J I n] w fun e w'=>e=.returned (.tuple #[J4 #[J I f0,J I f1,J I f2,J I f3,J I bo,J I wa,J I bu],J I 2])/\Bl w w':=by
 have g:=z0T f0 f1 f2 f3 bo wa bu;rw[d]at g;clear d
 go_enter func143,ntmps143
 go_wp2_with fail
 refine (g _).mono ?_;rintro e w1⟨rfl,a⟩;have h:=((BAt.new w f0 f1 f2 f3 bo wa bu).alloc (J5 #[J I 0,J I 0,J I 0,J I 0,J I 0,J I 0,J I 0] 24)).later a (by simp;omega)
 have b:BAt w1 (w.heap.size+1) 0 0 0 0 0 0 0:=by
  have:=(BAt.new (w.alloc (J5 #[J I f0,J I f1,J I f2,J I f3,J I bo,J I wa,J I bu] 24)) 0 0 0 0 0 0 0).later a (by simp)
  simpa using this
 have i:Hid (Bl w w1):=((znw w _).alloc (by simp) _).trans (a.mono (by simp;omega))
 clear a;obtain⟨j,k,l,m,o,p,q⟩:=h.cells;obtain⟨r,u1,u2,s,u,v,x⟩:=b.frees;obtain⟨v0,v1,v2,v3,y,z,A⟩:=b.cells;have c:Hid (BAt w1 (w.heap.size+1) 0 0 0 0 0 0 0):=b;clear h b;go_wp2;exact z1Q c.out i.out f0 f1 f2 f3 bo wa bu 2 _ rfl rfl rfl
theorem z1e(f0 f1 f2 f3 bo wa bu f t n:Int)(w:World)(d:z0v f0 f1 f2 f3 bo wa bu=true)(g:¬ (0<=n/\n<=1125899906842624)) :
  Calls prog 143 #[J4 #[J I f0,J I f1,J I f2,J I f3,J I bo,J I wa,J I bu],J I f,J I t,J I n] w fun e w'=>e=.returned (.tuple #[J4 #[J I f0,J I f1,J I f2,J I f3,J I bo,J I wa,J I bu],J I 2])/\Bl w w':=by
 have h:=z0T f0 f1 f2 f3 bo wa bu;rw[d]at h;clear d;have i:=z2f n;rw[decide_eq_false g]at i;clear g
 go_enter func143,ntmps143
 go_wp2_with fail
 refine (h _).mono ?_;rintro e w1⟨rfl,a⟩;have j:=((BAt.new w f0 f1 f2 f3 bo wa bu).alloc (J5 #[J I 0,J I 0,J I 0,J I 0,J I 0,J I 0,J I 0] 24)).later a (by simp;omega)
 have b:BAt w1 (w.heap.size+1) 0 0 0 0 0 0 0:=by
  have:=(BAt.new (w.alloc (J5 #[J I f0,J I f1,J I f2,J I f3,J I bo,J I wa,J I bu] 24)) 0 0 0 0 0 0 0).later a (by simp)
  simpa using this
 have k:Hid (Bl w w1):=((znw w _).alloc (by simp) _).trans (a.mono (by simp;omega))
 clear a;obtain⟨l,m,o,p,q,r,s⟩:=j.cells;obtain⟨u,u1,u2,v,x,y,z⟩:=b.frees;obtain⟨v0,v1,v2,v3,A,B,C⟩:=b.cells;have c:Hid (BAt w1 (w.heap.size+1) 0 0 0 0 0 0 0):=b;clear j b
 go_wp2_with (go_at_call 138;refine (i _).mono ?_;rintro e D⟨rfl,rfl⟩)
 exact z1Q c.out k.out f0 f1 f2 f3 bo wa bu 2 _ rfl rfl rfl
theorem z8M(f0 f1 f2 f3 bo wa bu n:Int)(w:World)(d:z0v f0 f1 f2 f3 bo wa bu=true)(a:0<=n)(b:n<=1125899906842624)(u:n<=wa) :
  Calls prog 143 #[J4 #[J I f0,J I f1,J I f2,J I f3,J I bo,J I wa,J I bu],J I 5,J I 0,J I n] w fun e w'=>e=.returned (.tuple #[J4 #[J I (f0+n),J I f1,J I f2,J I f3,J I bo,J I (wa - n),J I bu],J I 0])/\Bl w w':=by
 have p:=z0T f0 f1 f2 f3 bo wa bu;rw[d]at p;have q:=z2f n;rw[decide_eq_true ⟨a,b⟩]at q;unfold z0v at d;obtain⟨v,x,y,z,g4,A,B,C⟩:=of_decide_eq_true d;clear d;have N:wrap64 (wa - n)=wa - n:=z0a (by omega) (by omega)
 have P:wrap64 (f0+n)=f0+n:=z0a (by omega) (by omega)
 clear v x y z g4 A B C a b
 go_enter func143,ntmps143
 go_wp2_with fail
 refine (p _).mono ?_;rintro e w1⟨rfl,f⟩;have g:=((BAt.new w f0 f1 f2 f3 bo wa bu).alloc (J5 #[J I 0,J I 0,J I 0,J I 0,J I 0,J I 0,J I 0] 24)).later f (by simp;omega)
 have i:BAt w1 (w.heap.size+1) 0 0 0 0 0 0 0:=by
  have:=(BAt.new (w.alloc (J5 #[J I f0,J I f1,J I f2,J I f3,J I bo,J I wa,J I bu] 24)) 0 0 0 0 0 0 0).later f (by simp)
  simpa using this
 have r:Hid (Bl w w1):=((znw w _).alloc (by simp) _).trans (f.mono (by simp;omega))
 clear f;obtain⟨D,E,F,G,H,K,L⟩:=g.cells
 go_wp2_with (first
  | (go_at_call 138;refine (q _).mono ?_;rintro e Q⟨rfl,rfl⟩)
  | (go_at_call 157;refine (z0X f0 f1 f2 f3 bo wa bu _).mono ?_;rintro e j⟨rfl,h2⟩;have k:=i.later h2 i.lt;have s:=g.later h2 g.lt;have c:Hid (Bl w j):=zbt r.out h2;have l:w.heap.size<j.heap.size:=s.lt;have M:w.heap.size+1<j.heap.size:=k.lt;clear h2;clear g i r s D E F G H K L)
  | (go_at_call 158;refine (z1E (f0+n) f1 f2 f3 bo (wa - n) bu _).mono ?_;rintro e t⟨rfl,h3⟩;have h:=(k.alloc _).later h3 (by simp;omega);have m:Hid (Bl w t):=(c.out.alloc (Nat.le_of_lt l) _).trans (h3.mono (by simp;omega));obtain⟨R,u1,u2,S,T,U,V⟩:=h.frees;obtain⟨v0,v1,v2,v3,W,X,Y⟩:=h.cells;have o:Hid (BAt t (w.heap.size+1) 0 0 0 0 0 0 0):=h;clear k h h3 c))
 exact z1Q o.out m.out (f0+n) f1 f2 f3 bo (wa - n) bu 0 _ rfl rfl rfl
theorem z9r(f0 f1 f2 f3 bo wa bu n:Int)(w:World)(d:z0v f0 f1 f2 f3 bo wa bu=true)(a:0<=n)(b:n<=1125899906842624)(u:n<=wa) :
  Calls prog 143 #[J4 #[J I f0,J I f1,J I f2,J I f3,J I bo,J I wa,J I bu],J I 5,J I 1,J I n] w fun e w'=>e=.returned (.tuple #[J4 #[J I f0,J I (f1+n),J I f2,J I f3,J I bo,J I (wa - n),J I bu],J I 0])/\Bl w w':=by
 have p:=z0T f0 f1 f2 f3 bo wa bu;rw[d]at p;have q:=z2f n;rw[decide_eq_true ⟨a,b⟩]at q;unfold z0v at d;obtain⟨v,x,y,z,g4,A,B,C⟩:=of_decide_eq_true d;clear d;have N:wrap64 (wa - n)=wa - n:=z0a (by omega) (by omega)
 have P:wrap64 (f1+n)=f1+n:=z0a (by omega) (by omega)
 clear v x y z g4 A B C a b
 go_enter func143,ntmps143
 go_wp2_with fail
 refine (p _).mono ?_;rintro e w1⟨rfl,f⟩;have g:=((BAt.new w f0 f1 f2 f3 bo wa bu).alloc (J5 #[J I 0,J I 0,J I 0,J I 0,J I 0,J I 0,J I 0] 24)).later f (by simp;omega)
 have i:BAt w1 (w.heap.size+1) 0 0 0 0 0 0 0:=by
  have:=(BAt.new (w.alloc (J5 #[J I f0,J I f1,J I f2,J I f3,J I bo,J I wa,J I bu] 24)) 0 0 0 0 0 0 0).later f (by simp)
  simpa using this
 have r:Hid (Bl w w1):=((znw w _).alloc (by simp) _).trans (f.mono (by simp;omega))
 clear f;obtain⟨D,E,F,G,H,K,L⟩:=g.cells
 go_wp2_with (first
  | (go_at_call 138;refine (q _).mono ?_;rintro e Q⟨rfl,rfl⟩)
  | (go_at_call 157;refine (z0X f0 f1 f2 f3 bo wa bu _).mono ?_;rintro e j⟨rfl,h2⟩;have k:=i.later h2 i.lt;have s:=g.later h2 g.lt;have c:Hid (Bl w j):=zbt r.out h2;have l:w.heap.size<j.heap.size:=s.lt;have M:w.heap.size+1<j.heap.size:=k.lt;clear h2;clear g i r s D E F G H K L)
  | (go_at_call 158;refine (z1E f0 (f1+n) f2 f3 bo (wa - n) bu _).mono ?_;rintro e t⟨rfl,h3⟩;have h:=(k.alloc _).later h3 (by simp;omega);have m:Hid (Bl w t):=(c.out.alloc (Nat.le_of_lt l) _).trans (h3.mono (by simp;omega));obtain⟨R,u1,u2,S,T,U,V⟩:=h.frees;obtain⟨v0,v1,v2,v3,W,X,Y⟩:=h.cells;have o:Hid (BAt t (w.heap.size+1) 0 0 0 0 0 0 0):=h;clear k h h3 c))
 exact z1Q o.out m.out f0 (f1+n) f2 f3 bo (wa - n) bu 0 _ rfl rfl rfl
theorem z9w(f0 f1 f2 f3 bo wa bu n:Int)(w:World)(d:z0v f0 f1 f2 f3 bo wa bu=true)(a:0<=n)(b:n<=1125899906842624)(u:n<=wa) :
  Calls prog 143 #[J4 #[J I f0,J I f1,J I f2,J I f3,J I bo,J I wa,J I bu],J I 5,J I 2,J I n] w fun e w'=>e=.returned (.tuple #[J4 #[J I f0,J I f1,J I (f2+n),J I f3,J I bo,J I (wa - n),J I bu],J I 0])/\Bl w w':=by
 have p:=z0T f0 f1 f2 f3 bo wa bu;rw[d]at p;have q:=z2f n;rw[decide_eq_true ⟨a,b⟩]at q;unfold z0v at d;obtain⟨v,x,y,z,g4,A,B,C⟩:=of_decide_eq_true d;clear d;have N:wrap64 (wa - n)=wa - n:=z0a (by omega) (by omega)
 have P:wrap64 (f2+n)=f2+n:=z0a (by omega) (by omega)
 clear v x y z g4 A B C a b
 go_enter func143,ntmps143
 go_wp2_with fail
 refine (p _).mono ?_;rintro e w1⟨rfl,f⟩;have g:=((BAt.new w f0 f1 f2 f3 bo wa bu).alloc (J5 #[J I 0,J I 0,J I 0,J I 0,J I 0,J I 0,J I 0] 24)).later f (by simp;omega)
 have i:BAt w1 (w.heap.size+1) 0 0 0 0 0 0 0:=by
  have:=(BAt.new (w.alloc (J5 #[J I f0,J I f1,J I f2,J I f3,J I bo,J I wa,J I bu] 24)) 0 0 0 0 0 0 0).later f (by simp)
  simpa using this
 have r:Hid (Bl w w1):=((znw w _).alloc (by simp) _).trans (f.mono (by simp;omega))
 clear f;obtain⟨D,E,F,G,H,K,L⟩:=g.cells
 go_wp2_with (first
  | (go_at_call 138;refine (q _).mono ?_;rintro e Q⟨rfl,rfl⟩)
  | (go_at_call 157;refine (z0X f0 f1 f2 f3 bo wa bu _).mono ?_;rintro e j⟨rfl,h2⟩;have k:=i.later h2 i.lt;have s:=g.later h2 g.lt;have c:Hid (Bl w j):=zbt r.out h2;have l:w.heap.size<j.heap.size:=s.lt;have M:w.heap.size+1<j.heap.size:=k.lt;clear h2;clear g i r s D E F G H K L)
  | (go_at_call 158;refine (z1E f0 f1 (f2+n) f3 bo (wa - n) bu _).mono ?_;rintro e t⟨rfl,h3⟩;have h:=(k.alloc _).later h3 (by simp;omega);have m:Hid (Bl w t):=(c.out.alloc (Nat.le_of_lt l) _).trans (h3.mono (by simp;omega));obtain⟨R,u1,u2,S,T,U,V⟩:=h.frees;obtain⟨v0,v1,v2,v3,W,X,Y⟩:=h.cells;have o:Hid (BAt t (w.heap.size+1) 0 0 0 0 0 0 0):=h;clear k h h3 c))
 exact z1Q o.out m.out f0 f1 (f2+n) f3 bo (wa - n) bu 0 _ rfl rfl rfl
theorem z8C(f0 f1 f2 f3 bo wa bu n:Int)(w:World)(d:z0v f0 f1 f2 f3 bo wa bu=true)(a:0<=n)(b:n<=1125899906842624)(u:n<=wa) :
  Calls prog 143 #[J4 #[J I f0,J I f1,J I f2,J I f3,J I bo,J I wa,J I bu],J I 5,J I 3,J I n] w fun e w'=>e=.returned (.tuple #[J4 #[J I f0,J I f1,J I f2,J I (f3+n),J I bo,J I (wa - n),J I bu],J I 0])/\Bl w w':=by
 have p:=z0T f0 f1 f2 f3 bo wa bu;rw[d]at p;have q:=z2f n;rw[decide_eq_true ⟨a,b⟩]at q;unfold z0v at d;obtain⟨v,x,y,z,g4,A,B,C⟩:=of_decide_eq_true d;clear d;have N:wrap64 (wa - n)=wa - n:=z0a (by omega) (by omega)
 have P:wrap64 (f3+n)=f3+n:=z0a (by omega) (by omega)
 clear v x y z g4 A B C a b
 go_enter func143,ntmps143
 go_wp2_with fail
 refine (p _).mono ?_;rintro e w1⟨rfl,f⟩;have g:=((BAt.new w f0 f1 f2 f3 bo wa bu).alloc (J5 #[J I 0,J I 0,J I 0,J I 0,J I 0,J I 0,J I 0] 24)).later f (by simp;omega)
 have i:BAt w1 (w.heap.size+1) 0 0 0 0 0 0 0:=by
  have:=(BAt.new (w.alloc (J5 #[J I f0,J I f1,J I f2,J I f3,J I bo,J I wa,J I bu] 24)) 0 0 0 0 0 0 0).later f (by simp)
  simpa using this
 have r:Hid (Bl w w1):=((znw w _).alloc (by simp) _).trans (f.mono (by simp;omega))
 clear f;obtain⟨D,E,F,G,H,K,L⟩:=g.cells
 go_wp2_with (first
  | (go_at_call 138;refine (q _).mono ?_;rintro e Q⟨rfl,rfl⟩)
  | (go_at_call 157;refine (z0X f0 f1 f2 f3 bo wa bu _).mono ?_;rintro e j⟨rfl,h2⟩;have k:=i.later h2 i.lt;have s:=g.later h2 g.lt;have c:Hid (Bl w j):=zbt r.out h2;have l:w.heap.size<j.heap.size:=s.lt;have M:w.heap.size+1<j.heap.size:=k.lt;clear h2;clear g i r s D E F G H K L)
  | (go_at_call 158;refine (z1E f0 f1 f2 (f3+n) bo (wa - n) bu _).mono ?_;rintro e t⟨rfl,h3⟩;have h:=(k.alloc _).later h3 (by simp;omega);have m:Hid (Bl w t):=(c.out.alloc (Nat.le_of_lt l) _).trans (h3.mono (by simp;omega));obtain⟨R,u1,u2,S,T,U,V⟩:=h.frees;obtain⟨v0,v1,v2,v3,W,X,Y⟩:=h.cells;have o:Hid (BAt t (w.heap.size+1) 0 0 0 0 0 0 0):=h;clear k h h3 c))
 exact z1Q o.out m.out f0 f1 f2 (f3+n) bo (wa - n) bu 0 _ rfl rfl rfl
end
end Go.Proofs.YtjghbciepinofaaGreat
