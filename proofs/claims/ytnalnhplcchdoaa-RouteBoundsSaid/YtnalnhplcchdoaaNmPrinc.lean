/-
  The code's Krbtgt, Target, IsPrinc of chapter 5.
-/
import Derived.Test.YtnalnhplcchdoaaNmUp
set_option linter.unusedVariables false
namespace Go.Proofs.Ytnalnhplcchdoaa.Nm
open Go.RowKit Go.Proofs.Ytnalnhplcchdoaa.Mem
theorem mk_append (a b : L) : ByteArray.mk a.toArray ++ ByteArray.mk b.toArray = ByteArray.mk (a ++ b).toArray := by
  apply ByteArray.ext
  simp
attribute [local go_sem] mk_at List.getElem_cons_zero List.getElem_cons_succ ext_tail ext_drop ext_mid ext_take

def krb : L := [107, 114, 98, 116, 103, 116, 47]
def tgL (n : L) : Bool := preL krb n && isL (cpL krb n)
def tgR (n : L) : L := if tgL n then n.drop 7 else []
def princL (r n : L) : Bool := isL r && (tgL n || wordL wordB n)
theorem tg_len {n : L} (h : n.length ≤ 1000000000) : (tgR n).length ≤ 1000000000 := by rw [tgR]; split <;> simp <;> omega

end Go.Proofs.Ytnalnhplcchdoaa.Nm
