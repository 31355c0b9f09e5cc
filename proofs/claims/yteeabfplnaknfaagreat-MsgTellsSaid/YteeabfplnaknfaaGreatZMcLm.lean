/-
  What a message that came in holds is not too long to be counted.
-/
import Derived.Test.YteeabfplnaknfaaGreatZMcSize
import Derived.Test.YteeabfplnaknfaaGreatZOpenW
namespace Go.Proofs.YteeabfplnaknfaaGreat.Mc
open Go.RowKit Go.Proofs.YteeabfplnaknfaaGreat.Ms

theorem sz_of {m : Mg} (h : OpenW.Lm m) : SzM m := by
  obtain ⟨⟨⟨h1, h2⟩, ⟨h3, h4⟩⟩, ⟨⟨⟨h5, h6⟩, h7⟩, h8, ⟨h9, h10⟩⟩, ⟨⟨⟨h11, h12⟩, h13⟩, h14, ⟨h15, h16⟩⟩, ⟨⟨⟨h17, h18⟩, h19⟩, h20⟩⟩ := h
  unfold reachBytes at *
  exact ⟨by omega, by omega, by omega, by omega, by omega, by omega, by omega, by omega, by omega, by omega, by omega, by omega, by omega, by omega, by omega, by omega, by omega, by omega, by omega, by omega⟩
end Go.Proofs.YteeabfplnaknfaaGreat.Mc
