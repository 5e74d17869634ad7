/-
  Stored blocks laid by hand, of bits alone: they are read.
-/
import Derived.Test.YtfoaaamcpknjnahRowD
import Derived.Test.YtfoaaamcpknjnahIun0
namespace Go.Proofs.Ytfoaaamcpknjnah
set_option linter.unusedVariables false
set_option maxRecDepth 100000

/-- what stands ahead of n bytes that are stored -/
def hdr5 (l n : Nat) : List Nat := [l, n % 256, n / 256, 255 - n % 256, 255 - n / 256]
theorem numBits_split (x a : Nat) : ∀ b, numBits x (a + b) = numBits x a ++ numBits (x / 2 ^ a) b
  | 0 => by simp [numBits]
  | b + 1 => by
    rw [← Nat.add_assoc, numBits, numBits_split x a b, numBits, List.append_assoc, Nat.testBit_div_two_pow, Nat.add_comm b a]
theorem numBits_mod (x : Nat) : ∀ m n, n ≤ m → numBits (x % 2 ^ m) n = numBits x n
  | m, 0, _ => rfl
  | m, n + 1, h => by
    rw [numBits, numBits, numBits_mod x m n (by omega), Nat.testBit_mod_two_pow]
    simp [show n < m by omega]
theorem bits16 (n : Nat) (h : n ≤ 65535) : numBits n 16 = numBits (n % 256) 8 ++ numBits (n / 256) 8 := by
  have e := numBits_split n 8 8
  have e2 := numBits_mod n 8 8 (Nat.le_refl _)
  rw [show (8 + 8 : Nat) = 16 from rfl, ← e2] at e
  exact e
theorem bit8 (l : Nat) (h : l ≤ 1) : numBits l 8 = numBits l 1 ++ (numBits 0 2 ++ List.replicate 5 false) := by
  rcases (by omega : l = 0 ∨ l = 1) with rfl | rfl <;> decide
theorem hdr_bits (l n : Nat) (hl : l ≤ 1) (hn : n ≤ 65535) (R : List Bool) : rowB (hdr5 l n) 5 ++ R = numBits l 1 ++ (numBits 0 2 ++ (List.replicate 5 false ++ (numBits n 16 ++ (numBits (65535 - n) 16 ++ R)))) := by
  have e1 : (65535 - n) % 256 = 255 - n % 256 := by omega
  have e2 : (65535 - n) / 256 = 255 - n / 256 := by omega
  unfold hdr5
  rw [rowB_cons, rowB_cons, rowB_cons, rowB_cons, rowB_cons, bit8 l hl, bits16 n hn, bits16 (65535 - n) (by omega), e1, e2]
  simp [rowB]
theorem iblock_sto (row R : List Bool) (u : US) (l : Nat) (p : List Nat) (hl : l ≤ 1) (he : u.e = 0) (hp8 : u.p % 8 = 0) (hv : ∀ j, p.getD j 0 < 256) (hlen : u.out.length + p.length ≤ 3000) (h : row.drop u.p = rowB (hdr5 l p.length ++ p) (5 + p.length) ++ R) :
    iblock row u = (l, ⟨u.p + 8 * (5 + p.length), u.out ++ p, u.ks ++ [0], 0⟩) := by
  have h5 : (hdr5 l p.length).length = 5 := rfl
  have hra := rowB_app (hdr5 l p.length) p p.length
  rw [h5] at hra
  rw [hra, List.append_assoc, hdr_bits l p.length hl (by omega)] at h
  have hp : u.p ≤ row.length := by
    have := congrArg List.length h
    rw [List.length_drop, List.length_append, numBits_length] at this
    omega
  have c1 := uget_at row 1 l u _ he hp (by omega) h
  have d1 := drop_more h
  rw [numBits_length] at d1
  have q1 := drop_len h (by rw [numBits_length]; decide)
  rw [numBits_length] at q1
  have c2 := uget_at row 2 0 { u with p := u.p + 1 } _ he q1 (by decide) d1
  have d2 := drop_more d1
  have q2 := drop_len d1 (by rw [numBits_length]; decide)
  rw [numBits_length] at d2 q2
  have d3 := drop_more d2
  have q3 := drop_len d2 (by simp)
  rw [List.length_replicate] at d3 q3
  have e8 : u.p + 1 + 2 + 5 = (u.p + 1 + 2 + 7) / 8 * 8 := by omega
  have c4 := uget_at row 16 p.length ⟨u.p + 1 + 2 + 5, u.out, u.ks, u.e⟩ _ he q3 (by omega) d3
  have d4 := drop_more d3
  have q4 := drop_len d3 (by rw [numBits_length]; decide)
  rw [numBits_length] at d4 q4
  have c5 := uget_at row 16 (65535 - p.length) ⟨u.p + 1 + 2 + 5 + 16, u.out, u.ks, u.e⟩ _ he q4 (by omega) d4
  have d5 := drop_more d4
  have q5 := drop_len d4 (by rw [numBits_length]; decide)
  rw [numBits_length] at d5 q5
  have c6 := ustore_ok row p ⟨u.p + 1 + 2 + 5 + 16 + 16, u.out, u.ks, u.e⟩ R he q5 hv hlen d5
  have hist := istored_is row ⟨u.p + 1 + 2, u.out, u.ks, u.e⟩ _ _ (u.p + 1 + 2 + 5) _ _ e8.symm c4 c5
  simp only at hist
  rw [if_neg (fun c => c he), if_neg (by omega), if_neg (by omega), c6] at hist
  unfold iblock
  rw [c1]
  simp only
  rw [if_neg (fun c => c he), c2]
  simp only
  rw [if_neg (fun c => c he)]
  unfold ikind ikeep ukept
  rw [if_pos rfl, hist]
  simp only
  rw [if_pos he, he]
  congr 2
  omega
def stoAll (ps : List (List Nat)) : List Nat := ps.flatMap (fun p => hdr5 0 p.length ++ p)
theorem sto_len (ps : List (List Nat)) : (stoAll ps).length = 5 * ps.length + ps.flatten.length := by
  induction ps with
  | nil => rfl
  | cons p r ih =>
    unfold stoAll at ih ⊢
    rw [List.flatMap_cons, List.length_append, List.length_append, ih, List.flatten_cons, List.length_append, List.length_cons]
    show 5 + p.length + _ = _
    omega
theorem iblocks_sto (row : List Bool) : ∀ (ps : List (List Nat)) (F : Nat) (u : US), ps.length + 1 ≤ F → u.e = 0 → u.p % 8 = 0 → (∀ p ∈ ps, ∀ j, p.getD j 0 < 256) → u.out.length + ps.flatten.length ≤ 3000 → row.drop u.p = rowB (stoAll ps ++ hdr5 1 0) ((stoAll ps).length + 5) →
    iblocks row F u = ⟨u.p + 8 * ((stoAll ps).length + 5), u.out ++ ps.flatten, u.ks ++ List.replicate (ps.length + 1) 0, 0⟩
  | [], F, u, hF, he, h8, hv, hlen, h => by
    obtain ⟨F, rfl⟩ : ∃ F', F = F' + 1 := ⟨F - 1, by simp at hF; omega⟩
    have hb := iblock_sto row [] u 1 [] (Nat.le_refl _) he h8 (by simp) (by simpa using hlen) (by
      rw [h]
      simp [stoAll])
    rw [iblocks, hb]
    simp only
    rw [if_neg (fun c => absurd c.1 (by decide))]
    simp [stoAll]
  | p :: ps, F, u, hF, he, h8, hv, hlen, h => by
    obtain ⟨F, rfl⟩ : ∃ F', F = F' + 1 := ⟨F - 1, by simp at hF; omega⟩
    have hc : stoAll (p :: ps) = (hdr5 0 p.length ++ p) ++ stoAll ps := by unfold stoAll; rw [List.flatMap_cons]
    have hpl : (hdr5 0 p.length ++ p).length = 5 + p.length := by rw [List.length_append]; rfl
    have hlc : (stoAll (p :: ps)).length = (5 + p.length) + (stoAll ps).length := by rw [hc, List.length_append, hpl]
    have hr : rowB (stoAll (p :: ps) ++ hdr5 1 0) ((stoAll (p :: ps)).length + 5) = rowB (hdr5 0 p.length ++ p) (5 + p.length) ++ rowB (stoAll ps ++ hdr5 1 0) ((stoAll ps).length + 5) := by
      have := rowB_app (hdr5 0 p.length ++ p) (stoAll ps ++ hdr5 1 0) ((stoAll ps).length + 5)
      rw [hpl] at this
      rw [hlc, hc, List.append_assoc, ← this]
      congr 1
    rw [hr] at h
    rw [List.flatten_cons, List.length_append] at hlen
    have hb := iblock_sto row _ u 0 p (Nat.zero_le _) he h8 (hv p (List.mem_cons_self)) (by omega) h
    have hd := drop_more h
    rw [rowB_length] at hd
    rw [iblocks, hb]
    simp only
    rw [if_pos ⟨trivial, trivial⟩]
    have ih := iblocks_sto row ps F ⟨u.p + 8 * (5 + p.length), u.out ++ p, u.ks ++ [0], 0⟩ (by simp at hF; omega) rfl (by show (u.p + 8 * (5 + p.length)) % 8 = 0; omega) (fun x hx => hv x (List.mem_cons_of_mem _ hx)) (by show (u.out ++ p).length + _ ≤ _; rw [List.length_append]; omega) hd
    rw [ih, hlc, List.flatten_cons]
    simp only [List.append_assoc, List.length_cons]
    congr 1
    · omega
theorem iunpk_sto (ps : List (List Nat)) (n : Nat) (hn : (stoAll ps).length + 5 = n) (hv : ∀ p ∈ ps, ∀ j, p.getD j 0 < 256) (hlen : ps.flatten.length ≤ 3000) : iunpk (rowB (stoAll ps ++ hdr5 1 0) n) = ⟨8 * n, ps.flatten, List.replicate (ps.length + 1) 0, 0⟩ := by
  unfold iunpk
  have hs := sto_len ps
  rw [iblocks_sto (rowB (stoAll ps ++ hdr5 1 0) n) ps _ US0 (by rw [rowB_length]; omega) rfl rfl hv (by show 0 + _ ≤ _; omega) (by rw [← hn]; rfl)]
  rw [hn]
  simp [US0]
end Go.Proofs.Ytfoaaamcpknjnah
