/- Contracts of Combine and Consistent in the words of the laws of layer 4. -/
import Derived.Test.YtclmenpclkmfeaaDoorVCrtMd
import Derived.Test.YtclmenpclkmfeaaDoorVCrtQ
namespace Go.Proofs.YtclmenpclkmfeaaDoor
open Go.RowKit Go.Maps
theorem Cmb.cons {L : List (Nat × Nat)} {z : Int} (h : Cmb L z) (hok : OkR L) : Cons L z := ⟨hok, fun k hk => by
  have hm := getD_mem hk
  have h1 := h.res _ hm
  have h2 := hok.bound _ hm
  obtain ⟨c, hc⟩ := h1
  generalize (L.getD k (0, 0)).1 = p at *
  generalize (L.getD k (0, 0)).2 = v at *
  have e : z = (v : Int) + (p : Int) * c := by omega
  rw [e, Int.add_mul_emod_self_left]
  exact Int.emod_eq_of_lt (by omega) (by omega)⟩
theorem Cmb.sz {L : List (Nat × Nat)} {z : Int} (h : Cmb L z) (hp : PrL L) (hl : L.length ≤ 1000) : Sz (L.length + 1) z ∧ Sz (L.length + 1) ((prodP L : Nat) : Int) := by
  have h1 := prodP_sz hp.lt (Nat.le_refl L.length) hl
  rw [List.take_length] at h1
  have h2 := h.rg
  exact ⟨h1.abs_le' (by omega), h1⟩
theorem rcons_t (A : Option Addr) (n c : Nat) (L : List (Nat × Nat)) (ga : Bool) (Aa : Option Addr) (na ca : Nat) {k0 : Nat} {z : Int} (v : Bool) (w : World) (h : ResL w A n L) (ha : IsInt w ga Aa na ca z) (hn : n ≤ 1000) (hp : PrL L) (hok : OkR L) (sa : Sz k0 z) (hk0 : k0 ≤ 9000) (hv : v = true ↔ Cons L z) :
    Calls Tryd.prog 16 #[.slice A n c, .agg #[.bool ga, .slice Aa na ca]] w fun e w' => e = .returned (.bool v) ∧ Below w.heap.size w w' := by
  refine (rcons_z A n c L ga Aa na ca w h ha hn hp hok sa hk0).mono ?_
  rintro e w' ⟨u, rfl, hb, hu⟩
  have hu' := hu.out
  have huv : u = v := by
    cases u <;> cases v
    · rfl
    · have := hu'.2 (hv.1 rfl); cases this
    · have := hv.2 (hu'.1 rfl); cases this
    · rfl
  subst huv
  exact ⟨rfl, hb⟩
/-- Combine at a valid list of known primes. -/
theorem comb_pr (A : Option Addr) (n c : Nat) (L : List (Nat × Nat)) (w : World) (h : ResL w A n L) (hn : n ≤ 1000) (hT : TabW w) (h5 : TabN w.heap.size) (hok : OkR L) (hp : PrL L) :
    Calls Tryd.prog 12 #[.slice A n c] w fun e w' => ∃ g A n c z, e = .returned (.tuple #[.agg #[.bool g, .slice A n c], .int .i64 0]) ∧ IsInt w' g A n c z ∧ Below w.heap.size w w' ∧ Hid (Cmb L z) := by
  refine (comb_z A n c L w h hn hT h5 (fun _ x hx => (hp x hx).1)).mono ?_
  rintro e w' ⟨hb, ⟨_, g, A', n', c', z, rfl, hi, hz'⟩ | ⟨hno, _⟩⟩
  · exact ⟨g, A', n', c', z, rfl, hi, hb, hz'⟩
  · exact absurd hok hno.out
theorem OkR.lt2 {L : List (Nat × Nat)} (h : OkR L) (hp : PrL L) : ∀ x ∈ L, x.1 < 18446744073709551616 ∧ x.2 < 18446744073709551616 := hp.bd fun x hx => (h.bound x hx).1
end Go.Proofs.YtclmenpclkmfeaaDoor
