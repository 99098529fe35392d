/-
  The modulus n is a prime number: Pocklington's test, by a chain.
-/
import Derived.Test.YtajjjdmjlloifaaFeNum
namespace Go.Proofs.Ytajjjdmjlloifaa.Nt

theorem pr_44706919 : Pr 44706919 := small_prime (b := 6687) (by decide) (by decide) (by decide +kernel)
theorem pr_120233 : Pr 120233 := small_prime (b := 347) (by decide) (by decide) (by decide +kernel)
theorem pr_545358713 : Pr 545358713 := small_prime (b := 23354) (by decide) (by decide) (by decide +kernel)
theorem pr_305873 : Pr 305873 := small_prime (b := 554) (by decide) (by decide) (by decide +kernel)
theorem pr_293 : Pr 293 := small_prime (b := 18) (by decide) (by decide) (by decide +kernel)
theorem pr_n1 : Pr 174723607534414371449 := by
  refine pock (F := 44706919 * 120233) (by decide) (fun r hr hrN => ?_) (by decide)
  have h0 := pock_pm 68 2 (by decide) pr_44706919 (by decide) (by decide +kernel) (by decide +kernel) (by decide) r hr hrN
  have h1 := pock_pm 68 2 (by decide) pr_120233 (by decide) (by decide +kernel) (by decide +kernel) (by decide) r hr hrN
  exact Nat.Coprime.mul_dvd_of_dvd_of_dvd (by decide) h0 h1
theorem pr_n3 : Pr 29047611873442575647497758179 := by
  refine pock (F := 545358713 * (305873 * 293)) (by decide) (fun r hr hrN => ?_) (by decide)
  have h0 := pock_pm 95 2 (by decide) pr_545358713 (by decide) (by decide +kernel) (by decide +kernel) (by decide) r hr hrN
  have h1 := pock_pm 95 2 (by decide) pr_305873 (by decide) (by decide +kernel) (by decide +kernel) (by decide) r hr hrN
  have h2 := pock_pm 95 2 (by decide) pr_293 (by decide) (by decide +kernel) (by decide +kernel) (by decide) r hr hrN
  exact Nat.Coprime.mul_dvd_of_dvd_of_dvd (by decide) h0 (Nat.Coprime.mul_dvd_of_dvd_of_dvd (by decide) h1 h2)
theorem pr_n2 : Pr 341948486974166000522343609283189 :=
  pock (F := 29047611873442575647497758179) (by decide) (fun r hr hrN => pock_pm 109 2 (by decide) pr_n3 (by decide) (by decide +kernel) (by decide +kernel) (by decide) r hr hrN) (by decide)
theorem pr_n : Pr 115792089237316195423570985008687907852837564279074904382605163141518161494337 := by
  refine pock (F := 174723607534414371449 * 341948486974166000522343609283189) (by decide) (fun r hr hrN => ?_) (by decide)
  have h0 := pock_pm 256 2 (by decide) pr_n1 (by decide) (by decide +kernel) (by decide +kernel) (by decide) r hr hrN
  have h1 := pock_pm 256 2 (by decide) pr_n2 (by decide) (by decide +kernel) (by decide +kernel) (by decide) r hr hrN
  exact Nat.Coprime.mul_dvd_of_dvd_of_dvd (by decide) h0 h1
end Go.Proofs.Ytajjjdmjlloifaa.Nt
