package stake

import (
	"suzerain/api"
	"suzerain/bank"
	"suzerain/ratio"
)

// Good is whether a stake is one: what validators have is what is bonded, what waits is what waits, shares are shared.
func Good(s api.Stake) bool {
	if !bank.Good(s.Bank) || s.Next < 1 || s.Next > api.MaxAmount {
		return false
	}
	if len(s.Waits) > api.MaxWaits || !waitsGood(s.Waits, s.Next) {
		return false
	}
	for v := range s.Validators {
		if !validatorGood(&s.Validators[v]) || !sharesGood(&s, v) {
			return false
		}
	}
	// Last: only sums of amounts cannot go round.
	return isBalanced(&s)
}

func validatorGood(at *api.Validator) bool {
	if !ratio.In(at.Tokens) || !ratio.In(at.Shares) || !ratio.In(at.Lost) {
		return false
	}
	if at.Tokens > 0 && at.Shares == 0 {
		return false
	}
	return at.Jailed || !at.Dead
}

// sharesGood is whether the delegators' shares on a validator are amounts, and come to its own.
func sharesGood(s *api.Stake, v int) bool {
	sum := 0
	for d := range s.Shares {
		own := s.Shares[d][v]
		if !ratio.In(own) {
			return false
		}
		sum += own
	}
	return sum == s.Validators[v].Shares
}

// waitsGood is whether unbondings have numbers that rise below the next one's, and nothing out of its bounds.
func waitsGood(waits []api.Wait, next int) bool {
	last := 0
	for _, w := range waits {
		if w.Number <= last || w.Number >= next {
			return false
		}
		if !isDelegator(w.D) || !isValidator(w.V) || !ratio.In(w.Amount) || w.Height < 0 || w.Due < 0 {
			return false
		}
		last = w.Number
	}
	return true
}

// isBalanced is whether the bank has just what validators have, what waits, and what was lost.
func isBalanced(s *api.Stake) bool {
	tokens, lost, amounts := 0, 0, 0
	for _, at := range s.Validators {
		tokens += at.Tokens
		lost += at.Lost
	}
	for _, w := range s.Waits {
		amounts += w.Amount
	}
	return tokens == s.Bank.Bonded && amounts == s.Bank.Waiting && lost == s.Bank.Burnt
}
