package sign

import "skylantern/api"

// Prove returns a proof that a polynomial is nowhere negative from a to b, or an error.
func Prove(p api.Poly, a, b api.Ratio) ([]api.SignPart, api.Errno) {
	if e := check(p, a, b); e != api.OK {
		return nil, e
	}
	s := survey(p, a, b)
	if s.negative() {
		s.keep(api.ErrCheck)
	}
	return finish(&s.calc, s.parts)
}

// Check returns OK if a proof proves that a polynomial is nowhere negative from a to b, or an error.
func Check(p api.Poly, a, b api.Ratio, proof []api.SignPart) api.Errno {
	if e := check(p, a, b, proof...); e != api.OK {
		return e
	}
	s := &study{p: p}
	if !s.proves(proof, a, b) {
		s.keep(api.ErrCheck)
	}
	return s.Errno
}

// proves reports whether parts are a proof from a to b.
func (s *study) proves(parts []api.SignPart, a, b api.Ratio) bool {
	reached, complete := a, false
look:
	for _, part := range parts {
		switch {
		case s.compare(part.From, reached) != 0, s.compare(part.From, part.To) > 0, !s.holds(part):
			complete = false
			break look
		}
		reached = part.To
		complete = s.compare(reached, b) == 0
	}
	return complete
}
