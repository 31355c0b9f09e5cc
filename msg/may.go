package msg

import (
	"legate/api"
	"legate/name"
)

const (
	minKvno      = 1
	minBlob      = 1
	minErr       = 1
	maxErr       = 255
	maxTransited = 300

	// What Transited may have: what can be read.
	minSign = 0x20
	maxSign = 0x7e
)

// isMsg tells whether a message may be.
func isMsg(m api.Msg) bool {
	if !equal(m, named(m)) {
		return false
	}
	switch m.Kind {
	case api.MsgAsReq:
		return isAsReq(m.AsReq)
	case api.MsgTgsReq:
		return isTgsReq(m.TgsReq)
	case api.MsgRep:
		return isRep(m.Rep)
	case api.MsgApReq:
		return isApReq(m.ApReq)
	case api.MsgFail:
		return isFail(m.Fail)
	}
	return false
}

func isAsReq(q api.AsReq) bool {
	return name.IsPrinc(q.Client) && name.IsPrinc(q.Server) && isTime(q.Till) && isNonce(q.Nonce)
}

func isTgsReq(q api.TgsReq) bool {
	return isTicket(q.Ticket) && isBlob(q.Authn) && name.IsPrinc(q.Server) && isTime(q.Till) && isNonce(q.Nonce)
}

func isRep(r api.Rep) bool {
	return name.IsPrinc(r.Client) && isTicket(r.Ticket) && isBlob(r.Blob)
}

func isApReq(q api.ApReq) bool {
	return isTicket(q.Ticket) && isBlob(q.Authn)
}

func isFail(f api.Fail) bool {
	return within(int(f.Err), minErr, maxErr) && isNonce(f.Nonce)
}

func isTicket(t api.Ticket) bool {
	return name.IsPrinc(t.Server) && within(t.Kvno, minKvno, api.MaxKvno) && isBlob(t.Blob)
}

func isPart(p api.Part) bool {
	return name.IsPrinc(p.Client) && isTransited(p.Transited) && isTime(p.Start) && isTime(p.End)
}

func isAuthn(a api.Authn) bool {
	return name.IsPrinc(a.Client) && isTime(a.Time) && isNonce(a.Seq)
}

func isRepPart(p api.RepPart) bool {
	return name.IsPrinc(p.Server) && isTime(p.Start) && isTime(p.End) && isNonce(p.Nonce)
}

func isTransited(s string) bool {
	if len(s) > maxTransited {
		return false
	}
	for i := range len(s) {
		if s[i] < minSign || s[i] > maxSign {
			return false
		}
	}
	return true
}

func isBlob(b []byte) bool { return within(len(b), minBlob, api.MaxBlob) }

func isTime(n int) bool { return within(n, 0, api.MaxTime) }

func isNonce(n int) bool { return within(n, 0, api.MaxNonce) }

func within(n, low, high int) bool { return n >= low && n <= high }
