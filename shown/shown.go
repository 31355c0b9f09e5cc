// Package shown is what is shown to a realm's server, and to a service: a
// ticket, and the authenticator that goes with it. Chapters 10 and 14 look at
// these alike.
package shown

import (
	"legate/api"
	"legate/msg"
	"legate/ring"
	"legate/seal"
)

// Ticket is what a ticket seals, if a key of the ring opens it, and it is of now.
func Ticket(r *ring.Ring, t api.Ticket, now int) (api.Part, api.Errno) {
	box, err := r.Box(t.Server, t.Kvno)
	if err != api.OK {
		return api.Part{}, api.ErrKey
	}
	b, err := box.Open(api.UseTicket, t.Blob)
	if err != api.OK {
		return api.Part{}, api.ErrSeal
	}
	p, err := msg.DecodePart(b)
	if err != api.OK {
		return api.Part{}, api.ErrForm
	}
	if p.End < now {
		return api.Part{}, api.ErrExpired
	}
	if p.Start > now+api.Skew {
		return api.Part{}, api.ErrSkew
	}
	return p, api.OK
}

// Authn is an authenticator that the client has to have sealed with the
// session's Box. Whether it is of now is left to whoever asks.
func Authn(session *seal.Box, usage int, authn []byte, client api.Princ) (api.Authn, api.Errno) {
	b, err := session.Open(usage, authn)
	if err != api.OK {
		return api.Authn{}, api.ErrSeal
	}
	a, err := msg.DecodeAuthn(b)
	if err != api.OK {
		return api.Authn{}, api.ErrForm
	}
	if a.Client != client {
		return api.Authn{}, api.ErrMatch
	}
	return a, api.OK
}
