package msg

import (
	"legate/api"
	"legate/der"
)

// Tags of what has elements.
const (
	tagPrinc   = 0x30
	tagTicket  = 0x61
	tagAuthn   = 0x62
	tagPart    = 0x63
	tagAsReq   = 0x6a
	tagRep     = 0x6b
	tagTgsReq  = 0x6c
	tagApReq   = 0x6e
	tagRepPart = 0x7a
	tagFail    = 0x7e
)

// What is laid stands ahead of how it is taken: both name the same elements in
// the same order. What stands in one literal is taken from left to right.

// layMsg is the elements of a message that may be.
func layMsg(m api.Msg) []byte {
	switch m.Kind {
	case api.MsgAsReq:
		return layAsReq(m.AsReq)
	case api.MsgTgsReq:
		return layTgsReq(m.TgsReq)
	case api.MsgRep:
		return layRep(m.Rep)
	case api.MsgApReq:
		return layApReq(m.ApReq)
	}
	return layFail(m.Fail)
}

// takeMsg is a message of the Kind that its first byte tells.
func takeMsg(b []byte) api.Msg {
	if len(b) == 0 {
		return api.Msg{}
	}
	c := der.Open(b).Into(b[0])
	switch b[0] {
	case tagAsReq:
		return api.Msg{Kind: api.MsgAsReq, AsReq: takeAsReq(c)}
	case tagTgsReq:
		return api.Msg{Kind: api.MsgTgsReq, TgsReq: takeTgsReq(c)}
	case tagRep:
		return api.Msg{Kind: api.MsgRep, Rep: takeRep(c)}
	case tagApReq:
		return api.Msg{Kind: api.MsgApReq, ApReq: takeApReq(c)}
	case tagFail:
		return api.Msg{Kind: api.MsgFail, Fail: takeFail(c)}
	}
	return api.Msg{}
}

func layAsReq(q api.AsReq) []byte {
	return der.Wrap(tagAsReq, layPrinc(q.Client), layPrinc(q.Server), der.Int(q.Till), der.Int(q.Nonce))
}

func takeAsReq(c *der.Cursor) api.AsReq {
	return api.AsReq{Client: takePrinc(c), Server: takePrinc(c), Till: c.Int(), Nonce: c.Int()}
}

func layTgsReq(q api.TgsReq) []byte {
	return der.Wrap(tagTgsReq, layTicket(q.Ticket), der.Octets(q.Authn), layPrinc(q.Server), der.Int(q.Till), der.Int(q.Nonce))
}

func takeTgsReq(c *der.Cursor) api.TgsReq {
	return api.TgsReq{Ticket: takeTicket(c), Authn: c.Octets(), Server: takePrinc(c), Till: c.Int(), Nonce: c.Int()}
}

func layRep(r api.Rep) []byte {
	return der.Wrap(tagRep, layPrinc(r.Client), layTicket(r.Ticket), der.Octets(r.Blob))
}

func takeRep(c *der.Cursor) api.Rep {
	return api.Rep{Client: takePrinc(c), Ticket: takeTicket(c), Blob: c.Octets()}
}

func layApReq(q api.ApReq) []byte {
	return der.Wrap(tagApReq, layTicket(q.Ticket), der.Octets(q.Authn))
}

func takeApReq(c *der.Cursor) api.ApReq {
	return api.ApReq{Ticket: takeTicket(c), Authn: c.Octets()}
}

func layFail(f api.Fail) []byte {
	return der.Wrap(tagFail, der.Int(int(f.Err)), der.Int(f.Nonce))
}

func takeFail(c *der.Cursor) api.Fail {
	return api.Fail{Err: api.Errno(c.Int()), Nonce: c.Int()}
}

func layPart(p api.Part) []byte {
	return der.Wrap(tagPart, layPrinc(p.Client), der.Octets(p.Session[:]), der.Text(p.Transited), der.Int(p.Start), der.Int(p.End))
}

func takePart(b []byte) api.Part {
	c := der.Open(b).Into(tagPart)
	return api.Part{Client: takePrinc(c), Session: takeKey(c), Transited: c.Text(), Start: c.Int(), End: c.Int()}
}

func layAuthn(a api.Authn) []byte {
	return der.Wrap(tagAuthn, layPrinc(a.Client), der.Int(a.Time), der.Int(a.Seq))
}

func takeAuthn(b []byte) api.Authn {
	c := der.Open(b).Into(tagAuthn)
	return api.Authn{Client: takePrinc(c), Time: c.Int(), Seq: c.Int()}
}

func layRepPart(p api.RepPart) []byte {
	return der.Wrap(tagRepPart, der.Octets(p.Session[:]), layPrinc(p.Server), der.Int(p.Start), der.Int(p.End), der.Int(p.Nonce))
}

func takeRepPart(b []byte) api.RepPart {
	c := der.Open(b).Into(tagRepPart)
	return api.RepPart{Session: takeKey(c), Server: takePrinc(c), Start: c.Int(), End: c.Int(), Nonce: c.Int()}
}

func layTicket(t api.Ticket) []byte {
	return der.Wrap(tagTicket, layPrinc(t.Server), der.Int(t.Kvno), der.Octets(t.Blob))
}

func takeTicket(c *der.Cursor) api.Ticket {
	c = c.Into(tagTicket)
	return api.Ticket{Server: takePrinc(c), Kvno: c.Int(), Blob: c.Octets()}
}

func layPrinc(p api.Princ) []byte {
	return der.Wrap(tagPrinc, der.Text(p.Realm), der.Text(p.Name))
}

func takePrinc(c *der.Cursor) api.Princ {
	c = c.Into(tagPrinc)
	return api.Princ{Realm: c.Text(), Name: c.Text()}
}

// takeKey is the bytes of a key. Of fewer or more it is a key, too, but one that
// is laid as other bytes.
func takeKey(c *der.Cursor) api.Key {
	var k api.Key
	copy(k[:], c.Octets())
	return k
}
