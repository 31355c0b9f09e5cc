package kdc

import (
	"strings"

	"legate/api"
)

// Texts that are handed in are not kept, nor pieces of them, and those that are
// kept are not handed out: all here are copies.

func clonePrinc(p api.Princ) api.Princ {
	return api.Princ{Realm: strings.Clone(p.Realm), Name: strings.Clone(p.Name)}
}

func cloneTopo(t api.Topo) api.Topo {
	c := api.Topo{Realms: cloneTexts(t.Realms)}
	for _, l := range t.Links {
		c.Links = append(c.Links, [2]string{strings.Clone(l[0]), strings.Clone(l[1])})
	}
	for _, p := range t.Paths {
		c.Paths = append(c.Paths, api.Path{From: strings.Clone(p.From), To: strings.Clone(p.To), Via: cloneTexts(p.Via)})
	}
	return c
}

func cloneTexts(l []string) []string {
	c := make([]string, 0, len(l))
	for _, s := range l {
		c = append(c, strings.Clone(s))
	}
	return c
}
