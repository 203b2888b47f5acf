package machine

import (
	"mendkernel/api"
	"mendkernel/client"
	"mendkernel/guard"
	"mendkernel/serve"
	"mendkernel/wire"
)

// deed is what a step does, n being its N: it may change the machine that it is handed.
type deed func(m api.Machine, n int) (api.Machine, api.Errno)

// deeds answers what steps do, by their kinds: a kind that is not there is none.
func deeds() map[int]deed {
	return map[int]deed{
		api.StepClient: clientGoes,
		api.StepServer: serverGoes,
		api.StepFall:   falls,
		api.StepTick:   ticks,
	}
}

// clientGoes has client n hear or send; what finds no room was not sent.
func clientGoes(m api.Machine, n int) (api.Machine, api.Errno) {
	if !isThere(m, n) {
		return m, api.ErrNone
	}
	c, sent, err := client.Go(m.Clients[n], n, m.Server.Gen, m.Up)
	if err != api.OK {
		return m, err
	}
	m.Clients[n] = c
	if len(sent) == 0 {
		return m, api.OK
	}
	m.Server, err = serve.Come(m.Server, sent)
	return m, err
}

func serverGoes(m api.Machine, _ int) (api.Machine, api.Errno) {
	if !m.Up {
		return m, api.ErrDead
	}
	s, v, said, err := serve.Go(m.Store, m.Server)
	if err != api.OK {
		return m, err
	}
	m.Store, m.Server = s, v
	return tell(m, said), api.OK
}

func falls(m api.Machine, _ int) (api.Machine, api.Errno) { return guard.Fall(m) }

func ticks(m api.Machine, _ int) (api.Machine, api.Errno) { return guard.Tick(m), api.OK }

// tell has what the server said come to the client that it is for; if it said nothing, or nobody is there, nothing comes.
func tell(m api.Machine, said []byte) api.Machine {
	a, err := wire.ReadAnswer(said)
	if err == api.OK && isThere(m, a.Client) {
		m.Clients[a.Client] = client.Come(m.Clients[a.Client], said)
	}
	return m
}

func isThere(m api.Machine, n int) bool { return n >= 0 && n < len(m.Clients) }
