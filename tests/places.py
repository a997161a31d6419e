"""Every place of a source where an E or a REF stands: `HERE` stands for it."""

E_PLACES = [
    "model A extends B(a = HERE); end A;",
    "model A extends B(a(b(c = 1, d = HERE))); end A;",
    "model A Tank x[HERE]; end A;",
    "model A Tank x(a = 1, b = HERE); end A;",
    "model A Tank x(a(b = HERE)); end A;",
    "model A Real x = HERE; end A;",
    "model A equation a = HERE; end A;",
    "model A equation HERE = a; end A;",
    "model A equation for i in HERE : 1 loop end for; end A;",
    "model A equation for i in 1 : HERE loop end for; end A;",
    "model A equation if HERE then end if; end A;",
    "model A equation when HERE then end when; end A;",
    "model A equation when a then b = HERE; end when; end A;",
    "model A equation when a then reset(b, HERE); end when; end A;",
    "model A equation for i in 1 : 2 loop if a then else a = HERE; end if; end for; end A;",
    "model A initial equation a = HERE; end A;",
    "model A initial equation HERE = a; end A;",
    "model A initial equation for i in HERE : 1 loop end for; end A;",
    "model A initial equation for i in 1 : HERE loop end for; end A;",
    "model A initial equation if HERE then end if; end A;",
    "model A initial equation if a then HERE = b; end if; end A;",
]
REF_PLACES = [
    "model A equation connect(HERE, a); end A;",
    "model A equation connect(a, HERE); end A;",
    "model A equation when a then HERE = 1; end when; end A;",
    "model A equation when a then reset(HERE, 1); end when; end A;",
    "model A equation for i in 1 : 2 loop connect(HERE, a); end for; end A;",
]
