"""The numbers and names of record kinds, classes and sections."""

KIND_A = 1
KIND_TXT = 16
KIND_AAAA = 28
KIND_SRV = 33

KIND_NAMES = {
    1: "A",
    2: "NS",
    5: "CNAME",
    6: "SOA",
    12: "PTR",
    15: "MX",
    16: "TXT",
    28: "AAAA",
    33: "SRV",
}

# Data of these kinds: so many bytes, then so many names, then so many bytes.
LAYOUTS = {
    1: (4, 0, 0),
    2: (0, 1, 0),
    5: (0, 1, 0),
    6: (0, 2, 20),
    12: (0, 1, 0),
    15: (2, 1, 0),
    28: (16, 0, 0),
    33: (6, 1, 0),
}

CLASS_NAMES = {1: "IN", 3: "CH", 4: "HS"}

SECTION_NAMES = ("Q", "AN", "NS", "AR")
QUESTIONS = 0
ANSWERS = 1
MORE = 3
