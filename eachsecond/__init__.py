"""Numbers that ring, and what each second costs."""
