"""Treaties: reads what powers promise one another and judges what is broken."""
