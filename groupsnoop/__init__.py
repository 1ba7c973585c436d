"""Groups joined by hosts and snooped by a switch."""
