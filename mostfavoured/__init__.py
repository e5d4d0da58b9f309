"""As the most favoured: what states take of one another's goods in the end."""
