"""Who is inside a house, by rows that come late or are lost."""
