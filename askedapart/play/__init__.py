"""Players of the games of books: with plain signs, and with shared qubits."""
